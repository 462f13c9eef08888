/-
  OWN TEXT: MarkIr, MarkS, MarkT, MarkBk, MarkOff, MarkOpF, LMRow.
-/
import Derived.Test.YtmdnjgihooflfaaGreatDoorRows
import Derived.Deep.RegionHeld3
import Derived.Test.YtmdnjgihooflfaaGreatDoorB36
namespace Go.Proofs.YtmdnjgihooflfaaGreatDoor
open Go.RowKit
open Go.Value (int)
open Go.IntKind (i64)
open Tryz
set_option maxHeartbeats 64000000
set_option maxRecDepth 100000
def zij (w:World)(base b n:Nat):Prop:=zdd w base 3 1 b n (λa=>∃ F,a=zS F n)
theorem zmu {w:World}{base b n:Nat}{k:Int}(hn:n<=1048576)(d:0<=k)(h1:k<=1000000000000000)(h:zij w base b n) :
  Calls prog 28 #[.slice (some ⟨b,0,none⟩) n n,int i64 k] w λe w'=>e=.returned (int i64 (k+n))/\zij w' base b n/\zx w w' (λx=>x=b):=by
 obtain⟨_,⟨S,rfl⟩,f⟩:=h;exact(zdE _ n n base S k w (by omega) d h1 f).mono λ_ _ ⟨a,b,c⟩=>⟨a,⟨_,⟨_,rfl⟩,b⟩,c.mono (λx i=>by obtain⟨g,e,e2⟩:=i;simp only[Option.some.injEq,Addr.mk.injEq] at e;omega)⟩
theorem zjx (g n base:Nat)(f:Nat->Value)(k0:Int)(w:World)(hn:n<=1048576)(h0:0<=k0)(h1:k0<=1000000000000000)(l:w.ownsRow base 223 2 (some (g,0),n,n) n ((List.range (n*2)).map f)) :
  Calls prog 127 #[(some (g,0),n,n),k0] w λe w'=>e=.returned (int i64 (k0+2*n))/\(∃ f,w'.ownsRow base 223 2 (some (g,0),n,n) n ((List.range (n*2)).map f))/\zx w w' (λb=>b=g):=by
 go_enter func127,ntmps127;go_wp2;go_loopw [1,5] (λq i wr=>∃ (t:Nat) (f:_),t<=n/\i=int i64 t/\q=int i64 (k0+2*t)/\wr.ownsRow base 223 2 (some (g,0),n,n) n ((List.range (n*2)).map f)/\zx w wr (λb=>b=g)) (λ_ i _=>n - (intOf i).toNat)
 case atStart=>exact⟨0,f,Jq _,rfl,by simp,l,zx.refl _ _⟩
 case round =>
  obtain⟨t,f,ht,rfl,rfl,a,c⟩:=hrel
  by_cases hlt:t<n
  ·have d:=zs a (t*2) (by omega) rfl
   have h:=zs a (t*2+1) (by omega) rfl
   have j:=a.frozenAt (t*2);have k:=a.frozenAt (t*2+1);go_wp2;go_roundw
   case rel=>exact⟨t+1,_,by omega,by go_num,by go_num,zL (zL a _ _) _ _,(c.set rfl _).set rfl _⟩
   case measure=>simp[intOf];omega
  ·obtain rfl:t=n:=by omega
   go_wp2;go_ret;exact⟨rfl,⟨_,a⟩,c⟩
theorem zhI (g n base:Nat)(f:Nat->Value)(k0:Int)(w:World)(hn:n<=1048576)(h0:0<=k0)(h1:k0<=1000000000000000)(l:w.ownsRow base 231 2 (some (g,0),n,n) n ((List.range (n*2)).map f)) :
  Calls prog 128 #[(some (g,0),n,n),k0] w λe w'=>e=.returned (int i64 (k0+2*n))/\(∃ f,w'.ownsRow base 231 2 (some (g,0),n,n) n ((List.range (n*2)).map f))/\zx w w' (λb=>b=g):=by
 go_enter func128,ntmps128;go_wp2;go_loopw [1,5] (λq i wr=>∃ (t:Nat) (f:_),t<=n/\i=int i64 t/\q=int i64 (k0+2*t)/\wr.ownsRow base 231 2 (some (g,0),n,n) n ((List.range (n*2)).map f)/\zx w wr (λb=>b=g)) (λ_ i _=>n - (intOf i).toNat)
 case atStart=>exact⟨0,f,Jq _,rfl,by simp,l,zx.refl _ _⟩
 case round =>
  obtain⟨t,f,ht,rfl,rfl,a,c⟩:=hrel
  by_cases hlt:t<n
  ·have d:=zs a (t*2) (by omega) rfl
   have h:=zs a (t*2+1) (by omega) rfl
   have j:=a.frozenAt (t*2);have k:=a.frozenAt (t*2+1);go_wp2;go_roundw
   case rel=>exact⟨t+1,_,by omega,by go_num,by go_num,zL (zL a _ _) _ _,(c.set rfl _).set rfl _⟩
   case measure=>simp[intOf];omega
  ·obtain rfl:t=n:=by omega
   go_wp2;go_ret;exact⟨rfl,⟨_,a⟩,c⟩
section
open Go.RowKit
structure QE (w:World)(base g N:Nat)(n m l c:Nat->Nat):Prop where
 ord:∀ i,i<N->g<l i/\l i<c i
 rise:∀ i j,i<j->j<N->c i<l j
 row:∃ f,w.ownsRow base 140 8 (some (g,0),N,N) N ((List.range (N*8)).map f)/\∀ i,i<N->f (i*8+5)=ZY (l i) (n i)/\f (i*8+6)=ZY (c i) (m i)
 lanes:∀ i,i<N->∃ f,w.ownsRow base 223 2 (ZY (l i) (n i)) (n i) ((List.range (n i*2)).map f)
 cabins:∀ i,i<N->∃ f,w.ownsRow base 231 2 (ZY (c i) (m i)) (m i) ((List.range (m i*2)).map f)
theorem Q1 {b n g:Nat}(h:(ZY b n).ownBlock=some g):b=g:=by
 simpa only [ZY,Value.ownBlock,Option.some.injEq] using h
section
variable {w w' : World} {base g N : Nat} {n m l c : Nat -> Nat}
theorem QE.cell (h:QE w base g N n m l c)(j:Nat)(b:j<N*8):∃ v,w.cell? (g,j)=some v:=by
 obtain⟨f,a,_⟩:=h.row;exact⟨_,zs a j b rfl⟩
theorem QE.ice (h:QE w base g N n m l c)(j:Nat):w.frozen? (g,j)=false:=by
 obtain⟨f,a,_⟩:=h.row;exact a.frozenAt j
theorem QE.lane (h:QE w base g N n m l c){t:Nat}(d:t<N):w.cell? (g,t*8+5)=some (some (l t,0),n t,n t):=by
 obtain⟨f,b,a⟩:=h.row;rw[zs b _ (by omega) rfl,(a t d).1];rfl
theorem QE.cabin (h:QE w base g N n m l c){t:Nat}(d:t<N):w.cell? (g,t*8+6)=some (some (c t,0),m t,m t):=by
 obtain⟨f,b,a⟩:=h.row;rw[zs b _ (by omega) rfl,(a t d).2];rfl
theorem QE.below (h:QE w base g N n m l c)(b:Below w.heap.size w w'):QE w' base g N n m l c:=by
 refine⟨h.ord,h.rise,?_,λi d=>?_,λi d=>?_⟩
 ·obtain⟨f,a,e⟩:=h.row;exact⟨f,zo b a,e⟩
 ·obtain⟨f,a⟩:=h.lanes i d;exact⟨f,zo b a⟩
 ·obtain⟨f,a⟩:=h.cabins i d;exact⟨f,zo b a⟩
theorem QE.put (h:QE w base g N n m l c)(j:Nat)(h5:j % 8≠5)(h6:j % 8≠6)(u:Value):QE (w.setCell (g,j) u) base g N n m l c:=by
 have p:=(zx.refl w (λb=>b=g)).set (a:=(g,j)) rfl u
 refine⟨h.ord,h.rise,?_,λi d=>?_,λi d=>?_⟩
 ·obtain⟨f,k,q⟩:=h.row
  refine⟨_,zL k j u,λi d=>?_⟩
  rw[Je (by omega),Je (by omega)]
  exact q i d
 ·obtain⟨f,k⟩:=h.lanes i d
  exact⟨f,p.own k (λb o e=>by have:=Q1 o;have:=h.ord i d;omega)⟩
 ·obtain⟨f,k⟩:=h.cabins i d
  exact⟨f,p.own k (λb o e=>by have:=Q1 o;have:=h.ord i d;omega)⟩
theorem QE.apart (h:QE w base g N n m l c){i j:Nat}(d:i<N)(f:j<N):(i≠j->l i≠l j/\c i≠c j)/\l i≠c j:=by
 have a:=h.ord i d;have b:=h.ord j f
 rcases Nat.lt_trichotomy i j with e|e|e
 ·have:=h.rise i j e f;exact⟨λ_=>⟨by omega,by omega⟩,by omega⟩
 ·subst e;exact⟨λx=>absurd rfl x,by omega⟩
 ·have:=h.rise j i e d;exact⟨λ_=>⟨by omega,by omega⟩,by omega⟩
theorem QE.keptL (h:QE w base g N n m l c){t:Nat}(o:t<N)(k:zx w w' (λb=>b=l t))(q:∃ f,w'.ownsRow base 223 2 (ZY (l t) (n t)) (n t) ((List.range (n t*2)).map f)):QE w' base g N n m l c:=by
 refine⟨h.ord,h.rise,?_,λi j=>?_,λi j=>?_⟩
 ·obtain⟨f,d,r⟩:=h.row
  exact⟨f,k.own d (λb a e=>by have:=Q1 a;have:=h.ord t o;omega),r⟩
 ·by_cases e:i=t
  ·subst e;exact q
  ·obtain⟨f,d⟩:=h.lanes i j
   exact⟨f,k.own d (λb a p=>by have:=Q1 a;have:=((h.apart j o).1 e).1;omega)⟩
 ·obtain⟨f,d⟩:=h.cabins i j
  exact⟨f,k.own d (λb a p=>by have:=Q1 a;have:=(h.apart o j).2;omega)⟩
theorem QE.keptC (h:QE w base g N n m l c){t:Nat}(o:t<N)(k:zx w w' (λb=>b=c t))(q:∃ f,w'.ownsRow base 231 2 (ZY (c t) (m t)) (m t) ((List.range (m t*2)).map f)):QE w' base g N n m l c:=by
 refine⟨h.ord,h.rise,?_,λi j=>?_,λi j=>?_⟩
 ·obtain⟨f,d,r⟩:=h.row
  exact⟨f,k.own d (λb a e=>by have:=Q1 a;have:=h.ord t o;omega),r⟩
 ·obtain⟨f,d⟩:=h.lanes i j
  exact⟨f,k.own d (λb a p=>by have:=Q1 a;have:=(h.apart j o).2;omega)⟩
 ·by_cases e:i=t
  ·subst e;exact q
  ·obtain⟨f,d⟩:=h.cabins i j
   exact⟨f,k.own d (λb a p=>by have:=Q1 a;have:=((h.apart j o).1 e).2;omega)⟩
end
theorem zak.mark {w:World}{lo g N:Nat}{S:Nat->Zj}{l c:Nat->Nat}(r:zak w 140 223 231 N lo g N S l c)(hN:N<=1048576)(d:∀ i,i<N->(S i).la.n<=1048576)(b:∀ i,i<N->(S i).ca.n<=1048576) :
  QE w lo g N (λi=>(S i).la.n) (λi=>(S i).ca.n) l c:=by
 have e:=r.lo;refine⟨λi a=>⟨(r.lanes i a).1,(r.cabins i a).1⟩,r.rise,⟨_,Zz r.row r.lo (by unfold maxLen;omega),λi a=>?_⟩,λi a=>?_,λi a=>?_⟩
 ·rw[Q2,Q4,qr _ _ a,qr _ _ a];exact⟨rfl,rfl⟩
 ·exact⟨_,Zz (r.lanes i a).2 (by have:=(r.lanes i a).1;omega) (by have:=d i a;unfold maxLen;omega)⟩
 ·exact⟨_,Zz (r.cabins i a).2 (by have:=(r.lanes i a).1;have:=(r.cabins i a).1;omega) (by have:=b i a;unfold maxLen;omega)⟩
theorem zfY (g N B base k0:Nat)(n m l c:Nat->Nat)(w:World)(hN:N<=1048576)(a2:k0<=1048576)(hn:∀ i,i<N->n i<=1048576)(hm:∀ i,i<N->m i<=1048576)(x:g<B)(Y:∀ i,i<N->c i<B)(ho:QE w base g N n m l c) :
  Calls prog 62 #[.slice (some ⟨g,0,none⟩) N N,int i64 k0] w λe w'=>(∃ k:Nat,k<=10000000000000/\e=.returned (int i64 k))/\zx w w' (λb=>g<=b/\b<B):=by
 have HN:Hid (∀ i,_->_/\_/\_):=λi V=>⟨hn i V,hm i V,Y i V⟩
 clear hn hm Y;go_enter func62,ntmps62;go_wp2;go_loopw [1,5] (λq i wr=>∃ t k:Nat,t<=N/\i=int i64 t/\q=int i64 k/\k<=1048576+t*4194310/\QE wr base g N n m l c/\zx w wr (λb=>g<=b/\b<B)) (λ_ i _=>N - (intOf i).toNat)
 case atStart=>exact⟨0,k0,Jq _,rfl,rfl,by omega,ho,zx.refl _ _⟩
 case round =>
  obtain⟨t,k,ht,rfl,rfl,a3,y,W⟩:=hrel
  by_cases hlt:t<N
  ·have sN:=HN t hlt
   have oN:=y.ord t hlt;obtain⟨v0,I⟩:=y.cell (t*8) (by omega)
   have Q:=y.ice (t*8);go_wp2_with fail;refine(zdD _ _ (by omega) (by omega)).mono ?_
   rintro e w2 ⟨⟨s,rfl⟩,p⟩;have f:=(y.put _ (by omega) (by omega) _).below p
   have z:=(W.set ⟨Jr g,x⟩ _).trans (zx.of_below p);clear y W I Q p;obtain⟨v1,J⟩:=f.cell (t*8+1) (by omega)
   have R:=f.ice (t*8+1);go_wp2_with fail;refine(zdD _ _ (by omega) (by omega)).mono ?_
   rintro e w3 ⟨⟨s',rfl⟩,r⟩;have d:=(f.put _ (by omega) (by omega) _).below r
   have A:=(z.set ⟨Jr g,x⟩ _).trans (zx.of_below r);clear f z J R r;have j:=((d.put (t*8+2) (by omega) (by omega) s').put (t*8+3) (by omega) (by omega) (int i64 (k+1+1+1))).put (t*8+4) (by omega) (by omega) (int i64 (k+1+1+1+1))
   have C:=((A.set (a:=(g,t*8+2)) ⟨Jr g,x⟩ s').set (a:=(g,t*8+3)) ⟨Jr g,x⟩ (int i64 (k+1+1+1))).set (a:=(g,t*8+4)) ⟨Jr g,x⟩ (int i64 (k+1+1+1+1));obtain⟨v2,K⟩:=d.cell (t*8+2) (by omega)
   obtain⟨v3,L⟩:=d.cell (t*8+3) (by omega)
   obtain⟨v4,M⟩:=d.cell (t*8+4) (by omega)
   have O:=d.lane hlt;have S:=d.ice (t*8+2);have T:=d.ice (t*8+3);have U:=d.ice (t*8+4);go_wp2_with fail;obtain⟨F,Z⟩:=j.lanes t hlt;refine(zjx _ _ _ F _ _ sN.1 (by omega) (by omega) Z).mono ?_
   rintro e w5 ⟨rfl,E,u⟩;have h:=j.keptL hlt u E;have D:=C.trans (u.mono (λb e=>⟨by omega,by omega⟩))
   clear d A j C Z E u K L M O S T U;have P:=h.cabin hlt;obtain⟨G,hG⟩:=h.cabins t hlt;go_wp2_with fail;refine(zhI _ _ _ G _ _ sN.2.1 (by omega) (by omega) hG).mono ?_
   rintro e w6 ⟨rfl,H,v⟩;have o:=h.keptC hlt v H;have X:=D.trans (v.mono (λb e=>⟨by omega,by omega⟩))
   clear h D hG H v P;obtain⟨v7,a0⟩:=o.cell (t*8+7) (by omega)
   have a1:=o.ice (t*8+7);go_wp2;go_roundw
   case rel=>exact⟨t+1,k+5+2*n t+2*m t+1,by omega,by go_num,by congr 1,by omega,o.put _ (by omega) (by omega) _,X.set ⟨Jr g,x⟩ _⟩
   case measure=>simp[intOf];omega
  ·obtain rfl:t=N:=by omega
   go_wp2;go_ret;exact⟨⟨k,by omega,rfl⟩,W⟩
end
section
open Go.RowKit
structure zdG (w:World)(base g N:Nat)(n l:Nat->Nat):Prop where
 ord:∀ i,i<N->g<l i
 row:∃ f,w.ownsRow base 150 13 (some (g,0),N,N) N ((List.range (N*13)).map f)/\∀ i,i<N->f (i*13+3)=ZY (l i) (n i)
 legs:∀ i,i<N->zij w base (l i) (n i)
section
variable {w w' : World} {base g N : Nat} {n l : Nat -> Nat}
theorem zdG.cell (h:zdG w base g N n l)(j:Nat)(b:j<N*13):∃ v,w.cell? (g,j)=some v:=by
 obtain⟨f,a,_⟩:=h.row;exact⟨_,zs a j b rfl⟩
theorem zdG.ice (h:zdG w base g N n l)(j:Nat):w.frozen? (g,j)=false:=by
 obtain⟨f,a,_⟩:=h.row;exact a.frozenAt j
theorem zdG.leg (h:zdG w base g N n l){t:Nat}(c:t<N):w.cell? (g,t*13+3)=some (some (l t,0),n t,n t):=by
 obtain⟨f,b,a⟩:=h.row;rw[zs b _ (by omega) rfl,a t c];rfl
theorem zdG.below (h:zdG w base g N n l)(a:Below w.heap.size w w'):zdG w' base g N n l:=by
 refine⟨h.ord,?_,λi d=>?_⟩
 ·obtain⟨f,c,b⟩:=h.row;exact⟨f,zo a c,b⟩
 ·exact(h.legs i d).kept (zx.of_below (S:=λ_=>False) a) (λh=>h)
theorem zdG.put (h:zdG w base g N n l)(j:Nat)(h5:j % 13≠3)(u:Value):zdG (w.setCell (g,j) u) base g N n l:=by
 have k:=(zx.refl w (λb=>b=g)).set (a:=(g,j)) rfl u
 refine⟨h.ord,?_,λi c=>?_⟩
 ·obtain⟨f,d,m⟩:=h.row
  refine⟨_,zL d j u,λi c=>?_⟩
  rw[Je (by omega)]
  exact m i c
 ·exact(h.legs i c).kept k (λe=>by have:=h.ord i c;omega)
theorem zdG.mark (h:zdG w base g N n l){t:Nat}(c:t<N)(a:zx w w' (λb=>b=l t))(m:zij w' base (l t) (n t)):zdG w' base g N n l:=by
 refine⟨h.ord,?_,λi k=>?_⟩
 ·obtain⟨f,j,o⟩:=h.row
  exact⟨f,a.own j (λb d e=>by simp only[Value.ownBlock,Option.some.injEq] at d;have:=h.ord t c;omega),o⟩
 ·exact(h.legs i k).after (h.legs t c) a (by omega) (λ_=>rfl) (λ_ e=>by rw[e];exact m)
end
theorem zfZ (g N lo x k0:Nat)(S:Nat->ql)(C:Nat->List Value)(w:World)(hN:N<=1048576)(b0:k0<=30000000000000)(J:Z2 N S 1048576)(m:zao w N lo x g N S C) :
  Calls prog 64 #[.slice (some ⟨g,0,none⟩) N N,int i64 k0] w λe w'=>(∃ k:Nat,k<=40000000000000/\e=.returned (int i64 k))/\zx w w' (λb=>lo<=b/\b<x):=by
 have u:∀ i,i<N->∃ q,(g<q/\q<x)/\(C i).getD 3 (.bool false)=ZY q (S i).lgn/\zij w lo q (S i).lgn:=by
  intro i hi';obtain⟨a,e,v⟩:=m.each i hi';have sh:=J i hi';have W:=m.glo;unfold ql.Short at sh;exact⟨a,⟨Nat.lt_of_succ_le v.1,v.2.1⟩,by rw[e];rfl,⟨_,⟨_,rfl⟩,by have:=Zz (by rw[Nat.mul_one];exact v.2.2) (Jp (Nat.le_succ_of_le W) v.1) (by unfold maxLen;omega);rw[Nat.mul_one] at this;exact this⟩⟩
 obtain⟨l,r⟩:=Go.Deep.choose_lt u;have y:zdG w lo g N (λi=>(S i).lgn) l:=by
  refine⟨λi hi'=>(r i hi').1.1,⟨_,Zz m.row m.glo (by unfold maxLen;omega),λi hi'=>?_⟩,λi hi'=>(r i hi').2.2⟩
  rw[zC 13 _ i 3 (by omega),qr _ _ hi',(r i hi').2.1]
 have V:Hid (∀ i,_->_/\_):=λi hi'=>⟨(J i hi').2,(r i hi').1⟩
 have a9:=m.glo;have d:=m.ghi;clear J m u r;go_enter func64,ntmps64;go_wp2;go_loopw [1,5] (λq i wr=>∃ t k:Nat,t<=N/\i=int i64 t/\q=int i64 k/\k<=30000000000000+t*1048600/\zdG wr lo g N (λi=>(S i).lgn) l/\zx w wr (λb=>g<=b/\b<x)) (λ_ i _=>N - (intOf i).toNat)
 case atStart=>exact⟨0,k0,Jq _,rfl,rfl,by omega,y,zx.refl _ _⟩
 case round =>
  obtain⟨t,k,ht,rfl,rfl,b3,n,H⟩:=hrel
  by_cases hlt:t<N
  ·obtain⟨n1,b1,b2⟩:=V t hlt
   obtain⟨v0,z⟩:=n.cell (t*13) (by omega)
   obtain⟨v1,A⟩:=n.cell (t*13+1) (by omega)
   have E:=n.ice (t*13);have F:=n.ice (t*13+1);go_wp2_with fail;refine(zdD _ _ (by omega) (by omega)).mono ?_
   rintro e w2 ⟨⟨s,rfl⟩,j⟩;have f:=((n.put _ (by omega) _).put _ (by omega) _).below j
   have o:=((H.set ⟨Jr g,d⟩ _).set ⟨Jr g,d⟩ _).trans (zx.of_below j);clear n H z E A F j;obtain⟨v2,B⟩:=f.cell (t*13+2) (by omega)
   have G:=f.ice (t*13+2);have D:=f.leg hlt;have h:=f.put (t*13+2) (by omega) s
   have p:=o.set (a:=(g,t*13+2)) ⟨Jr g,d⟩ s;go_wp2_with fail;have U:=h.legs t hlt;refine(zmu n1 (by omega) (by omega) U).mono ?_
   rintro e w4 ⟨rfl,T,K⟩;have c:=h.mark hlt K T;have I:=p.trans (K.mono (λb e=>by have e:=e;exact⟨by omega,by omega⟩))
   clear f o h p B G D U T K w2;obtain⟨v4,X⟩:=c.cell (t*13+4) (by omega)
   have a3:=c.ice (t*13+4);obtain⟨v5,Y⟩:=c.cell (t*13+5) (by omega)
   have a4:=c.ice (t*13+5);obtain⟨v6,Z⟩:=c.cell (t*13+6) (by omega)
   have a5:=c.ice (t*13+6);obtain⟨v7,a0⟩:=c.cell (t*13+7) (by omega)
   have a6:=c.ice (t*13+7);obtain⟨v8,a1⟩:=c.cell (t*13+8) (by omega)
   have a7:=c.ice (t*13+8);obtain⟨v9,a2⟩:=c.cell (t*13+9) (by omega)
   have a8:=c.ice (t*13+9);obtain⟨b4,L⟩:=c.cell (t*13+10) (by omega)
   have P:=c.ice (t*13+10);obtain⟨b5,M⟩:=c.cell (t*13+11) (by omega)
   have Q:=c.ice (t*13+11);obtain⟨b6,O⟩:=c.cell (t*13+12) (by omega)
   have R:=c.ice (t*13+12);go_wp2;go_roundw
   case rel=>exact⟨t+1,k+12+(S t).lgn,by omega,by go_num,by go_num,by omega,((((((((c.put _ (by omega) _).put _ (by omega) _).put _ (by omega) _).put _ (by omega) _).put _ (by omega) _).put _ (by omega) _).put _ (by omega) _).put _ (by omega) _).put _ (by omega) _,((((((((I.set ⟨Jr g,d⟩ _).set ⟨Jr g,d⟩ _).set ⟨Jr g,d⟩ _).set ⟨Jr g,d⟩ _).set ⟨Jr g,d⟩ _).set ⟨Jr g,d⟩ _).set ⟨Jr g,d⟩ _).set ⟨Jr g,d⟩ _).set ⟨Jr g,d⟩ _⟩
   case measure=>simp[intOf];omega
  ·obtain rfl:t=N:=by omega
   go_wp2;go_ret;exact⟨⟨k,by omega,rfl⟩,H.mono (λb e=>by have e:=e;exact⟨by omega,by omega⟩)⟩
end
theorem zjy (cs:List Value)(x:Off)(lo a:Nat)(w:World)(V:Off.Short x 1048576)(U:Off.In w lo a cs x)(hh:a<=w.heap.size) :
  Calls prog 15 #[.agg cs.toArray,int i64 1] w λe w'=>(∃ k:Nat,k<=40000000000000/\e=.returned (int i64 k))/\zx w w' (λb=>lo<=b/\b<a):=by
 obtain⟨J,F,o,l,c,n,C,m,E,rfl,hm,h1,h2,h3⟩:=U;obtain⟨⟨K,q⟩,⟨Z,L⟩,⟨n3,M⟩⟩:=V;have d:Below _ w (w.alloc (.cells #[(some (o,0),x.san,x.san),(some (n,0),x.ldn,x.ldn),(some (m,0),x.bkn,x.bkn)] 38)):=zk bZ _;have u:=zoP d;have I:=h1.made.mark K (λi a=>(q i a).2.2.1) (λi a=>(q i a).2.2.2)
 have Q:=hI (λi a=>(q i a).2.2.1)
 have P:=hI (λi a=>(q i a).2.2.2)
 have r:=hI (λi a=>(h1.lh i a).2)
 have gl:=h1.made.lo;have gh:=h1.gh;have N:=hI h2;have O:=hI h3;have R:=hI I;have s:=hI L;have t:=hI M;clear h1 h2 h3 q L M I
 show Calls _ 15 #[.agg #[.slice _ _ _,.slice _ _ _,.slice _ _ _],_] w _
 go_enter func15,ntmps15;go_wp2_with fail;generalize w.alloc _=S at d u ⊢;refine(zfY o _ J lo 1 _ _ l c S K (by omega) Q P gh r (R.below d)).mono ?_
 rintro e G ⟨⟨W,y,rfl⟩,g⟩;have j:zx w G (λb=>lo<=b/\_):=(zx.of_below d).trans (g.mono (λb e=>by have e:=e;exact⟨by omega,e.2⟩))
 have f:=g.blk u (by omega)
 have q1:=za f 1 _ rfl;go_wp2_with fail;refine(zjw n _ J F W _ C G Z y s (N.kept j (λb e=>by omega))).mono ?_
 rintro e H ⟨⟨X,z,rfl⟩,h⟩;have p:zx w H (λb=>lo<=b/\b<F):=(j.mono (λb e=>by have e:=e;exact⟨by omega,by omega⟩)).trans (h.mono (λb e=>by have e:=e;exact⟨by omega,by omega⟩))
 have v:=h.blk f (by omega)
 have q2:=za v 2 _ rfl;clear q1 f j g h u;go_wp2_with fail;refine(zfZ m _ F a X _ E H n3 z t (O.kept p (λb e=>by omega))).mono ?_
 rintro e T ⟨⟨Y,A,rfl⟩,B⟩;have D:zx w T (λb=>lo<=b/\b<a):=(p.mono (λb e=>by have e:=e;exact⟨by omega,by omega⟩)).trans (B.mono (λb e=>by have e:=e;exact⟨by omega,by omega⟩))
 go_wp2;go_ret;exact⟨⟨Y,A,rfl⟩,D⟩
theorem zlh (cs:List Value)(x:OpD)(lo h k:Nat)(w:World)(j:OpD.Short x 1048576)(m:OpD.In w lo h cs x)(hk:k<=100000000000000) :
  Calls prog 16 #[.agg cs.toArray,int i64 k] w λe w'=>e=.returned (int i64 ((k:Int)+x.lgn))/\zx w w' (λb=>lo<=b/\b<h):=by
 obtain⟨g,rfl,h1,h2,h3⟩:=m;have hn:=j.2;have hr:w.ownsRow lo 3 1 (some (g,0),x.lgn,x.lgn) x.lgn (zS x.lg x.lgn):=by
  have:=Zz (by rw[Nat.mul_one];exact h3) h1 (by unfold maxLen;omega)
  rw[Nat.mul_one] at this;exact this
 have d:=Jb w (.cells (x,some (g,0),x.lgn) 47);have a:Below _ w (w.alloc (.cells (x,some (g,0),x.lgn) 47)):=zk bZ _;have i:Hid _:=zo a hr;have l:Hid (_/\_):=⟨h1,h2⟩;clear hr h3 h1 h2 j;unfold ZY
 show Calls _ 16 _ w _
 go_enter func16,ntmps16;go_wp2_with fail;generalize w.alloc _=W at d a i ⊢;have o:=za d 3 _ rfl;go_wp2_with fail;refine(zdE _ _ _ lo _ k W (by omega) (by omega) (by omega) i.out).mono ?_
 rintro e n ⟨rfl,_,c⟩;have f:Hid (zx w n (λb=>_/\b<h)):=(zx.of_below a).trans (c.mono (λb ⟨q,e1,e2⟩=>by cases e1;subst e2;exact l))
 clear c o d a;go_wp2;go_ret;exact⟨rfl,f⟩
section
open Go.RowKit
end
end Go.Proofs.YtmdnjgihooflfaaGreatDoor
