/-
  OWN TEXT: MarkLo, MarkInts, MarkBo, MarkBh, KitOb, OwnAny, MarkLd.
-/
import Derived.Deep.DeepCutAuto
import Derived.Deep.RegionHeld3
import Derived.Deep.Slices
import Derived.Test.YtmdnjgihooflfaaGreatDoorB35
namespace Go.Proofs.YtmdnjgihooflfaaGreatDoor
open Go.RowKit
open Go.Value (int)
open Go.IntKind (i64)
open Tryz
set_option maxHeartbeats 64000000
set_option maxRecDepth 100000
section
open Go.RowKit
variable{k0 t i N base:Nat}{w w':World}{v:Value}{A B C:Nat->Value}
def zju (L:Nat->zY)(k:Nat)(x:zY)(j:Nat):zY:=if j=k then x else L j
theorem ZU (L:Nat->zY)(k:Nat)(x:zY):zju L k x k=x:=Jf rfl
theorem zaa (L:Nat->zY)(k:Nat)(x:zY){j:Nat}(h:j≠k):zju L k x j=L j:=Je h
def kL (S:Nat->zY)(k0:Nat):Nat->Nat
 | 0=>k0
 | i+1=>kL S k0 i+4*(S i).stn+4*(S i).ron+2*(S i).sen
def mL (S:Nat->zY)(k0:Nat)(i:Nat):zY :=
 ⟨(S i).stn,ZM ((kL S k0 i:Nat):Int),(S i).ron,ZN ((kL S k0 i+4*(S i).stn:Nat):Int),(S i).sen,Qb ((kL S k0 i+4*(S i).stn+4*(S i).ron:Nat):Int)⟩
def mixL (S:Nat->zY)(k0 t:Nat)(i:Nat):zY:=if i<t then mL S k0 i else S i
theorem zfw {S:Nat->zY}(h:i<t):mixL S k0 t i=mL S k0 i:=Jf h
theorem zjv {S:Nat->zY}(h:¬ i<t):mixL S k0 t i=S i:=Je h
theorem mixL_next (S:Nat->zY)(k0 t:Nat):zju (mixL S k0 t) t (mL S k0 t)=mixL S k0 (t+1):=by
 funext i
 by_cases e:i=t
 ·subst e;rw[ZU,zfw (Nat.lt_succ_self _)]
 ·rw[zaa _ _ _ e]
  by_cases h:i<t
  ·rw[zfw h,zfw (by omega)]
  ·rw[zjv h,zjv (by omega)]
theorem zhp (L:Nat->zY)(k:Nat)(x y:zY):zju (zju L k x) k y=zju L k y:=by
 funext i
 by_cases e:i=k
 ·subst e;rw[ZU,ZU]
 ·rw[zaa _ _ _ e,zaa _ _ _ e,zaa _ _ _ e]
theorem kL_le {S:Nat->zY}(h:ZA N S 1048576):∀ i,i<=N->kL S k0 i<=k0+i*10485760
 | 0,_=>by unfold kL;omega
 | i+1,hi=>by
  have:=kL_le (k0:=k0) h i (by omega)
  obtain⟨h1,h2,h3⟩:=h i (by omega)
  unfold kL
  omega
def LdB (N:Nat)(A B C:Nat->Value)(b:Nat):Prop:=∃ i,i<N/\((A i).ownBlock=some b∨(B i).ownBlock=some b∨(C i).ownBlock=some b)
theorem markStayZ (z:Int)(v:Value)(n base k0:Nat)(S:Nat->Zp)(w:World)(f:z=(k0:Int))(hn:n<=1048576)(h1:k0<=100000000000000)(a:w.ownsRow base 220 4 v n (zy S n)) :
  Calls prog 129 #[v,z] w λe w'=>e=.returned ((k0+4*n:Nat):Int)/\w'.ownsRow base 220 4 v n (zy (ZM (k0:Int)) n)/\zx w w' (λb=>v.ownBlock=some b):=by
 subst f;obtain⟨d,c,rfl,_⟩:=zp a;refine(zeT d n c _ S k0 w (by omega) (by omega) (by omega) a).mono ?_
 rintro e w' ⟨rfl,h2,h3⟩;exact⟨by rw[show((k0+4*n:Nat):Int)=(k0:Int)+4*n by omega],h2,h3⟩
theorem heldStayZ (z:Int)(a:Option Addr)(n c k0:Nat)(w:World)(b:z=(k0:Int))(hn:n<=1048576)(h1:k0<=100000000000000)(h:qw w a n (ZM (k0:Int))) :
  Calls prog 134 #[(a,n,c),z] w λe w'=>e=.returned ((k0+4*n:Nat):Int)/\w'=w:=by
 subst b;rw[show((k0+4*n:Nat):Int)=(k0:Int)+4*n by omega]
 exact zjr a n c k0 w (by omega) (by omega) (by omega) h
theorem markRoomZ (z:Int)(v:Value)(n base k0:Nat)(S:Nat->qN)(w:World)(f:z=(k0:Int))(hn:n<=1048576)(h1:k0<=100000000000000)(a:w.ownsRow base 228 4 v n (zw S n)) :
  Calls prog 130 #[v,z] w λe w'=>e=.returned ((k0+4*n:Nat):Int)/\w'.ownsRow base 228 4 v n (zw (ZN (k0:Int)) n)/\zx w w' (λb=>v.ownBlock=some b):=by
 subst f;obtain⟨d,c,rfl,_⟩:=zp a;refine(zeU d n c _ S k0 w (by omega) (by omega) (by omega) a).mono ?_
 rintro e w' ⟨rfl,h2,h3⟩;exact⟨by rw[show((k0+4*n:Nat):Int)=(k0:Int)+4*n by omega],h2,h3⟩
theorem heldRoomZ (z:Int)(a:Option Addr)(n c k0:Nat)(w:World)(b:z=(k0:Int))(hn:n<=1048576)(h1:k0<=100000000000000)(h:qp w a n (ZN (k0:Int))) :
  Calls prog 135 #[(a,n,c),z] w λe w'=>e=.returned ((k0+4*n:Nat):Int)/\w'=w:=by
 subst b;rw[show((k0+4*n:Nat):Int)=(k0:Int)+4*n by omega]
 exact zjs a n c k0 w (by omega) (by omega) (by omega) h
theorem markSeatZ (z:Int)(v:Value)(n base k0:Nat)(S:Nat->Qe)(w:World)(f:z=(k0:Int))(hn:n<=1048576)(h1:k0<=100000000000000)(a:w.ownsRow base 234 2 v n (zB S n)) :
  Calls prog 131 #[v,z] w λe w'=>e=.returned ((k0+2*n:Nat):Int)/\w'.ownsRow base 234 2 v n (zB (Qb (k0:Int)) n)/\zx w w' (λb=>v.ownBlock=some b):=by
 subst f;obtain⟨d,c,rfl,_⟩:=zp a;refine(zeV d n c _ S k0 w (by omega) (by omega) (by omega) a).mono ?_
 rintro e w' ⟨rfl,h2,h3⟩;exact⟨by rw[show((k0+2*n:Nat):Int)=(k0:Int)+2*n by omega],h2,h3⟩
theorem heldSeatZ (z:Int)(a:Option Addr)(n c k0:Nat)(w:World)(b:z=(k0:Int))(hn:n<=1048576)(h1:k0<=100000000000000)(h:qE w a n (Qb (k0:Int))) :
  Calls prog 136 #[(a,n,c),z] w λe w'=>e=.returned ((k0+2*n:Nat):Int)/\w'=w:=by
 subst b;rw[show((k0+2*n:Nat):Int)=(k0:Int)+2*n by omega]
 exact zjt a n c k0 w (by omega) (by omega) (by omega) h
theorem qC.markStay {S:Nat->zY}{F:Nat->Zp}(h:qC w base v N S A B C)(d:t<N)(c:zx w w' (λb=>(A t).ownBlock=some b))(f:w'.ownsRow base 220 4 (A t) (S t).stn (zy F (S t).stn)):qC w' base v N (zju S t { S t with st:=F }) A B C:=by
 refine⟨c.own h.row (λg h1 h2=>zI h.row (h.st t d) (by decide) g h1 h2),λi a=>?_,λi a=>?_,λi a=>?_,h.far⟩
 ·by_cases e:i=t
  ·subst e;rw[ZU];exact f
  ·rw[zaa _ _ _ e];exact c.own (h.st i a) (λg h1 h2=>h.far.1 i t a d e g h1 h2)
 ·have q:=c.own (h.ro i a) (λg h1 h2=>zI (h.st t d) (h.ro i a) (by decide) g h2 h1)
  by_cases e:i=t
  ·subst e;rw[ZU];exact q
  ·rw[zaa _ _ _ e];exact q
 ·have q:=c.own (h.se i a) (λg h1 h2=>zI (h.st t d) (h.se i a) (by decide) g h2 h1)
  by_cases e:i=t
  ·subst e;rw[ZU];exact q
  ·rw[zaa _ _ _ e];exact q
theorem qC.markRoom {S:Nat->zY}{F:Nat->qN}(h:qC w base v N S A B C)(d:t<N)(c:zx w w' (λb=>(B t).ownBlock=some b))(f:w'.ownsRow base 228 4 (B t) (S t).ron (zw F (S t).ron)):qC w' base v N (zju S t { S t with ro:=F }) A B C:=by
 refine⟨c.own h.row (λg h1 h2=>zI h.row (h.ro t d) (by decide) g h1 h2),λi a=>?_,λi a=>?_,λi a=>?_,h.far⟩
 ·have q:=c.own (h.st i a) (λg h1 h2=>zI (h.ro t d) (h.st i a) (by decide) g h2 h1)
  by_cases e:i=t
  ·subst e;rw[ZU];exact q
  ·rw[zaa _ _ _ e];exact q
 ·by_cases e:i=t
  ·subst e;rw[ZU];exact f
  ·rw[zaa _ _ _ e];exact c.own (h.ro i a) (λg h1 h2=>h.far.2.1 i t a d e g h1 h2)
 ·have q:=c.own (h.se i a) (λg h1 h2=>zI (h.ro t d) (h.se i a) (by decide) g h2 h1)
  by_cases e:i=t
  ·subst e;rw[ZU];exact q
  ·rw[zaa _ _ _ e];exact q
theorem qC.markSeat {S:Nat->zY}{F:Nat->Qe}(h:qC w base v N S A B C)(d:t<N)(c:zx w w' (λb=>(C t).ownBlock=some b))(f:w'.ownsRow base 234 2 (C t) (S t).sen (zB F (S t).sen)):qC w' base v N (zju S t { S t with se:=F }) A B C:=by
 refine⟨c.own h.row (λg h1 h2=>zI h.row (h.se t d) (by decide) g h1 h2),λi a=>?_,λi a=>?_,λi a=>?_,h.far⟩
 ·have q:=c.own (h.st i a) (λg h1 h2=>zI (h.se t d) (h.st i a) (by decide) g h2 h1)
  by_cases e:i=t
  ·subst e;rw[ZU];exact q
  ·rw[zaa _ _ _ e];exact q
 ·have q:=c.own (h.ro i a) (λg h1 h2=>zI (h.se t d) (h.ro i a) (by decide) g h2 h1)
  by_cases e:i=t
  ·subst e;rw[ZU];exact q
  ·rw[zaa _ _ _ e];exact q
 ·by_cases e:i=t
  ·subst e;rw[ZU];exact f
  ·rw[zaa _ _ _ e];exact c.own (h.se i a) (λg h1 h2=>h.far.2.2 i t a d e g h1 h2)
theorem zmq (J:Option Addr)(N c base k0:Nat)(S:Nat->zY)(A B C:Nat->Value)(w:World)(hN:N<=1000)(h1:k0<=10000000000)(Z:ZA N S 1048576)(Y:qC w base (J,N,c) N S A B C) :
  Calls prog 63 #[(J,N,c),(k0:Int)] w λe w'=>e=.returned ((kL S k0 N:Nat):Int)/\qC w' base (J,N,c) N (mL S k0) A B C/\zx w w' (LdB N A B C):=by
 have U:=hI Z;have E:=hI Y;clear Z Y;go_enter func63,ntmps63;go_wp2;go_loopw [1,5] (λq i wr=>∃ (t k:Nat),t<=N/\i=int i64 t/\q=int i64 k/\k=kL S k0 t/\qC wr base (J,N,c) N (mixL S k0 t) A B C/\zx w wr (LdB N A B C)) (λ_ i _=>N - (intOf i).toNat)
 case atStart =>
  refine⟨0,k0,Jq _,rfl,rfl,rfl,?_,zx.refl _ _⟩;have e:mixL S k0 0=S:=by funext i;exact zjv (by omega)
  rw[e];exact E
 case round =>
  clear E;obtain⟨t,k,ht,rfl,rfl,F,o,R⟩:=hrel;have d:=hI F;have kb:k<=30000000000:=by have:=kL_le (k0:=k0) U t ht;omega
  clear F
  by_cases hlt:t<N
  ·have x:mixL S k0 t t=S t:=zjv (by omega)
   obtain⟨n1,n2,n3⟩:=U t hlt;obtain⟨g,rfl,a0,a4⟩:=qh o.row (by omega)
   have T:=o.st t hlt;have y:=o.ro t hlt;have z:=o.se t hlt;rw[x] at T y z;obtain⟨a1,d1,V,_⟩:=zp T;obtain⟨a2,d2,W,_⟩:=zp y;obtain⟨a3,d3,X,_⟩:=zp z;have cell:∀ {w'} {S'},qC w' base (.slice _ N c) N S' A B C->∀ j,j<3->w'.cell? ⟨g,t*3+j,_⟩=_:=λh j hj=>by rw[zs h.row _ (by omega) rfl,zC 3 _ t j hj]
   have n:=hI cell;have a:Hid (_/\_/\_):=⟨V,W,X⟩;have D:=hI o;have O:=hI R;have P:=hI x;clear cell T y z V W X o R x;have q0:wr.cell? ⟨g,t*3,_⟩=_:=(n D 0 (by decide)).trans (congrArg _ a.1)
   go_wp2_with fail;have m:=D.st t hlt;rw[P.out,a.out.1] at m;refine(markStayZ _ _ _ _ _ _ _ (by rw[d.out]) n1 (by have:=d.out;omega) m).mono ?_
   rintro e w1 ⟨rfl,G,s⟩;have f:=hI (D.markStay hlt (s.mono (λb e=>by rw[a.out.1];exact e)) (by rw[P.out,a.out.1];exact G))
   have K:Hid (zx wr w1 (LdB N A B C)):=s.mono (λb e=>⟨t,hlt,.inl (by rw[a.out.1];exact e)⟩)
   clear q0 m G s;rw[P.out] at f;have q1:=(n f 1 (by decide)).trans (congrArg _ a.2.1)
   go_wp2_with fail;have m:=f.ro t hlt;rw[ZU,a.out.2.1] at m;refine(markRoomZ _ _ _ _ (_+4*_) _ _ (by first|rfl|omega) n2 (by have:=d.out;omega) m).mono ?_
   rintro e w2 ⟨rfl,H,u⟩;have l:=hI (f.markRoom hlt (u.mono (λb e=>by rw[a.out.2.1];exact e)) (by rw[ZU,a.out.2.1];exact H))
   have L:Hid (zx w1 w2 (LdB N A B C)):=u.mono (λb e=>⟨t,hlt,.inr (.inl (by rw[a.out.2.1];exact e))⟩)
   clear q1 m H u;rw[ZU,zhp] at l;have q2:=(n l 2 (by decide)).trans (congrArg _ a.2.2)
   go_wp2_with fail;have m:=l.se t hlt;rw[ZU,a.out.2.2] at m;refine(markSeatZ _ _ _ _ (_+4*_+4*_) _ _ (by first|rfl|omega) n3 (by have:=d.out;omega) m).mono ?_
   rintro e w3 ⟨rfl,I,v⟩;have r:=hI (l.markSeat hlt (v.mono (λb e=>by rw[a.out.2.2];exact e)) (by rw[ZU,a.out.2.2];exact I))
   have M:Hid (zx w2 w3 (LdB N A B C)):=v.mono (λb e=>⟨t,hlt,.inr (.inr (by rw[a.out.2.2];exact e))⟩)
   clear q2 m I v;rw[ZU,zhp] at r;have Q:=hI (mixL_next S k0 t ▸ r);clear f l r n;go_wp2;go_roundw
   case rel =>
    refine⟨_,_,by omega,by go_num,?_,rfl,Q,O.trans (K.trans (L.trans M))⟩
    rfl
   case measure=>simp[intOf];omega
  ·obtain rfl:t=N:=by omega
   have D:=hI o;clear o;go_wp2;go_ret;refine⟨by rw[d.out];rfl,?_,R⟩
   have h:=D;refine⟨h.row,λi p=>?_,λi p=>?_,λi p=>?_,h.far⟩
   ·have:=h.st i p;rw[zfw p] at this;exact this
   ·have:=h.ro i p;rw[zfw p] at this;exact this
   ·have:=h.se i p;rw[zfw p] at this;exact this
theorem zmr (u:Option Addr)(N c k0:Nat)(S:Nat->zY)(w:World)(hN:N<=1000)(h1:k0<=10000000000)(B:ZA N S 1048576)(C:ZG w u N (mL S k0)) :
  Calls prog 67 #[(u,N,c),(k0:Int)] w λe w'=>e=.returned ((kL S k0 N:Nat):Int)/\w'=w:=by
 have o:=hI B;have D:=hI C;clear B C;go_enter func67,ntmps67;go_wp2;go_loopw [1,5] (λq i wr=>∃ (t k:Nat),t<=N/\i=int i64 t/\q=int i64 k/\k=kL S k0 t/\w=wr) (λ_ i _=>N - (intOf i).toNat)
 case atStart=>exact⟨0,k0,Jq _,rfl,rfl,rfl,rfl⟩
 case round =>
  obtain⟨t,k,F,rfl,rfl,h,G⟩:=hrel;subst G;have a:=hI h;have kb:k<=30000000000:=by have:=kL_le (k0:=k0) o t F;omega
  clear h
  by_cases hlt:t<N
  ·obtain⟨E,A,hI⟩:=D
   obtain⟨b,off,rfl,j⟩:=A t hlt;obtain⟨p,v,r,x,s,y,z,h1,_,h2,_,h3,_⟩:=hI t hlt;obtain⟨H,I,J⟩:=o t hlt;have d:=j 0 (by decide)
   have f:=j 1 (by decide)
   have g:=j 2 (by decide)
   rw[z] at d f g;have q0:w.cell? ⟨b,off+_,_⟩=some (p,(S t).stn,v):=d;have q1:w.cell? _=some (r,(S t).ron,x):=f;have q2:w.cell? _=some (s,(S t).sen,y):=g;have l:=hI h1;have m:=hI h2;have n:=hI h3;clear A hI j d f g z h1 h2 h3;have x0:decide (((kL S k0 t+4*(S t).stn:Nat):Int)<0)=false:=Jc (by omega)
   have x1:decide (((kL S k0 t+4*(S t).stn+4*(S t).ron:Nat):Int)<0)=false:=Jc (by omega)
   have x2:decide (((kL S k0 t+4*(S t).stn+4*(S t).ron+2*(S t).sen:Nat):Int)<0)=false:=Jc (by omega)
   have i1:(t:Int)<(N:Int):=by omega
   go_wp2_with (first
    | (go_at_call 134;refine sC (heldStayZ _ p _ v _ _ (by rw[a.out]) H (by have:=a.out;omega) l.out) ?_)
    | (go_at_call 135;refine sC (heldRoomZ _ r _ x _ _ (by first | rfl | omega) I (by have:=a.out;omega) m.out) ?_)
    | (go_at_call 136;refine sC (heldSeatZ _ s _ y _ _ (by first | rfl | omega) J (by have:=a.out;omega) n.out) ?_))
   go_roundw
   case rel =>
    refine⟨t+1,kL S k0 (t+1),by omega,by go_num,?_⟩
    first|exact⟨rfl,rfl,trivial⟩|exact⟨rfl,trivial⟩|exact⟨rfl,rfl,rfl⟩
   case measure=>simp[intOf];omega
  ·obtain rfl:t=N:=by omega
   go_wp2;go_ret;exact⟨by rw[a.out];rfl,by first|rfl|trivial⟩
end
theorem zdE (d:Option Addr)(n c base:Nat)(F:Nat->Int)(k0:Int)(w:World)(hn:n<=4194304)(h0:0<=k0)(h1:k0<=1000000000000000)(m:w.ownsRow base 3 1 (d,n,c) n (zS F n)) :
  Calls prog 28 #[(d,n,c),k0] w λe w'=>e=.returned (int i64 (k0+n))/\w'.ownsRow base 3 1 (d,n,c) n (zS (λj=>k0+j) n)/\zx w w' (λb=>∃ g,d=some (g,0)/\b=g):=by
 go_enter func28,ntmps28;go_wp2;go_loopw [1,5] (λq i wr=>∃ t,t<=n/\i=int i64 t/\q=int i64 (k0+t)/\wr.ownsRow base 3 1 (d,n,c) n ((List.range n).map (λj=>int i64 (if j<t then k0+j else F j)))/\zx w wr (λb=>∃ g,d=some (g,0)/\b=g)) (λ_ i _=>n - (intOf i).toNat)
 case atStart=>exact⟨0,Jq _,rfl,by simp,qR m (by intro i _;simp),zx.refl _ _⟩
 case round =>
  obtain⟨t,ht,rfl,rfl,a,f⟩:=hrel
  by_cases hlt:t<n
  ·obtain⟨g,rfl,h,k⟩:=qh a (by omega)
   have hc:=zs a t (by omega) (by omega)
   have hf:=a.frozenAt t;go_wp2;go_roundw
   case rel =>
    refine⟨t+1,by omega,by go_num,by go_num,?_,f.set ⟨g,rfl,rfl⟩ _⟩
    refine qR (zL a t _) (λi _=>?_)
    by_cases e:i=t
    ·subst e;simp
    ·simp only[Je e]
     by_cases e2:i<t
     ·rw[Jf e2,Jf (by omega)]
     ·rw[Je e2,Je (by omega)]
   case measure=>simp[intOf];omega
  ·have:t=n:=by omega
   subst this;go_wp2;go_ret;exact⟨rfl,qR a (by intro i l;simp[l]),f⟩
theorem zlc (a:Option Addr)(n c:Nat)(k0:Int)(w:World)(hn:n<=4194304)(h0:0<=k0)(h1:k0<=1000000000000000)(d:zT w a n (λj=>k0+j)) :
  Calls prog 137 #[(a,n,c),k0] w λe w'=>e=.returned (int i64 (k0+n))/\w'=w:=by
 go_enter func137,ntmps137;go_wp2;go_loop [1,5] (λq i=>∃ t,t<=n/\i=int i64 t/\q=int i64 (k0+t)) (λ_ i=>n - (intOf i).toNat)
 case atStart=>exact⟨0,Jq _,rfl,by simp⟩
 case round =>
  obtain⟨t,ht,rfl,rfl⟩:=hrel
  by_cases hlt:t<n
  ·obtain⟨b,off,rfl,hc⟩:=d t hlt
   go_wp2;go_round
   case rel=>exact⟨t+1,by omega,by go_num,by go_num⟩
   case measure=>simp[intOf];omega
  ·have:t=n:=by omega
   subst this;go_wp2;go_ret;exact⟨rfl,rfl⟩
section
open Go.RowKit
variable{k0 t i N:Nat}
def kB (S:Nat->ql)(k0:Nat):Nat->Nat
 | 0=>k0
 | i+1=>kB S k0 i+(12+(S i).lgn)
def mB (S:Nat->ql)(k0:Nat)(i:Nat):ql :=
 ⟨(kB S k0 i:Nat),(kB S k0 i+1:Nat),zbl (kB S k0 i+2),(S i).lgn,λj=>((kB S k0 i+3:Nat):Int)+j,(kB S k0 i+3+(S i).lgn:Nat),(kB S k0 i+4+(S i).lgn:Nat),(kB S k0 i+5+(S i).lgn:Nat),(kB S k0 i+6+(S i).lgn:Nat),
  (((kB S k0 i+7+(S i).lgn:Nat):Int) % 3 == 0),(kB S k0 i+8+(S i).lgn:Nat),(kB S k0 i+9+(S i).lgn:Nat),(kB S k0 i+10+(S i).lgn:Nat),(kB S k0 i+11+(S i).lgn:Nat)⟩
def mixB (S:Nat->ql)(k0 t:Nat)(i:Nat):ql:=if i<t then mB S k0 i else S i
theorem zhq {S:Nat->ql}(h:i<t):mixB S k0 t i=mB S k0 i:=Jf h
theorem zhr {S:Nat->ql}(h:¬ i<t):mixB S k0 t i=S i:=Je h
theorem zii {S:Nat->ql}(h:i≠t):mixB S k0 (t+1) i=mixB S k0 t i:=by
 by_cases h1:i<t
 ·rw[zhq h1,zhq (by omega)]
 ·rw[zhr h1,zhr (by omega)]
theorem kB_le {S:Nat->ql}(h:∀ i,i<N->(S i).lgn<=1048576):∀ i,i<=N->kB S k0 i<=k0+i*1048600
 | 0,_=>by unfold kB;omega
 | i+1,hi=>by
  have:=kB_le (k0:=k0) h i (by omega)
  have:=h i (by omega)
  unfold kB
  omega
def BkB (v:Value)(N:Nat)(L:Nat->Value)(b:Nat):Prop:=v.ownBlock=some b∨∃ i,i<N/\(L i).ownBlock=some b
theorem markIntZ (z:Int)(v:Value)(n base k0:Nat)(F:Nat->Int)(w:World)(f:z=(k0:Int))(hn:n<=1048576)(h1:k0<=100000000000000)(a:w.ownsRow base 3 1 v n (zS F n)) :
  Calls prog 28 #[v,z] w λe w'=>e=.returned ((k0+n:Nat):Int)/\w'.ownsRow base 3 1 v n (zS (λj=>(k0:Int)+j) n)/\zx w w' (λb=>v.ownBlock=some b):=by
 subst f;obtain⟨d,c,rfl,_⟩:=zp a;refine(zdE d n c _ F k0 w (by omega) (by omega) (by omega) a).mono ?_
 rintro e w' ⟨rfl,h2,h3⟩;refine⟨by rw[show((k0+n:Nat):Int)=(k0:Int)+n by omega],h2,h3.mono (λb e=>?_)⟩
 obtain⟨g,rfl,rfl⟩:=e
 rfl
theorem heldIntZ (z:Int)(a:Option Addr)(n c k0:Nat)(w:World)(b:z=(k0:Int))(hn:n<=1048576)(h1:k0<=100000000000000)(h:zT w a n (λj=>(k0:Int)+j)) :
  Calls prog 137 #[(a,n,c),z] w λe w'=>e=.returned ((k0+n:Nat):Int)/\Below w.heap.size w w':=by
 subst b;refine(zlc a n c k0 w (by omega) (by omega) (by omega) h).mono ?_
 rintro e w' h2;rw[show((k0+n:Nat):Int)=(k0:Int)+n by omega]
 exact⟨h2.1,by rw[h2.2];exact bZ⟩
theorem zms (D:Option Addr)(N c base k0:Nat)(S:Nat->ql)(L:Nat->Value)(w:World)(hN:N<=1048576)(h1:k0<=8000000000000)(hs:∀ i,i<N->(S i).lgn<=1048576)(ho:ZC w base (D,N,c) N S L) :
  Calls prog 64 #[(D,N,c),(k0:Int)] w λe w'=>e=.returned ((kB S k0 N:Nat):Int)/\ZC w' base (D,N,c) N (mB S k0) L/\zx w w' (BkB (D,N,c) N L):=by
 have HS:=hI hs;have J:=hI ho;clear hs ho;go_enter func64,ntmps64;go_wp2;go_loopw [1,5] (λq i wr=>∃ (t k:Nat),t<=N/\i=int i64 t/\q=int i64 k/\k=kB S k0 t/\ZC wr base (D,N,c) N (mixB S k0 t) L/\zx w wr (BkB (D,N,c) N L)) (λ_ i _=>N - (intOf i).toNat)
 case atStart =>
  refine⟨0,k0,Jq _,rfl,rfl,rfl,?_,zx.refl _ _⟩;have e:mixB S k0 0=S:=by funext i;exact zhr (by omega)
  rw[e];exact J
 case round =>
  clear J;obtain⟨t,k,ht,rfl,rfl,P,o,hk⟩:=hrel;have j:=hI P;have kb:k<=10000000000000:=by have:=kB_le (k0:=k0) HS t ht;omega
  clear P
  by_cases hlt:t<N
  ·have R:mixB S k0 t t=S t:=zhr (by omega)
   have x:=o.legs t hlt;rw[R] at x;obtain⟨al,cl,Z,_⟩:=zp x;obtain⟨g,rfl,a8,a9⟩:=qh o.row (by omega)
   obtain⟨u0,q0⟩:∃ v,wr.cell? ⟨g,_+0,_⟩=some v:=⟨_,zU o.row hlt (by decide)⟩
   obtain⟨u1,q1⟩:∃ v,wr.cell? ⟨g,_+1,_⟩=some v:=⟨_,zU o.row hlt (by decide)⟩
   rw[Nat.add_zero] at q0;have f0:=o.row.frozenAt (t*13);have f1:=o.row.frozenAt (t*13+1);have s:=hI o;have r:=hI Z;have I:=hI (Z ▸ x);have V:=hI hk;have a2:=HS t hlt;clear o x Z hk R;go_wp2_with fail;refine(zau _ _ (by omega) (by omega)).mono ?_
   rintro e U ⟨rfl,z⟩;have K:Hid _:=Zr s.row t 0 (k:Int) rfl (by decide)
   have l:Hid _:=Zr K t 1 (int i64 ((k:Int)+1)) (by rw[Zb];rfl) (by decide)
   rw[Nat.add_zero] at l;have m:Hid _:=zo z l;have O:=(((zx.refl wr (λb=>b=g)).set rfl _).set rfl _).trans (zx.of_below z)
   have T:((k:Int)+1+1).toNat=kB S k0 t+2:=by have:=j.out;omega
   rw[T];clear T q0 q1 f0 f1 z K l;obtain⟨u2,q2⟩:∃ v,U.cell? ⟨g,_+2,_⟩=some v:=⟨_,zU m hlt (by decide)⟩
   have q3:U.cell? (g,t*13+3)=some (al,(S t).lgn,cl):=by
    rw[zU m.out hlt (by decide),Zb,Zb]
    show some (L t)=_
    rw[r.out]
   have f2:=Jn m (t*13+2);go_wp2_with fail;have y:Hid _:=Zr m t 2 (.string (zbl (kB S k0 t+2))) (by rw[Zb,Zb];rfl) (by decide)
   have u:zx wr (U.setCell _ (.string (zbl (kB S k0 t+2)))) _:=O.set (a:=(g,t*13+2)) rfl _;clear q2 q3 f2 O m;generalize U.setCell _ _=W4 at y u ⊢;have f:∀ b,(Value.slice (some (g,0)) N c).ownBlock=some b↔_:=λb=>by simp[Value.ownBlock];exact eq_comm
   have G:=hI (u.own I (λb n e=>zI s.row I (by decide) b ((f b).2 e) n))
   refine(markIntZ _ _ _ _ (kB S k0 t+3) _ _ (by have:=j.out;omega) a2 (by have:=j.out;omega) G.out).mono ?_
   rintro e p ⟨rfl,Q,B⟩;have d:Hid _:=B.own y (λb n e=>zI y G (by decide) b n e)
   have H:=hI Q;have E:=hI B;have F:=hI u;have b0:kB S k0 t+3+(S t).lgn<=20000000000000:=by have:=j.out;omega
   clear Q B u;obtain⟨u4,q4⟩:∃ v,p.cell? ⟨g,_+4,_⟩=some v:=⟨_,zU d hlt (by decide)⟩
   have f4:=Jn d (t*13+4);obtain⟨u5,q5⟩:∃ v,p.cell? ⟨g,_+5,_⟩=some v:=⟨_,zU d hlt (by decide)⟩
   have f5:=Jn d (t*13+5);obtain⟨u6,q6⟩:∃ v,p.cell? ⟨g,_+6,_⟩=some v:=⟨_,zU d hlt (by decide)⟩
   have f6:=Jn d (t*13+6);obtain⟨u7,q7⟩:∃ v,p.cell? ⟨g,_+7,_⟩=some v:=⟨_,zU d hlt (by decide)⟩
   have f7:=Jn d (t*13+7);obtain⟨u8,q8⟩:∃ v,p.cell? ⟨g,_+8,_⟩=some v:=⟨_,zU d hlt (by decide)⟩
   have f8:=Jn d (t*13+8);obtain⟨u9,q9⟩:∃ v,p.cell? ⟨g,_+9,_⟩=some v:=⟨_,zU d hlt (by decide)⟩
   have f9:=Jn d (t*13+9);obtain⟨u10,b1⟩:∃ v,p.cell? ⟨g,_+10,_⟩=some v:=⟨_,zU d hlt (by decide)⟩
   have a3:=Jn d (t*13+10);obtain⟨u11,b2⟩:∃ v,p.cell? ⟨g,_+11,_⟩=some v:=⟨_,zU d hlt (by decide)⟩
   have a6:=Jn d (t*13+11);obtain⟨u12,b3⟩:∃ v,p.cell? ⟨g,_+12,_⟩=some v:=⟨_,zU d hlt (by decide)⟩
   have a7:=Jn d (t*13+12);go_wp2;go_roundw
   case rel =>
    have e0:=j;have S4:=Zr d t 4 (((kB S k0 t+3+(S t).lgn:Nat):Int)) (by simp only[Zb,List.length_set];rfl) (by decide)
    have S5:=Zr S4 t 5 (int i64 (((kB S k0 t+3+(S t).lgn:Nat):Int)+1)) (by simp only[Zb,List.length_set];rfl) (by decide)
    have S6:=Zr S5 t 6 (int i64 (((kB S k0 t+3+(S t).lgn:Nat):Int)+1+1)) (by simp only[Zb,List.length_set];rfl) (by decide)
    have S7:=Zr S6 t 7 (int i64 (((kB S k0 t+3+(S t).lgn:Nat):Int)+1+1+1)) (by simp only[Zb,List.length_set];rfl) (by decide)
    have S8:=Zr S7 t 8 (.bool ((((kB S k0 t+3+(S t).lgn:Nat):Int)+1+1+1+1) % 3 == 0)) (by simp only[Zb,List.length_set];rfl) (by decide)
    have S9:=Zr S8 t 9 (int i64 (((kB S k0 t+3+(S t).lgn:Nat):Int)+1+1+1+1+1)) (by simp only[Zb,List.length_set];rfl) (by decide)
    have W:=Zr S9 t 10 (int i64 (((kB S k0 t+3+(S t).lgn:Nat):Int)+1+1+1+1+1+1)) (by simp only[Zb,List.length_set];rfl) (by decide)
    have X:=Zr W t 11 (int i64 (((kB S k0 t+3+(S t).lgn:Nat):Int)+1+1+1+1+1+1+1)) (by simp only[Zb,List.length_set];rfl) (by decide)
    have Y:=Zr X t 12 (int i64 (((kB S k0 t+3+(S t).lgn:Nat):Int)+1+1+1+1+1+1+1+1)) (by simp only[Zb,List.length_set];rfl) (by decide)
    have C:=((((((((((zx.refl p (λb=>b=g)).set (a:=(g,t*13+4)) rfl (((kB S k0 t+3+(S t).lgn:Nat):Int))).set (a:=(g,t*13+5)) rfl (int i64 (((kB S k0 t+3+(S t).lgn:Nat):Int)+1))).set (a:=(g,t*13+6)) rfl (int i64 (((kB S k0 t+3+(S t).lgn:Nat):Int)+1+1))).set (a:=(g,t*13+7)) rfl (int i64 (((kB S k0 t+3+(S t).lgn:Nat):Int)+1+1+1))).set (a:=(g,t*13+8)) rfl (.bool ((((kB S k0 t+3+(S t).lgn:Nat):Int)+1+1+1+1) % 3 == 0))).set (a:=(g,t*13+9)) rfl (int i64 (((kB S k0 t+3+(S t).lgn:Nat):Int)+1+1+1+1+1))).set (a:=(g,t*13+10)) rfl (int i64 (((kB S k0 t+3+(S t).lgn:Nat):Int)+1+1+1+1+1+1))).set (a:=(g,t*13+11)) rfl (int i64 (((kB S k0 t+3+(S t).lgn:Nat):Int)+1+1+1+1+1+1+1))).set (a:=(g,t*13+12)) rfl (int i64 (((kB S k0 t+3+(S t).lgn:Nat):Int)+1+1+1+1+1+1+1+1)))
    have M:∀ i,_->_->∀ b,_->_≠_:=λi A a0 b h1 h2=>by
     rcases Nat.lt_or_gt_of_ne a0 with h|h
     ·exact s.apart i t h hlt b h1 h2
     ·exact s.apart t i h A b h2 h1
    rw[r.out] at M;refine⟨_,kB S k0 (t+1),by omega,by go_num,?_,rfl,⟨zbs Y (by decide) (λi A=>?_),λi A=>?_,s.apart⟩,?_⟩
    ·congr 1
     show _=((_+_:Nat):Int)
     (try unfold wrap64);omega
    ·by_cases e:i=t
     ·subst e
      simp only[Zb];unfold bkC;rw[zhq (show i<i+1 by omega),zhr (show ¬ i<i by omega)]
      simp only[sZ,sS,mB];rw[e0];simp only[List.cons.injEq,Value.int.injEq,true_and,and_true];refine⟨by omega,by omega,by omega,by omega,?_,by omega,by omega,by omega,by omega⟩
      rw[show((kB S k0 i+3+(S i).lgn:Nat):Int)+1+1+1+1=((kB S k0 i+7+(S i).lgn:Nat):Int) by omega]
     ·simp only[ziy _ _ _ e]
      unfold bkC;rw[zii e]
    ·by_cases e:i=t
     ·subst e
      rw[zhq (by omega),r.out]
      exact C.own H (λb n e=>zI d H (by decide) b ((f b).2 e) n)
     ·rw[zii e]
      have a1:=s.legs i A;have a4:=F.own a1 (λb n e=>zI s.row a1 (by decide) b ((f b).2 e) n)
      have a5:=E.own a4 (λb n e2=>M i A e b n e2)
      exact C.own a5 (λb n e=>zI d a5 (by decide) b ((f b).2 e) n)
    ·exact V.trans ((F.mono (λb e=>.inl ((f b).2 e))).trans ((E.mono (λb e=>.inr ⟨t,hlt,by rw[r.out];exact e⟩)).trans (C.mono (λb e=>.inl ((f b).2 e)))))
   case measure=>simp[intOf];omega
  ·obtain rfl:t=N:=by omega
   have s:=hI o;clear o;go_wp2;go_ret;refine⟨by rw[j.out];rfl,?_,hk⟩
   exact s.congr (λi A=>zhq A)
end
theorem zmt (G:Option Addr)(N c k0:Nat)(S:Nat->ql)(w:World)(hN:N<=1048576)(h1:k0<=8000000000000)(J:∀ i,i<N->(S i).lgn<=1048576)(K:qO w G N (mB S k0)) :
  Calls prog 68 #[(G,N,c),(k0:Int)] w λe w'=>e=.returned ((kB S k0 N:Nat):Int)/\Below w.heap.size w w':=by
 have D:=hI J;have M:=hI K;clear J K;go_enter func68,ntmps68;go_wp2;go_loopw [1,5] (λq i wr=>∃ (t k:Nat),t<=N/\i=int i64 t/\q=int i64 k/\k=kB S k0 t/\Below w.heap.size w wr) (λ_ i _=>N - (intOf i).toNat)
 case atStart=>exact⟨0,k0,Jq _,rfl,rfl,rfl,bZ⟩
 case round =>
  obtain⟨t,k,V,rfl,rfl,y,g⟩:=hrel;have l:=hI y;have kb:k<=10000000000000:=by have:=kB_le (k0:=k0) D t V;omega
  clear y
  by_cases hlt:t<N
  ·obtain⟨E,I,hI⟩:=M
   obtain⟨b,off,rfl,d⟩:=I t hlt;obtain⟨al,cl,f,z,C⟩:=hI t hlt;have B:=D t hlt;have j:b<w.heap.size:=Ja w _ (d 0 (by decide))
   have i1:(t:Int)<(N:Int):=by omega
   obtain⟨L,n⟩:∃ s,s=zbl ((k:Int)+1+1).toNat:=⟨_,rfl⟩;have A:Hid _:=n;have H:=l.out;have p:=hI z;have o:Hid (∀ w',Below _ w w'->w'.cell? ⟨b,off+_,_⟩=some (.int _ (k:Int))/\w'.cell? ⟨b,_,_⟩=some (.int _ ((k:Int)+1))/\w'.cell? ⟨b,_,_⟩=some (.string L)/\w'.cell? ⟨b,_,_⟩=some (.slice al (S t).lgn cl)/\w'.cell? ⟨b,_,_⟩=some (.int _ (((_:Nat):Int)))/\w'.cell? ⟨b,_,_⟩=some (.int _ (((kB S k0 t+3+(S t).lgn:Nat):Int)+1))/\w'.cell? ⟨b,_,_⟩=some (.int _ (((kB S k0 t+3+(S t).lgn:Nat):Int)+1+1))/\w'.cell? ⟨b,_,_⟩=some (.int _ (((kB S k0 t+3+(S t).lgn:Nat):Int)+1+1+1))/\w'.cell? ⟨b,_,_⟩=some (.bool (((_:Int)+1+1+1+1) % 3 == 0))/\w'.cell? ⟨b,_,_⟩=some (.int _ (((kB S k0 t+3+(S t).lgn:Nat):Int)+1+1+1+1+1))/\w'.cell? ⟨b,_,_⟩=some (.int _ (((kB S k0 t+3+(S t).lgn:Nat):Int)+1+1+1+1+1+1))/\w'.cell? ⟨b,_,_⟩=some (.int _ (((kB S k0 t+3+(S t).lgn:Nat):Int)+1+1+1+1+1+1+1))/\w'.cell? ⟨b,_,_⟩=some (.int _ (((kB S k0 t+3+(S t).lgn:Nat):Int)+1+1+1+1+1+1+1+1))):=λw' h=>by
    refine⟨(h.cell j).trans ?_,(h.cell j).trans ?_,(h.cell j).trans ?_,(h.cell j).trans ?_,(h.cell j).trans ?_,(h.cell j).trans ?_,(h.cell j).trans ?_,(h.cell j).trans ?_,(h.cell j).trans ?_,(h.cell j).trans ?_,(h.cell j).trans ?_,(h.cell j).trans ?_,(h.cell j).trans ?_⟩
    ·have a:=d 0 (by decide);rw[f] at a;refine a.trans ?_;show some (Value.int _ ((_:Nat):Int))=_;rw[H]
    ·have a:=d 1 (by decide);rw[f] at a;refine a.trans ?_;show some (Value.int _ ((_:Nat):Int))=_;congr 2;omega
    ·have a:=d 2 (by decide);rw[f] at a;refine a.trans ?_;show some (Value.string (zbl (_+2)))=_;rw[n,show((k:Int)+1+1).toNat=kB S k0 t+2 by omega]
    ·have a:=d 3 (by decide);rw[f] at a;refine a.trans ?_;rfl
    ·have a:=d 4 (by decide);rw[f] at a;refine a.trans ?_;rfl
    ·have a:=d 5 (by decide);rw[f] at a;refine a.trans ?_;show some (Value.int _ ((_:Nat):Int))=_;congr 2;omega
    ·have a:=d 6 (by decide);rw[f] at a;refine a.trans ?_;show some (Value.int _ ((_:Nat):Int))=_;congr 2;omega
    ·have a:=d 7 (by decide);rw[f] at a;refine a.trans ?_;show some (Value.int _ ((_:Nat):Int))=_;congr 2;omega
    ·have a:=d 8 (by decide);rw[f] at a;refine a.trans ?_;show some (Value.bool (_ == 0))=_;rw[show((kB S k0 t+3+(S t).lgn:Nat):Int)+1+1+1+1=((kB S k0 t+7+(S t).lgn:Nat):Int) by omega]
    ·have a:=d 9 (by decide);rw[f] at a;refine a.trans ?_;show some (Value.int _ ((_:Nat):Int))=_;congr 2;omega
    ·have a:=d 10 (by decide);rw[f] at a;refine a.trans ?_;show some (Value.int _ ((_:Nat):Int))=_;congr 2;omega
    ·have a:=d 11 (by decide);rw[f] at a;refine a.trans ?_;show some (Value.int _ ((_:Nat):Int))=_;congr 2;omega
    ·have a:=d 12 (by decide);rw[f] at a;refine a.trans ?_;show some (Value.int _ ((_:Nat):Int))=_;congr 2;omega
   clear I hI d f z C n H;obtain⟨O,c1,c2,_⟩:=o wr g;have n0:((k:Int) != (k:Int))=false:=by simp
   have n1:((k:Int)+1 != (k:Int)+1)=false:=by simp
   go_upto_region 10 with fail;clear O c1;go_cut [1,5,37] (λq i v X=>q=int i64 ((k:Int)+1+1)/\i=int i64 t/\v=.bool false/\Below w.heap.size w X)
   case first =>
    go_region_held3 (λw'=>w'.cell? (b,off+t*13+2)=some (.string L))
     ((first|exact c2|exact(o _ (ze g.drew r)).2.2.1))
     (first|(go_at_call 71;refine(zau _ _ (by omega) (by omega)).mono ?_;rintro e w3 ⟨rfl,r⟩;rw[← A.out]))
    all_goals
     go_wp2;go_meet;exact⟨rfl,rfl,by simp,ze g.drew r⟩
   case rest =>
    obtain⟨rfl,rfl,rfl,m⟩:=hcut;clear c2;obtain⟨_,_,_,c3,_⟩:=o _ m;go_wp2_with fail;refine(heldIntZ _ al _ cl _ _ (by have:=l.out;omega) B (by have:=l.out;omega) (p.out.below m)).mono ?_
    rintro e w5 ⟨rfl,u⟩;have x:=ze m u;clear c3 m u p;obtain⟨_,_,_,_,c4,c5,c6,c7,c8,c9,P,Q,R⟩:=o _ x;have U:kB S k0 t+3+(S t).lgn<=20000000000000:=by have:=l.out;omega
    have hd:decide (((kB S k0 t+3+(S t).lgn:Nat):Int)<0)=false:=Jc (by omega)
    have T:¬ ((kB S k0 t+3+(S t).lgn:Nat):Int)<0:=by omega
    clear o;generalize hK4:((_+_:Nat):Int)=F at *;have W:0<=F/\F<=20000000000000:=by omega
    go_wp2;go_roundw
    case rel =>
     refine⟨_,kB S k0 (t+1),by omega,by go_num,?_,rfl,x⟩
     show _=Value.int _ ((_+_:Nat):Int)
     congr 1
     (try unfold wrap64);omega
    case measure=>simp[intOf];omega
  ·obtain rfl:t=N:=by omega
   go_wp2;go_ret;exact⟨by rw[l.out];rfl,g⟩
section
open Go.RowKit
def OffB (v1 v2 v3:Value)(a c d:Nat)(L C A B D E:Nat->Value)(b:Nat):Prop:=SaB v1 a L C b∨v2.ownBlock=some b∨LdB c A B D b∨BkB v3 d E b
section
variable {w w' : World} {base : Nat} {v1 v2 v3 : Value} {n1 n2 n3 : Nat} {x : Off} {L C A B D E : Nat -> Value}
theorem zF.blk (h:zF w base v1 v2 v3 n1 n2 n3 x L C A B D E):∀ b,OffB v1 v2 v3 n1 n2 n3 L C A B D E b->base<=b/\b<w.heap.size:=by
 rintro b ((e|⟨i,a,e|e⟩)|e|⟨i,a,e|e|e⟩|e|⟨i,a,e⟩)
 ·exact h.sa.row.lt b e
 ·exact(h.sa.la i a).lt b e
 ·exact(h.sa.ca i a).lt b e
 ·exact h.ld.row.lt b e
 ·exact(h.ld.st i a).lt b e
 ·exact(h.ld.ro i a).lt b e
 ·exact(h.ld.se i a).lt b e
 ·exact h.bk.row.lt b e
 ·exact(h.bk.legs i a).lt b e
theorem zF.keep {T:Nat->Prop}(h:zF w base v1 v2 v3 n1 n2 n3 x L C A B D E)(d:zx w w' T)(c:∀ b,OffB v1 v2 v3 n1 n2 n3 L C A B D E b->¬ T b):zF w' base v1 v2 v3 n1 n2 n3 x L C A B D E :=
 ⟨⟨d.own h.sa.row (λg e s=>c g (.inl (.inl e)) s),λi a=>d.own (h.sa.la i a) (λg e s=>c g (.inl (.inr ⟨i,a,.inl e⟩)) s),λi a=>d.own (h.sa.ca i a) (λg e s=>c g (.inl (.inr ⟨i,a,.inr e⟩)) s),h.sa.apart⟩,
  ⟨d.own h.ld.row (λg e s=>c g (.inr (.inl e)) s),λi a=>d.own (h.ld.st i a) (λg e s=>c g (.inr (.inr (.inl ⟨i,a,.inl e⟩))) s),λi a=>d.own (h.ld.ro i a) (λg e s=>c g (.inr (.inr (.inl ⟨i,a,.inr (.inl e)⟩))) s),λi a=>d.own (h.ld.se i a) (λg e s=>c g (.inr (.inr (.inl ⟨i,a,.inr (.inr e)⟩))) s),h.ld.far⟩,
  ⟨d.own h.bk.row (λg e s=>c g (.inr (.inr (.inr (.inl e)))) s),λi a=>d.own (h.bk.legs i a) (λg e s=>c g (.inr (.inr (.inr (.inr ⟨i,a,e⟩)))) s),h.bk.apart⟩⟩
theorem zF.noRow {c t sz n:Nat}{u:Value}{r:List Value}(h:zF w base v1 v2 v3 n1 n2 n3 x L C A B D E)(hr:w.ownsRow c t sz u n r)(d:140≠t/\223≠t/\231≠t/\145≠t/\220≠t/\228≠t/\234≠t/\150≠t/\3≠t):∀ b,OffB v1 v2 v3 n1 n2 n3 L C A B D E b->u.ownBlock≠some b:=by
 obtain⟨f,g,j,k,l,m,o,p,q⟩:=d;rintro b ((e|⟨i,a,e|e⟩)|e|⟨i,a,e|e|e⟩|e|⟨i,a,e⟩)
 ·exact zI h.sa.row hr f b e
 ·exact zI (h.sa.la i a) hr g b e
 ·exact zI (h.sa.ca i a) hr j b e
 ·exact zI h.ld.row hr k b e
 ·exact zI (h.ld.st i a) hr l b e
 ·exact zI (h.ld.ro i a) hr m b e
 ·exact zI (h.ld.se i a) hr o b e
 ·exact zI h.bk.row hr p b e
 ·exact zI (h.bk.legs i a) hr q b e
end
def kO (x:Off):Nat:=kB x.bk (kL x.ld (kS x.sa 1 x.san) x.ldn) x.bkn
def mO (x:Off):Off:={ x with sa:=mS x.sa 1,ld:=mL x.ld (kS x.sa 1 x.san),bk:=mB x.bk (kL x.ld (kS x.sa 1 x.san) x.ldn) }
theorem kO_le {x:Off}(h1:x.san<=1000)(h2:x.ldn<=1000)(h3:x.bkn<=1000)(e:Off.Short x 1048576):kS x.sa 1 x.san<=5000000000/\kL x.ld (kS x.sa 1 x.san) x.ldn<=20000000000/\kO x<=30000000000:=by
 have a:=kS_le (k0:=1) (λi d=>⟨(e.1.2 i d).2.2.1,(e.1.2 i d).2.2.2⟩) _ (Jr _)
 have b:=kL_le (k0:=kS x.sa 1 x.san) e.2.1.2 _ (Jr _);have c:=kB_le (k0:=kL x.ld (kS x.sa 1 x.san) x.ldn) (λi d=>(e.2.2.2 i d).2) _ (Jr _)
 refine⟨by omega,by omega,?_⟩
 unfold kO
 omega
theorem zhs (x:Off)(o l m:Option Addr)(c1 c2 c3 base:Nat)(L C A B D E:Nat->Value)(w:World)(h1:x.san<=1000)(h2:x.ldn<=1000)(h3:x.bkn<=1000)(O:Off.Short x 1048576)(N:zF w base (o,x.san,c1) (l,x.ldn,c2) (m,x.bkn,c3) x.san x.ldn x.bkn x L C A B D E) :
  Calls prog 15 #[.agg #[(o,x.san,c1),(l,x.ldn,c2),(m,x.bkn,c3)],int i64 1] w λe w'=>e=.returned ((kO x:Nat):Int)/\zF w' base (o,x.san,c1) (l,x.ldn,c2) (m,x.bkn,c3) x.san x.ldn x.bkn (mO x) L C A B D E/\zx w w' (OffB (o,x.san,c1) (l,x.ldn,c2) (m,x.bkn,c3) x.san x.ldn x.bkn L C A B D E):=by
 have Q:=hI (kO_le h1 h2 h3 O);have H:=hI O;have g:Below _ w (w.alloc (.cells #[(o,x.san,c1),(l,x.ldn,c2),(m,x.bkn,c3)] 38)):=zk bZ _;have M:=zoP g;have v:Hid (∀ b,_->b≠w.heap.size):=λb e=>by have:=(N.blk b e).2;omega
 have f:=hI (N.below g);have n:=hI (zx.of_below g);clear O N g;go_enter func15,ntmps15;go_wp2_with fail;generalize w.alloc _=V at M f n ⊢;refine(zjp o _ c1 _ 1 _ L C V (by omega) (by decide) (λi a=>⟨(H.1.2 i a).2.2.1,(H.1.2 i a).2.2.2⟩) f.sa).mono ?_
 rintro e I ⟨rfl,z,h⟩;have r:zx V I (OffB _ (l,x.ldn,c2) (m,x.bkn,c3) _ x.ldn x.bkn L C A B D E):=h.mono (λb e=>.inl e)
 have p:=r.blk M (λe=>v _ e rfl)
 have c:Hid (zF I _ _ _ _ _ _ _ { x with sa:=mS _ 1 } L C A B D E) :=
  ⟨z,f.ld.other h (λb e=>by
    rcases e with e|⟨i,a,e|e⟩
    ·obtain⟨cs,q⟩:=zA f.sa.row b e;exact⟨cs,_,q,by decide,by decide,by decide,by decide⟩
    ·obtain⟨cs,q⟩:=zA (f.sa.la i a) b e;exact⟨cs,_,q,by decide,by decide,by decide,by decide⟩
    ·obtain⟨cs,q⟩:=zA (f.sa.ca i a) b e;exact⟨cs,_,q,by decide,by decide,by decide,by decide⟩),
   f.bk.other h (λb e=>by
    rcases e with e|⟨i,a,e|e⟩
    ·obtain⟨cs,q⟩:=zA f.sa.row b e;exact⟨cs,_,q,by decide,by decide⟩
    ·obtain⟨cs,q⟩:=zA (f.sa.la i a) b e;exact⟨cs,_,q,by decide,by decide⟩
    ·obtain⟨cs,q⟩:=zA (f.sa.ca i a) b e;exact⟨cs,_,q,by decide,by decide⟩)⟩
 have t:=hI (n.trans r);clear z h r f n M;have S:=za p 1 _ rfl;go_wp2_with fail;refine(zmq l _ c2 _ _ _ A B D I h2 (by have:=Q.1;omega) H.2.1.2 c.ld).mono ?_
 rintro e P ⟨rfl,F,j⟩;have s:zx I P (OffB (o,x.san,c1) (l,x.ldn,c2) (m,x.bkn,c3) x.san _ x.bkn L C A B D E):=j.mono (λb e=>.inr (.inr (.inl e)))
 have y:=s.blk p (λe=>v _ e rfl)
 have d:Hid (zF P _ _ _ _ _ _ _ { x with sa:=_,ld:=mL _ _ } L C A B D E) :=
  ⟨c.sa.other j (λb e=>by
    rcases e with⟨i,a,e|e|e⟩
    ·obtain⟨cs,q⟩:=zA (c.ld.st i a) b e;exact⟨cs,_,q,by decide,by decide,by decide⟩
    ·obtain⟨cs,q⟩:=zA (c.ld.ro i a) b e;exact⟨cs,_,q,by decide,by decide,by decide⟩
    ·obtain⟨cs,q⟩:=zA (c.ld.se i a) b e;exact⟨cs,_,q,by decide,by decide,by decide⟩),F,
   c.bk.other j (λb e=>by
    rcases e with⟨i,a,e|e|e⟩
    ·obtain⟨cs,q⟩:=zA (c.ld.st i a) b e;exact⟨cs,_,q,by decide,by decide⟩
    ·obtain⟨cs,q⟩:=zA (c.ld.ro i a) b e;exact⟨cs,_,q,by decide,by decide⟩
    ·obtain⟨cs,q⟩:=zA (c.ld.se i a) b e;exact⟨cs,_,q,by decide,by decide⟩)⟩
 have u:=hI (t.trans s);clear F j s c t p S;have T:=za y 2 _ rfl;go_wp2_with fail;refine(zms m _ c3 _ _ _ E P (by omega) (by have:=Q.2.1;omega) (λi a=>(H.2.2.2 i a).2) d.bk).mono ?_
 rintro e R ⟨rfl,G,k⟩;have K:Hid (zF R _ _ _ _ _ _ _ (mO x) L C A B D E) :=
  ⟨d.sa.other k (λb e=>by
    rcases e with e|⟨i,a,e⟩
    ·obtain⟨cs,q⟩:=zA d.bk.row b e;exact⟨cs,_,q,by decide,by decide,by decide⟩
    ·obtain⟨cs,q⟩:=zA (d.bk.legs i a) b e;exact⟨cs,_,q,by decide,by decide,by decide⟩),
   d.ld.other k (λb e=>by
    rcases e with e|⟨i,a,e⟩
    ·obtain⟨cs,q⟩:=zA d.bk.row b e;exact⟨cs,_,q,by decide,by decide,by decide,by decide⟩
    ·obtain⟨cs,q⟩:=zA (d.bk.legs i a) b e;exact⟨cs,_,q,by decide,by decide,by decide,by decide⟩),G⟩
 have J:=hI (u.trans (k.mono (λb e=>.inr (.inr (.inr e)))))
 clear G k d u y T;go_wp2;go_ret;exact⟨rfl,K,J⟩
theorem zdF (x:Off)(f g h:Option Addr)(c1 c2 c3:Nat)(w:World)(h1:x.san<=1000)(h2:x.ldn<=1000)(h3:x.bkn<=1000)(l:Off.Short x 1048576)(o:qB w f x.san (mO x).sa/\ZG w g x.ldn (mO x).ld/\qO w h x.bkn (mO x).bk) :
  Calls prog 18 #[.agg #[(f,x.san,c1),(g,x.ldn,c2),(h,x.bkn,c3)],int i64 1] w λe w'=>e=.returned ((kO x:Nat):Int)/\Below w.heap.size w w':=by
 have n:=hI (kO_le h1 h2 h3 l);have d:=hI l;have k:=hI o;clear l o;have a:Below _ w (w.alloc (.cells #[(f,x.san,c1),(g,x.ldn,c2),(h,x.bkn,c3)] 38)):=zk bZ _;have b:=zoP a;go_enter func18,ntmps18;go_wp2_with fail;generalize w.alloc _=V at a b ⊢;refine(zjq f _ c1 1 _ V (by omega) (by decide) (λi j=>⟨(d.1.2 i j).2.2.1,(d.1.2 i j).2.2.2⟩) (k.1.below a)).mono ?_
 rintro e p ⟨rfl,c⟩;replace b:=zb b c;replace a:=ze a c;clear c;have y1:=za b 1 _ rfl;have e0:decide (((kS x.sa 1 x.san:Nat):Int)<0)=false:=Jc (by omega)
 go_wp2_with fail;refine(zmr g _ c2 _ _ p h2 (by have:=n.1;omega) d.2.1.2 (k.2.1.below a)).mono ?_
 rintro e w2 ⟨rfl,m⟩;have m:=m.symm;subst m;have y2:=za b 2 _ rfl;have e1:decide (((kL x.ld (kS x.sa 1 x.san) x.ldn:Nat):Int)<0)=false:=Jc (by omega)
 go_wp2_with fail;refine(zmt h _ c3 _ _ _ (by omega) (by have:=n.2.1;omega) (λi j=>(d.2.2.2 i j).2) (k.2.2.below a)).mono ?_
 rintro e w3 ⟨rfl,c⟩;replace a:=ze a c;have e2:decide (((kB x.bk (kL x.ld (kS x.sa 1 x.san) x.ldn) x.bkn:Nat):Int)<0)=false:=Jc (by omega)
 go_wp2;go_ret;exact⟨rfl,a⟩
end
section
open Go.RowKit
variable{w w':World}{base t sz b n g:Nat}
def zdd (w:World)(base t sz b n:Nat)(Q:List Value->Prop):Prop:=∃ xs,Q xs/\w.ownsRow base t sz (some (b,0),n,n) n xs
theorem zld {j:List Value}(h:w.ownsRow base t sz (some (b,0),n,n) n j):∃ a,w.heap[b]?=some (.cells a t (0,0))/\a.size=n*sz:=by
 rcases h.2 with⟨e,_⟩|⟨g,d,a,c,_,f,_,_,i,_⟩
 ·cases e
 ·simp only[Value.slice.injEq,Option.some.injEq,Addr.mk.injEq] at c
  obtain⟨⟨rfl,_,_⟩,_,rfl⟩:=c;exact⟨a,f,i⟩
theorem zdd.after {j a l:Nat}{Q o:List Value->Prop}(h:zdd w base t sz b n Q)(r:zdd w base j a g l o)(s:zx w w' (λx=>x=g))(y:0<sz)(q:t=j->sz=a)(v:t=j->n=l->zdd w' base t sz g n Q):zdd w' base t sz b n Q:=by
 by_cases e:b=g
 ·subst e
  obtain⟨m,k,f⟩:=h;obtain⟨ys,u,i⟩:=r;obtain⟨c1,p,z⟩:=zld f;obtain⟨c2,c,A⟩:=zld i;rw[p] at c;simp only[Option.some.injEq,Obj.cells.injEq] at c;obtain⟨rfl,rfl,_⟩:=c;obtain rfl:=q rfl;exact v rfl (Nat.eq_of_mul_eq_mul_right y (z.symm.trans A))
 ·obtain⟨m,k,f⟩:=h
  exact⟨m,k,s.own f (λb' d e'=>by simp only[Value.ownBlock,Option.some.injEq] at d;omega)⟩
theorem zdd.kept {Q:List Value->Prop}{T:Nat->Prop}(h:zdd w base t sz b n Q)(e:zx w w' T)(d:¬ T b):zdd w' base t sz b n Q:=by
 obtain⟨i,g,f⟩:=h;exact⟨i,g,e.own f (λb' a c=>by simp only[Value.ownBlock,Option.some.injEq] at a;subst a;exact d c)⟩
end
section
open Go.RowKit
variable{w w':World}{base b n N g:Nat}{k:Int}
def zep (w:World)(base b n:Nat):Prop:=zdd w base 220 4 b n (λa=>∃ S,a=zy S n)
def zeq (w:World)(base b n:Nat):Prop:=zdd w base 228 4 b n (λa=>∃ S,a=zw S n)
def zer (w:World)(base b n:Nat):Prop:=zdd w base 234 2 b n (λa=>∃ S,a=zB S n)
theorem zle (hn:n<=1048576)(f:0<=k)(h1:k<=1000000000000000)(h:zep w base b n) :
  Calls prog 129 #[(some (b,0),n,n),k] w λe w'=>e=.returned (int i64 (k+4*n))/\zep w' base b n/\zx w w' (λx=>x=b):=by
 obtain⟨_,⟨S,rfl⟩,g⟩:=h;exact(zeT _ n n _ S k w (by omega) f h1 g).mono λ_ _ ⟨a,b,c⟩=>⟨a,⟨_,⟨_,rfl⟩,b⟩,c.mono (λx d=>by simp only[Value.ownBlock,Option.some.injEq] at d;exact d.symm)⟩
theorem zlf (hn:n<=1048576)(f:0<=k)(h1:k<=1000000000000000)(h:zeq w base b n) :
  Calls prog 130 #[(some (b,0),n,n),k] w λe w'=>e=.returned (int i64 (k+4*n))/\zeq w' base b n/\zx w w' (λx=>x=b):=by
 obtain⟨_,⟨S,rfl⟩,g⟩:=h;exact(zeU _ n n _ S k w (by omega) f h1 g).mono λ_ _ ⟨a,b,c⟩=>⟨a,⟨_,⟨_,rfl⟩,b⟩,c.mono (λx d=>by simp only[Value.ownBlock,Option.some.injEq] at d;exact d.symm)⟩
theorem zlg (hn:n<=1048576)(f:0<=k)(h1:k<=1000000000000000)(h:zer w base b n) :
  Calls prog 131 #[(some (b,0),n,n),k] w λe w'=>e=.returned (int i64 (k+2*n))/\zer w' base b n/\zx w w' (λx=>x=b):=by
 obtain⟨_,⟨S,rfl⟩,g⟩:=h;exact(zeV _ n n _ S k w (by omega) f h1 g).mono λ_ _ ⟨a,b,c⟩=>⟨a,⟨_,⟨_,rfl⟩,b⟩,c.mono (λx d=>by simp only[Value.ownBlock,Option.some.injEq] at d;exact d.symm)⟩
def zaH (w:World)(base N:Nat)(S:Nat->zY)(a b c:Nat->Nat):Prop :=
 ∀ i,i<N->zep w base (a i) (S i).stn/\zeq w base (b i) (S i).ron/\zer w base (c i) (S i).sen
theorem zaH.stay {S:Nat->zY}{f j k:Nat->Nat}(h:zaH w base N S f j k)(a:zep w base g n)(b:zep w' base g n)(d:zx w w' (λx=>x=g)):zaH w' base N S f j k:=λi c =>
 ⟨(h i c).1.after a d (by omega) (λ_=>rfl) (λ_ e=>by rw[e];exact b),(h i c).2.1.after a d (by omega) (λh=>absurd h (by decide)) (λh=>absurd h (by decide)),(h i c).2.2.after a d (by omega) (λh=>absurd h (by decide)) (λh=>absurd h (by decide))⟩
theorem zaH.room {S:Nat->zY}{f j k:Nat->Nat}(h:zaH w base N S f j k)(a:zeq w base g n)(b:zeq w' base g n)(d:zx w w' (λx=>x=g)):zaH w' base N S f j k:=λi c =>
 ⟨(h i c).1.after a d (by omega) (λh=>absurd h (by decide)) (λh=>absurd h (by decide)),(h i c).2.1.after a d (by omega) (λ_=>rfl) (λ_ e=>by rw[e];exact b),(h i c).2.2.after a d (by omega) (λh=>absurd h (by decide)) (λh=>absurd h (by decide))⟩
theorem zaH.seat {S:Nat->zY}{f j k:Nat->Nat}(h:zaH w base N S f j k)(a:zer w base g n)(b:zer w' base g n)(d:zx w w' (λx=>x=g)):zaH w' base N S f j k:=λi c =>
 ⟨(h i c).1.after a d (by omega) (λh=>absurd h (by decide)) (λh=>absurd h (by decide)),(h i c).2.1.after a d (by omega) (λh=>absurd h (by decide)) (λh=>absurd h (by decide)),(h i c).2.2.after a d (by omega) (λ_=>rfl) (λ_ e=>by rw[e];exact b)⟩
theorem zjw (g N lo n k0:Nat)(S:Nat->zY)(C:Nat->List Value)(w:World)(hN:N<=1048576)(a1:k0<=10000000000000)(O:ZA N S 1048576)(x:zan w N lo n g N S C) :
  Calls prog 63 #[.slice (some ⟨g,0,none⟩) N N,int i64 k0] w λe w'=>(∃ k:Nat,k<=30000000000000/\e=.returned (int i64 k))/\zx w w' (λb=>lo<=b/\b<n):=by
 have y:∀ i,i<N->∃ p:Nat × Nat × Nat,(C i=[ZY p.1 (S i).stn,ZY p.2.1 (S i).ron,ZY p.2.2 (S i).sen]/\(g<p.1/\p.1<n)/\(g<p.2.1/\p.2.1<n)/\(g<p.2.2/\p.2.2<n))/\zep w lo p.1 (S i).stn/\zeq w lo p.2.1 (S i).ron/\zer w lo p.2.2 (S i).sen:=by
  intro i hi';obtain⟨a,b,c,e,z,A,B⟩:=x.each i hi';have sh:=O i hi';have E:=x.glo;unfold zY.Short at sh;exact⟨(a,b,c),⟨e,⟨Nat.lt_of_succ_le z.1,z.2.1⟩,⟨Nat.lt_of_succ_le A.1,A.2.1⟩,⟨Nat.lt_of_succ_le B.1,B.2.1⟩⟩,⟨_,⟨_,rfl⟩,Zz z.2.2 (Jp (Nat.le_succ_of_le E) z.1) (by unfold maxLen;omega)⟩,⟨_,⟨_,rfl⟩,Zz A.2.2 (Jp (Nat.le_succ_of_le E) A.1) (by unfold maxLen;omega)⟩,⟨_,⟨_,rfl⟩,Zz B.2.2 (Jp (Nat.le_succ_of_le E) B.1) (by unfold maxLen;omega)⟩⟩
 obtain⟨p,M⟩:=Go.Deep.choose_lt y;have HP:=hI (λi hi'=>(M i hi').1)
 have v:zaH w lo N S _ _ _:=λi hi'=>(M i hi').2
 have V:=hI x;have HS:=hI O;have a0:=x.glo;clear O x y M;go_enter func63,ntmps63;go_wp2;go_loopw [1,5] (λq i wr=>∃ t k:Nat,t<=N/\i=int i64 t/\q=int i64 k/\k<=10000000000000+t*10485760/\zaH wr lo N S (λi=>(p i).1) (λi=>(p i).2.1) (λi=>(p i).2.2)/\zx w wr (λb=>g<b/\b<n)) (λ_ i _=>N - (intOf i).toNat)
 case atStart=>exact⟨0,k0,Jq _,rfl,rfl,by omega,v,zx.refl _ _⟩
 case round =>
  obtain⟨t,k,ht,rfl,rfl,a2,F,D⟩:=hrel
  by_cases hlt:t<N
  ·obtain⟨W,b1,b2,b3⟩:=HP t hlt
   obtain⟨n1,n2,n3⟩:=HS t hlt;have f:∀ w',zx w w' (λb=>g<b/\b<n)->∀ j,j<3->w'.cell? (g,t*3+j)=some ([ZY (p t).1 (S t).stn,ZY (p t).2.1 (S t).ron,ZY (p t).2.2 (S t).sen].getD j (.bool false)):=by
    intro w' K j hj;have r:=V.row.of_block (K.block _ V.row.lt (λs=>by omega))
    rw[r.cell (by omega),zC 3 _ t j hj,qr _ _ hlt,W]
   have h:=hI f;clear f W;have H:wr.cell? ⟨g,t*3,_⟩=some (.slice _ _ _):=h wr D 0 (by omega)
   go_wp2_with fail;have d:zep wr lo (p t).1 _:=(F t hlt).1;refine(zle n1 (by omega) (by omega) d).mono ?_
   rintro e T ⟨rfl,X,P⟩;have l:=F.stay d X P;have o:=D.trans (P.mono (λb e=>by have e:=e;exact⟨by omega,by omega⟩))
   clear F D P X d H;have I:T.cell? _=some (.slice _ _ _):=h T o 1 (by omega)
   go_wp2_with fail;have d:zeq T lo (p t).2.1 _:=(l t hlt).2.1;refine(zlf n2 (by omega) (by omega) d).mono ?_
   rintro e U ⟨rfl,Y,Q⟩;have m:=l.room d Y Q;have u:=o.trans (Q.mono (λb e=>by have e:=e;exact⟨by omega,by omega⟩))
   clear l o Q Y d I;have J:U.cell? _=some (.slice _ _ _):=h U u 2 (by omega)
   go_wp2_with fail;have d:zer U lo (p t).2.2 _:=(m t hlt).2.2;refine(zlg n3 (by omega) (by omega) d).mono ?_
   rintro e w4 ⟨rfl,Z,R⟩;have G:=m.seat d Z R;have L:=u.trans (R.mono (λb e=>by have e:=e;exact⟨by omega,by omega⟩))
   clear m u R Z d J;go_wp2;go_roundw
   case rel=>exact⟨t+1,k+4*_+4*_+2*_,by omega,by go_num,by congr 1,by omega,G,L⟩
   case measure=>simp[intOf];omega
  ·obtain rfl:t=N:=by omega
   go_wp2;go_ret;exact⟨⟨k,by omega,rfl⟩,D.mono (λb e=>by have e:=e;exact⟨by omega,by omega⟩)⟩
end
end Go.Proofs.YtmdnjgihooflfaaGreatDoor
