/-
  OWN TEXT: MarkStay, MarkRoom, MarkSeat, HeldStay, HeldRoom, HeldSeat, MarkLo.
-/
import Derived.Test.YtmdnjgihooflfaaGreatDoorKitCo
import Derived.Deep.DeepCutAuto
import Derived.Test.YtmdnjgihooflfaaGreatDoorB08
namespace Go.Proofs.YtmdnjgihooflfaaGreatDoor
open Go.RowKit
open Go.Value (int)
open Go.IntKind (i64)
open Tryz
set_option maxHeartbeats 64000000
set_option maxRecDepth 100000
def ZM (k0:Int)(t:Nat):Zp:=⟨k0+4*t,k0+4*t+1,k0+4*t+2,k0+4*t+3⟩
theorem zeT (f:Option Addr)(n c base:Nat)(S:Nat->Zp)(k0:Int)(w:World)(hn:n<=2097152)(k:0<=k0)(h1:k0<=1000000000000000)(D:w.ownsRow base 220 4 (f,n,c) n (zy S n)) :
  Calls prog 129 #[(f,n,c),k0] w λe w'=>e=.returned (int i64 (k0+4*n))/\w'.ownsRow base 220 4 (f,n,c) n (zy (ZM k0) n)/\zx w w' (λb=>(Value.slice f n c).ownBlock=some b):=by
 go_enter func129,ntmps129;go_wp2;go_loopw [1,5] (λq i wr=>∃ (t:Nat),t<=n/\i=int i64 t/\q=int i64 (k0+4*t)/\wr.ownsRow base 220 4 (f,n,c) n ((List.range (n*4)).map (qv (λi=>if i<t then ZM k0 i else S i)))/\zx w wr (λb=>(Value.slice f n c).ownBlock=some b)) (λ_ i _=>n - (intOf i).toNat)
 case atStart=>exact⟨0,Jq _,rfl,by simp,by simpa [zy] using D,zx.refl _ _⟩
 case round =>
  obtain⟨t,ht,rfl,rfl,d,u⟩:=hrel
  by_cases hlt:t<n
  ·obtain⟨g,rfl,A,B⟩:=qh d (by omega)
   have l:=zs d (t*4) (by omega) rfl
   have v:=d.frozenAt (t*4);rw[zbu] at l;have m:=zs d (t*4+1) (by omega) rfl
   have x:=d.frozenAt (t*4+1);rw[zbv] at m;have o:=zs d (t*4+2) (by omega) rfl
   have y:=d.frozenAt (t*4+2);rw[zbw] at o;have p:=zs d (t*4+3) (by omega) rfl
   have z:=d.frozenAt (t*4+3);rw[zbx] at p;go_wp2;go_roundw
   case rel =>
    refine⟨t+1,by omega,by go_num,by go_num,qR (zL (zL (zL (zL d _ _) _ _) _ _) _ _) (λj hj=>?_),((((u.set (a:=⟨g,t*4,_⟩) rfl _).set (a:=⟨g,_+1,_⟩) rfl _).set (a:=⟨g,_+2,_⟩) rfl _).set (a:=⟨g,_+3,_⟩) rfl _)⟩
    have s:∀ (S'),(∀ i,i≠t->S' i=(if i<t then ZM k0 i else S i))->(S' t=ZM k0 t)->qv S' j=qv (λi=>if i<t+1 then ZM k0 i else S i) j:=by
     intro S' h1 h2;unfold qv;have:S' (j / 4)=(if j / 4<t+1 then ZM k0 (j / 4) else S (j / 4)):=by
      by_cases e:j / 4=t
      ·rw[e,h2,Jf (by omega)]
      ·rw[h1 _ e]
       by_cases e2:j / 4<t
       ·rw[Jf e2,Jf (by omega)]
       ·rw[Je e2,Je (by omega)]
     rw[this]
    rw[← s (λi=>if i=t then ZM k0 t else _) (λi h=>Je h) (Jf rfl)]
    by_cases h3:j=t*4+3
    ·subst h3;rw[Jf rfl,zbx,Jf rfl];simp[ZM];try omega
    rw[Je h3]
    by_cases h2:j=t*4+2
    ·subst h2;rw[Jf rfl,zbw,Jf rfl];simp[ZM];try omega
    rw[Je h2]
    by_cases h1:j=t*4+1
    ·subst h1;rw[Jf rfl,zbv,Jf rfl];simp[ZM];try omega
    rw[Je h1]
    by_cases k:j=t*4
    ·subst k;rw[Jf rfl,zbu,Jf rfl];simp[ZM];try omega
    rw[Je k];have r:j / 4≠t:=by omega
    unfold qv;simp only[Je r]
   case measure=>simp[intOf];omega
  ·obtain rfl:t=n:=by omega
   go_wp2;go_ret;refine⟨rfl,?_,u⟩;rw[zbU (S':=λi=>if i<t then _ else S i) (λi C=>(Jf C).symm)]
   exact d
def ZN (k0:Int)(t:Nat):qN:=⟨k0+4*t,k0+4*t+1,k0+4*t+2,((k0+4*(t:Int)+3) % 3 == 0)⟩
theorem zeU (f:Option Addr)(n c base:Nat)(S:Nat->qN)(k0:Int)(w:World)(hn:n<=2097152)(k:0<=k0)(h1:k0<=1000000000000000)(D:w.ownsRow base 228 4 (f,n,c) n (zw S n)) :
  Calls prog 130 #[(f,n,c),k0] w λe w'=>e=.returned (int i64 (k0+4*n))/\w'.ownsRow base 228 4 (f,n,c) n (zw (ZN k0) n)/\zx w w' (λb=>(Value.slice f n c).ownBlock=some b):=by
 go_enter func130,ntmps130;go_wp2;go_loopw [1,5] (λq i wr=>∃ (t:Nat),t<=n/\i=int i64 t/\q=int i64 (k0+4*t)/\wr.ownsRow base 228 4 (f,n,c) n ((List.range (n*4)).map (qs (λi=>if i<t then ZN k0 i else S i)))/\zx w wr (λb=>(Value.slice f n c).ownBlock=some b)) (λ_ i _=>n - (intOf i).toNat)
 case atStart=>exact⟨0,Jq _,rfl,by simp,by simpa [zw] using D,zx.refl _ _⟩
 case round =>
  obtain⟨t,ht,rfl,rfl,d,u⟩:=hrel
  by_cases hlt:t<n
  ·obtain⟨g,rfl,A,B⟩:=qh d (by omega)
   have l:=zs d (t*4) (by omega) rfl
   have v:=d.frozenAt (t*4);rw[zaJ] at l;have m:=zs d (t*4+1) (by omega) rfl
   have x:=d.frozenAt (t*4+1);rw[zaK] at m;have o:=zs d (t*4+2) (by omega) rfl
   have y:=d.frozenAt (t*4+2);rw[zaL] at o;have p:=zs d (t*4+3) (by omega) rfl
   have z:=d.frozenAt (t*4+3);rw[zaM] at p;go_wp2;go_roundw
   case rel =>
    refine⟨t+1,by omega,by go_num,by go_num,qR (zL (zL (zL (zL d _ _) _ _) _ _) _ _) (λj hj=>?_),((((u.set (a:=⟨g,t*4,_⟩) rfl _).set (a:=⟨g,_+1,_⟩) rfl _).set (a:=⟨g,_+2,_⟩) rfl _).set (a:=⟨g,_+3,_⟩) rfl _)⟩
    have s:∀ (S'),(∀ i,i≠t->S' i=(if i<t then ZN k0 i else S i))->(S' t=ZN k0 t)->qs S' j=qs (λi=>if i<t+1 then ZN k0 i else S i) j:=by
     intro S' h1 h2;unfold qs;have:S' (j / 4)=(if j / 4<t+1 then ZN k0 (j / 4) else S (j / 4)):=by
      by_cases e:j / 4=t
      ·rw[e,h2,Jf (by omega)]
      ·rw[h1 _ e]
       by_cases e2:j / 4<t
       ·rw[Jf e2,Jf (by omega)]
       ·rw[Je e2,Je (by omega)]
     rw[this]
    rw[← s (λi=>if i=t then ZN k0 t else _) (λi h=>Je h) (Jf rfl)]
    by_cases h3:j=t*4+3
    ·subst h3;rw[Jf rfl,zaM,Jf rfl];simp only[ZN];rw[show k0+4*(t:Int)+1+1+1=k0+4*(t:Int)+3 by omega]
    rw[Je h3]
    by_cases h2:j=t*4+2
    ·subst h2;rw[Jf rfl,zaL,Jf rfl];simp[ZN];try omega
    rw[Je h2]
    by_cases h1:j=t*4+1
    ·subst h1;rw[Jf rfl,zaK,Jf rfl];simp[ZN];try omega
    rw[Je h1]
    by_cases k:j=t*4
    ·subst k;rw[Jf rfl,zaJ,Jf rfl];simp[ZN];try omega
    rw[Je k];have r:j / 4≠t:=by omega
    unfold qs;simp only[Je r]
   case measure=>simp[intOf];omega
  ·obtain rfl:t=n:=by omega
   go_wp2;go_ret;refine⟨rfl,?_,u⟩;rw[zeb (S':=λi=>if i<t then _ else S i) (λi C=>(Jf C).symm)]
   exact d
def Qb (k0:Int)(t:Nat):Qe:=⟨k0+2*t,k0+2*t+1⟩
theorem zeV (f:Option Addr)(n c base:Nat)(S:Nat->Qe)(k0:Int)(w:World)(hn:n<=2097152)(k:0<=k0)(h1:k0<=1000000000000000)(z:w.ownsRow base 234 2 (f,n,c) n (zB S n)) :
  Calls prog 131 #[(f,n,c),k0] w λe w'=>e=.returned (int i64 (k0+2*n))/\w'.ownsRow base 234 2 (f,n,c) n (zB (Qb k0) n)/\zx w w' (λb=>(Value.slice f n c).ownBlock=some b):=by
 go_enter func131,ntmps131;go_wp2;go_loopw [1,5] (λq i wr=>∃ (t:Nat),t<=n/\i=int i64 t/\q=int i64 (k0+2*t)/\wr.ownsRow base 234 2 (f,n,c) n ((List.range (n*2)).map (qL (λi=>if i<t then Qb k0 i else S i)))/\zx w wr (λb=>(Value.slice f n c).ownBlock=some b)) (λ_ i _=>n - (intOf i).toNat)
 case atStart=>exact⟨0,Jq _,rfl,by simp,by simpa [zB] using z,zx.refl _ _⟩
 case round =>
  obtain⟨t,ht,rfl,rfl,d,r⟩:=hrel
  by_cases hlt:t<n
  ·obtain⟨g,rfl,v,x⟩:=qh d (by omega)
   have l:=zs d (t*2) (by omega) rfl
   have s:=d.frozenAt (t*2);rw[zaN] at l;have m:=zs d (t*2+1) (by omega) rfl
   have u:=d.frozenAt (t*2+1);rw[zaO] at m;go_wp2;go_roundw
   case rel =>
    refine⟨t+1,by omega,by go_num,by go_num,qR (zL (zL d _ _) _ _) (λj hj=>?_),((r.set (a:=⟨g,t*2,_⟩) rfl _).set (a:=⟨g,_+1,_⟩) rfl _)⟩
    have p:∀ (S'),(∀ i,i≠t->S' i=(if i<t then Qb k0 i else S i))->(S' t=Qb k0 t)->qL S' j=qL (λi=>if i<t+1 then Qb k0 i else S i) j:=by
     intro S' h1 h2;unfold qL;have:S' (j / 2)=(if j / 2<t+1 then Qb k0 (j / 2) else S (j / 2)):=by
      by_cases e:j / 2=t
      ·rw[e,h2,Jf (by omega)]
      ·rw[h1 _ e]
       by_cases e2:j / 2<t
       ·rw[Jf e2,Jf (by omega)]
       ·rw[Je e2,Je (by omega)]
     rw[this]
    rw[← p (λi=>if i=t then Qb k0 t else _) (λi h=>Je h) (Jf rfl)]
    by_cases h1:j=t*2+1
    ·subst h1;rw[Jf rfl,zaO,Jf rfl];simp[Qb];try omega
    rw[Je h1]
    by_cases k:j=t*2
    ·subst k;rw[Jf rfl,zaN,Jf rfl];simp[Qb];try omega
    rw[Je k];have o:j / 2≠t:=by omega
    unfold qL;simp only[Je o]
   case measure=>simp[intOf];omega
  ·obtain rfl:t=n:=by omega
   go_wp2;go_ret;refine⟨rfl,?_,r⟩;rw[zec (S':=λi=>if i<t then _ else S i) (λi y=>(Jf y).symm)]
   exact d
theorem zjr (a:Option Addr)(n c:Nat)(k0:Int)(w:World)(hn:n<=2097152)(h0:0<=k0)(h1:k0<=1000000000000000)(f:qw w a n (ZM k0)) :
  Calls prog 134 #[.slice a n c,int i64 k0] w λe w'=>e=.returned (int i64 (k0+4*n))/\w'=w:=by
 go_enter func134,ntmps134;go_wp2;go_loop [1,5] (λq i=>∃ t:Nat,t<=n/\i=int i64 t/\q=int i64 (k0+4*t)) (λ_ i=>n - (intOf i).toNat)
 case atStart=>exact⟨0,Jq _,rfl,by simp⟩
 case round =>
  obtain⟨t,ht,rfl,rfl⟩:=hrel
  by_cases hlt:t<n
  ·obtain⟨b,off,rfl,d,c1,c2,c3⟩:=f t hlt
   simp only[ZM] at d c1 c2 c3;go_wp2;go_round
   case rel=>exact⟨t+1,by omega,by go_num,by go_num⟩
   case measure=>simp[intOf];omega
  ·obtain rfl:t=n:=by omega
   go_wp2;go_ret;exact⟨rfl,rfl⟩
theorem zjs (a:Option Addr)(n c:Nat)(k0:Int)(w:World)(hn:n<=2097152)(h0:0<=k0)(h1:k0<=1000000000000000)(f:qp w a n (ZN k0)) :
  Calls prog 135 #[.slice a n c,int i64 k0] w λe w'=>e=.returned (int i64 (k0+4*n))/\w'=w:=by
 go_enter func135,ntmps135;go_wp2;go_loop [1,5] (λq i=>∃ t:Nat,t<=n/\i=int i64 t/\q=int i64 (k0+4*t)) (λ_ i=>n - (intOf i).toNat)
 case atStart=>exact⟨0,Jq _,rfl,by simp⟩
 case round =>
  obtain⟨t,ht,rfl,rfl⟩:=hrel
  by_cases hlt:t<n
  ·obtain⟨b,off,rfl,d,c1,c2,c3⟩:=f t hlt
   simp only[ZN] at d c1 c2 c3;rw[show k0+4*(t:Int)+3=k0+4*(t:Int)+1+1+1 by omega] at c3
   go_wp2;go_round
   case rel=>exact⟨t+1,by omega,by go_num,by go_num⟩
   case measure=>simp[intOf];omega
  ·obtain rfl:t=n:=by omega
   go_wp2;go_ret;exact⟨rfl,rfl⟩
theorem zjt (a:Option Addr)(n c:Nat)(k0:Int)(w:World)(hn:n<=2097152)(h0:0<=k0)(h1:k0<=1000000000000000)(f:qE w a n (Qb k0)) :
  Calls prog 136 #[.slice a n c,int i64 k0] w λe w'=>e=.returned (int i64 (k0+2*n))/\w'=w:=by
 go_enter func136,ntmps136;go_wp2;go_loop [1,5] (λq i=>∃ t:Nat,t<=n/\i=int i64 t/\q=int i64 (k0+2*t)) (λ_ i=>n - (intOf i).toNat)
 case atStart=>exact⟨0,Jq _,rfl,by simp⟩
 case round =>
  obtain⟨t,ht,rfl,rfl⟩:=hrel
  by_cases hlt:t<n
  ·obtain⟨b,off,rfl,d,c1⟩:=f t hlt
   simp only[Qb] at d c1;go_wp2;go_round
   case rel=>exact⟨t+1,by omega,by go_num,by go_num⟩
   case measure=>simp[intOf];omega
  ·obtain rfl:t=n:=by omega
   go_wp2;go_ret;exact⟨rfl,rfl⟩
section
open Go.RowKit
variable{k0 t N base:Nat}{w w':World}{v:Value}{A B C:Nat->Value}
def zju (L:Nat->zY)(k:Nat)(x:zY)(j:Nat):zY:=if j=k then x else L j
theorem ZU (L:Nat->zY)(k:Nat)(x:zY):zju L k x k=x:=Jf rfl
theorem zaa (L:Nat->zY)(k:Nat)(x:zY){j:Nat}(h:j≠k):zju L k x j=L j:=Je h
def kL (S:Nat->zY)(k0:Nat):Nat->Nat
 | 0=>k0
 | i+1=>kL S k0 i+4*(S i).stn+4*(S i).ron+2*(S i).sen
def mL (S:Nat->zY)(k0:Nat)(i:Nat):zY :=
 ⟨(S i).stn,ZM ((kL S k0 i:Nat):Int),(S i).ron,ZN ((kL S k0 i+4*(S i).stn:Nat):Int),(S i).sen,Qb ((kL S k0 i+4*(S i).stn+4*(S i).ron:Nat):Int)⟩
def mixL (S:Nat->zY)(k0 t:Nat)(i:Nat):zY:=if i<t then mL S k0 i else S i
theorem zfw {S:Nat->zY}{i:Nat}(h:i<t):mixL S k0 t i=mL S k0 i:=Jf h
theorem zjv {S:Nat->zY}{i:Nat}(h:¬ i<t):mixL S k0 t i=S i:=Je h
theorem mixL_next (S:Nat->zY)(k0 t:Nat):zju (mixL S k0 t) t (mL S k0 t)=mixL S k0 (t+1):=by
 funext i
 by_cases e:i=t
 ·subst e;rw[ZU,zfw (Nat.lt_succ_self _)]
 ·rw[zaa _ _ _ e]
  by_cases h:i<t
  ·rw[zfw h,zfw (by omega)]
  ·rw[zjv h,zjv (by omega)]
theorem zhp (L:Nat->zY)(k:Nat)(x y:zY):zju (zju L k x) k y=zju L k y:=by
 funext i
 by_cases e:i=k
 ·subst e;rw[ZU,ZU]
 ·rw[zaa _ _ _ e,zaa _ _ _ e,zaa _ _ _ e]
theorem kL_le {S:Nat->zY}(h:ZA N S 1048576):∀ i,i<=N->kL S k0 i<=k0+i*10485760
 | 0,_=>by unfold kL;omega
 | i+1,hi=>by
  have:=kL_le (k0:=k0) h i (by omega)
  obtain⟨h1,h2,h3⟩:=h i (by omega)
  unfold kL
  omega
def LdB (N:Nat)(A B C:Nat->Value)(b:Nat):Prop:=∃ i,i<N/\((A i).ownBlock=some b∨(B i).ownBlock=some b∨(C i).ownBlock=some b)
theorem markStayZ (z:Int)(v:Value)(n base k0:Nat)(S:Nat->Zp)(w:World)(f:z=(k0:Int))(hn:n<=1048576)(h1:k0<=100000000000000)(a:w.ownsRow base 220 4 v n (zy S n)) :
  Calls prog 129 #[v,z] w λe w'=>e=.returned ((k0+4*n:Nat):Int)/\w'.ownsRow base 220 4 v n (zy (ZM (k0:Int)) n)/\zx w w' (λb=>v.ownBlock=some b):=by
 subst f;obtain⟨d,c,rfl,_⟩:=zp a;refine(zeT d n c _ S k0 w (by omega) (by omega) (by omega) a).mono ?_
 rintro e w' ⟨rfl,h2,h3⟩;exact⟨by rw[show((k0+4*n:Nat):Int)=(k0:Int)+4*n by omega],h2,h3⟩
theorem heldStayZ (z:Int)(a:Option Addr)(n c k0:Nat)(w:World)(b:z=(k0:Int))(hn:n<=1048576)(h1:k0<=100000000000000)(h:qw w a n (ZM (k0:Int))) :
  Calls prog 134 #[(a,n,c),z] w λe w'=>e=.returned ((k0+4*n:Nat):Int)/\w'=w:=by
 subst b;rw[show((k0+4*n:Nat):Int)=(k0:Int)+4*n by omega]
 exact zjr a n c k0 w (by omega) (by omega) (by omega) h
theorem markRoomZ (z:Int)(v:Value)(n base k0:Nat)(S:Nat->qN)(w:World)(f:z=(k0:Int))(hn:n<=1048576)(h1:k0<=100000000000000)(a:w.ownsRow base 228 4 v n (zw S n)) :
  Calls prog 130 #[v,z] w λe w'=>e=.returned ((k0+4*n:Nat):Int)/\w'.ownsRow base 228 4 v n (zw (ZN (k0:Int)) n)/\zx w w' (λb=>v.ownBlock=some b):=by
 subst f;obtain⟨d,c,rfl,_⟩:=zp a;refine(zeU d n c _ S k0 w (by omega) (by omega) (by omega) a).mono ?_
 rintro e w' ⟨rfl,h2,h3⟩;exact⟨by rw[show((k0+4*n:Nat):Int)=(k0:Int)+4*n by omega],h2,h3⟩
theorem heldRoomZ (z:Int)(a:Option Addr)(n c k0:Nat)(w:World)(b:z=(k0:Int))(hn:n<=1048576)(h1:k0<=100000000000000)(h:qp w a n (ZN (k0:Int))) :
  Calls prog 135 #[(a,n,c),z] w λe w'=>e=.returned ((k0+4*n:Nat):Int)/\w'=w:=by
 subst b;rw[show((k0+4*n:Nat):Int)=(k0:Int)+4*n by omega]
 exact zjs a n c k0 w (by omega) (by omega) (by omega) h
theorem markSeatZ (z:Int)(v:Value)(n base k0:Nat)(S:Nat->Qe)(w:World)(f:z=(k0:Int))(hn:n<=1048576)(h1:k0<=100000000000000)(a:w.ownsRow base 234 2 v n (zB S n)) :
  Calls prog 131 #[v,z] w λe w'=>e=.returned ((k0+2*n:Nat):Int)/\w'.ownsRow base 234 2 v n (zB (Qb (k0:Int)) n)/\zx w w' (λb=>v.ownBlock=some b):=by
 subst f;obtain⟨d,c,rfl,_⟩:=zp a;refine(zeV d n c _ S k0 w (by omega) (by omega) (by omega) a).mono ?_
 rintro e w' ⟨rfl,h2,h3⟩;exact⟨by rw[show((k0+2*n:Nat):Int)=(k0:Int)+2*n by omega],h2,h3⟩
theorem heldSeatZ (z:Int)(a:Option Addr)(n c k0:Nat)(w:World)(b:z=(k0:Int))(hn:n<=1048576)(h1:k0<=100000000000000)(h:qE w a n (Qb (k0:Int))) :
  Calls prog 136 #[(a,n,c),z] w λe w'=>e=.returned ((k0+2*n:Nat):Int)/\w'=w:=by
 subst b;rw[show((k0+2*n:Nat):Int)=(k0:Int)+2*n by omega]
 exact zjt a n c k0 w (by omega) (by omega) (by omega) h
theorem qC.markStay {S:Nat->zY}{F:Nat->Zp}(h:qC w base v N S A B C)(d:t<N)(c:zx w w' (λb=>(A t).ownBlock=some b))(f:w'.ownsRow base 220 4 (A t) (S t).stn (zy F (S t).stn)):qC w' base v N (zju S t { S t with st:=F }) A B C:=by
 refine⟨c.own h.row (λg h1 h2=>zI h.row (h.st t d) (by decide) g h1 h2),λi a=>?_,λi a=>?_,λi a=>?_,h.far⟩
 ·by_cases e:i=t
  ·subst e;rw[ZU];exact f
  ·rw[zaa _ _ _ e];exact c.own (h.st i a) (λg h1 h2=>h.far.1 i t a d e g h1 h2)
 ·have q:=c.own (h.ro i a) (λg h1 h2=>zI (h.st t d) (h.ro i a) (by decide) g h2 h1)
  by_cases e:i=t
  ·subst e;rw[ZU];exact q
  ·rw[zaa _ _ _ e];exact q
 ·have q:=c.own (h.se i a) (λg h1 h2=>zI (h.st t d) (h.se i a) (by decide) g h2 h1)
  by_cases e:i=t
  ·subst e;rw[ZU];exact q
  ·rw[zaa _ _ _ e];exact q
theorem qC.markRoom {S:Nat->zY}{F:Nat->qN}(h:qC w base v N S A B C)(d:t<N)(c:zx w w' (λb=>(B t).ownBlock=some b))(f:w'.ownsRow base 228 4 (B t) (S t).ron (zw F (S t).ron)):qC w' base v N (zju S t { S t with ro:=F }) A B C:=by
 refine⟨c.own h.row (λg h1 h2=>zI h.row (h.ro t d) (by decide) g h1 h2),λi a=>?_,λi a=>?_,λi a=>?_,h.far⟩
 ·have q:=c.own (h.st i a) (λg h1 h2=>zI (h.ro t d) (h.st i a) (by decide) g h2 h1)
  by_cases e:i=t
  ·subst e;rw[ZU];exact q
  ·rw[zaa _ _ _ e];exact q
 ·by_cases e:i=t
  ·subst e;rw[ZU];exact f
  ·rw[zaa _ _ _ e];exact c.own (h.ro i a) (λg h1 h2=>h.far.2.1 i t a d e g h1 h2)
 ·have q:=c.own (h.se i a) (λg h1 h2=>zI (h.ro t d) (h.se i a) (by decide) g h2 h1)
  by_cases e:i=t
  ·subst e;rw[ZU];exact q
  ·rw[zaa _ _ _ e];exact q
theorem qC.markSeat {S:Nat->zY}{F:Nat->Qe}(h:qC w base v N S A B C)(d:t<N)(c:zx w w' (λb=>(C t).ownBlock=some b))(f:w'.ownsRow base 234 2 (C t) (S t).sen (zB F (S t).sen)):qC w' base v N (zju S t { S t with se:=F }) A B C:=by
 refine⟨c.own h.row (λg h1 h2=>zI h.row (h.se t d) (by decide) g h1 h2),λi a=>?_,λi a=>?_,λi a=>?_,h.far⟩
 ·have q:=c.own (h.st i a) (λg h1 h2=>zI (h.se t d) (h.st i a) (by decide) g h2 h1)
  by_cases e:i=t
  ·subst e;rw[ZU];exact q
  ·rw[zaa _ _ _ e];exact q
 ·have q:=c.own (h.ro i a) (λg h1 h2=>zI (h.se t d) (h.ro i a) (by decide) g h2 h1)
  by_cases e:i=t
  ·subst e;rw[ZU];exact q
  ·rw[zaa _ _ _ e];exact q
 ·by_cases e:i=t
  ·subst e;rw[ZU];exact f
  ·rw[zaa _ _ _ e];exact c.own (h.se i a) (λg h1 h2=>h.far.2.2 i t a d e g h1 h2)
theorem zmq (J:Option Addr)(N c base k0:Nat)(S:Nat->zY)(A B C:Nat->Value)(w:World)(hN:N<=1000)(h1:k0<=10000000000)(Z:ZA N S 1048576)(Y:qC w base (J,N,c) N S A B C) :
  Calls prog 63 #[(J,N,c),(k0:Int)] w λe w'=>e=.returned ((kL S k0 N:Nat):Int)/\qC w' base (J,N,c) N (mL S k0) A B C/\zx w w' (LdB N A B C):=by
 have U:=hI Z;have E:=hI Y;clear Z Y;go_enter func63,ntmps63;go_wp2;go_loopw [1,5] (λq i wr=>∃ (t k:Nat),t<=N/\i=int i64 t/\q=int i64 k/\k=kL S k0 t/\qC wr base (J,N,c) N (mixL S k0 t) A B C/\zx w wr (LdB N A B C)) (λ_ i _=>N - (intOf i).toNat)
 case atStart =>
  refine⟨0,k0,Jq _,rfl,rfl,rfl,?_,zx.refl _ _⟩;have e:mixL S k0 0=S:=by funext i;exact zjv (by omega)
  rw[e];exact E
 case round =>
  clear E;obtain⟨t,k,ht,rfl,rfl,F,o,R⟩:=hrel;have d:=hI F;have kb:k<=30000000000:=by have:=kL_le (k0:=k0) U t ht;omega
  clear F
  by_cases hlt:t<N
  ·have x:mixL S k0 t t=S t:=zjv (by omega)
   obtain⟨n1,n2,n3⟩:=U t hlt;obtain⟨g,rfl,a0,a4⟩:=qh o.row (by omega)
   have T:=o.st t hlt;have y:=o.ro t hlt;have z:=o.se t hlt;rw[x] at T y z;obtain⟨a1,d1,V,_⟩:=zp T;obtain⟨a2,d2,W,_⟩:=zp y;obtain⟨a3,d3,X,_⟩:=zp z;have cell:∀ {w'} {S'},qC w' base (.slice _ N c) N S' A B C->∀ j,j<3->w'.cell? ⟨g,t*3+j,_⟩=_:=λh j hj=>by rw[zs h.row _ (by omega) rfl,zC 3 _ t j hj]
   have n:=hI cell;have a:Hid (_/\_/\_):=⟨V,W,X⟩;have D:=hI o;have O:=hI R;have P:=hI x;clear cell T y z V W X o R x;have q0:wr.cell? ⟨g,t*3,_⟩=_:=(n D 0 (by decide)).trans (congrArg _ a.1)
   go_wp2_with fail;have m:=D.st t hlt;rw[P.out,a.out.1] at m;refine(markStayZ _ _ _ _ _ _ _ (by rw[d.out]) n1 (by have:=d.out;omega) m).mono ?_
   rintro e w1 ⟨rfl,G,s⟩;have f:=hI (D.markStay hlt (s.mono (λb e=>by rw[a.out.1];exact e)) (by rw[P.out,a.out.1];exact G))
   have K:Hid (zx wr w1 (LdB N A B C)):=s.mono (λb e=>⟨t,hlt,.inl (by rw[a.out.1];exact e)⟩)
   clear q0 m G s;rw[P.out] at f;have q1:=(n f 1 (by decide)).trans (congrArg _ a.2.1)
   go_wp2_with fail;have m:=f.ro t hlt;rw[ZU,a.out.2.1] at m;refine(markRoomZ _ _ _ _ (_+4*_) _ _ (by first|rfl|omega) n2 (by have:=d.out;omega) m).mono ?_
   rintro e w2 ⟨rfl,H,u⟩;have l:=hI (f.markRoom hlt (u.mono (λb e=>by rw[a.out.2.1];exact e)) (by rw[ZU,a.out.2.1];exact H))
   have L:Hid (zx w1 w2 (LdB N A B C)):=u.mono (λb e=>⟨t,hlt,.inr (.inl (by rw[a.out.2.1];exact e))⟩)
   clear q1 m H u;rw[ZU,zhp] at l;have q2:=(n l 2 (by decide)).trans (congrArg _ a.2.2)
   go_wp2_with fail;have m:=l.se t hlt;rw[ZU,a.out.2.2] at m;refine(markSeatZ _ _ _ _ (_+4*_+4*_) _ _ (by first|rfl|omega) n3 (by have:=d.out;omega) m).mono ?_
   rintro e w3 ⟨rfl,I,v⟩;have r:=hI (l.markSeat hlt (v.mono (λb e=>by rw[a.out.2.2];exact e)) (by rw[ZU,a.out.2.2];exact I))
   have M:Hid (zx w2 w3 (LdB N A B C)):=v.mono (λb e=>⟨t,hlt,.inr (.inr (by rw[a.out.2.2];exact e))⟩)
   clear q2 m I v;rw[ZU,zhp] at r;have Q:=hI (mixL_next S k0 t ▸ r);clear f l r n;go_wp2;go_roundw
   case rel =>
    refine⟨_,_,by omega,by go_num,?_,rfl,Q,O.trans (K.trans (L.trans M))⟩
    rfl
   case measure=>simp[intOf];omega
  ·obtain rfl:t=N:=by omega
   have D:=hI o;clear o;go_wp2;go_ret;refine⟨by rw[d.out];rfl,?_,R⟩
   have h:=D;refine⟨h.row,λi p=>?_,λi p=>?_,λi p=>?_,h.far⟩
   ·have:=h.st i p;rw[zfw p] at this;exact this
   ·have:=h.ro i p;rw[zfw p] at this;exact this
   ·have:=h.se i p;rw[zfw p] at this;exact this
theorem zmr (u:Option Addr)(N c k0:Nat)(S:Nat->zY)(w:World)(hN:N<=1000)(h1:k0<=10000000000)(B:ZA N S 1048576)(C:ZG w u N (mL S k0)) :
  Calls prog 67 #[(u,N,c),(k0:Int)] w λe w'=>e=.returned ((kL S k0 N:Nat):Int)/\w'=w:=by
 have o:=hI B;have D:=hI C;clear B C;go_enter func67,ntmps67;go_wp2;go_loopw [1,5] (λq i wr=>∃ (t k:Nat),t<=N/\i=int i64 t/\q=int i64 k/\k=kL S k0 t/\w=wr) (λ_ i _=>N - (intOf i).toNat)
 case atStart=>exact⟨0,k0,Jq _,rfl,rfl,rfl,rfl⟩
 case round =>
  obtain⟨t,k,F,rfl,rfl,h,G⟩:=hrel;subst G;have a:=hI h;have kb:k<=30000000000:=by have:=kL_le (k0:=k0) o t F;omega
  clear h
  by_cases hlt:t<N
  ·obtain⟨E,A,hI⟩:=D
   obtain⟨b,off,rfl,j⟩:=A t hlt;obtain⟨p,v,r,x,s,y,z,h1,_,h2,_,h3,_⟩:=hI t hlt;obtain⟨H,I,J⟩:=o t hlt;have d:=j 0 (by decide)
   have f:=j 1 (by decide)
   have g:=j 2 (by decide)
   rw[z] at d f g;have q0:w.cell? ⟨b,off+_,_⟩=some (p,(S t).stn,v):=d;have q1:w.cell? _=some (r,(S t).ron,x):=f;have q2:w.cell? _=some (s,(S t).sen,y):=g;have l:=hI h1;have m:=hI h2;have n:=hI h3;clear A hI j d f g z h1 h2 h3;have x0:decide (((kL S k0 t+4*(S t).stn:Nat):Int)<0)=false:=Jc (by omega)
   have x1:decide (((kL S k0 t+4*(S t).stn+4*(S t).ron:Nat):Int)<0)=false:=Jc (by omega)
   have x2:decide (((kL S k0 t+4*(S t).stn+4*(S t).ron+2*(S t).sen:Nat):Int)<0)=false:=Jc (by omega)
   have i1:(t:Int)<(N:Int):=by omega
   go_wp2_with (first
    | (go_at_call 134;refine sC (heldStayZ _ p _ v _ _ (by rw[a.out]) H (by have:=a.out;omega) l.out) ?_)
    | (go_at_call 135;refine sC (heldRoomZ _ r _ x _ _ (by first | rfl | omega) I (by have:=a.out;omega) m.out) ?_)
    | (go_at_call 136;refine sC (heldSeatZ _ s _ y _ _ (by first | rfl | omega) J (by have:=a.out;omega) n.out) ?_))
   go_roundw
   case rel =>
    refine⟨t+1,kL S k0 (t+1),by omega,by go_num,?_⟩
    first|exact⟨rfl,rfl,trivial⟩|exact⟨rfl,trivial⟩|exact⟨rfl,rfl,rfl⟩
   case measure=>simp[intOf];omega
  ·obtain rfl:t=N:=by omega
   go_wp2;go_ret;exact⟨by rw[a.out];rfl,by first|rfl|trivial⟩
end
end Go.Proofs.YtmdnjgihooflfaaGreatDoor
