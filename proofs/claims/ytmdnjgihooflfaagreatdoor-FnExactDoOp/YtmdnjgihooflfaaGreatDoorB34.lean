/-
  OWN TEXT: SpecRes, MarkPq, MarkX, MarkTx, MarkTz, MarkPP, MarkOz.
-/
import Derived.Deep.RegionHeld3
import Derived.Deep.LoopGhost
import Derived.Test.YtmdnjgihooflfaaGreatDoorKitCo
import Derived.Test.YtmdnjgihooflfaaGreatDoorRows
import Derived.Deep.DeepCutAuto
import Derived.Test.YtmdnjgihooflfaaGreatDoorB33
namespace Go.Proofs.YtmdnjgihooflfaaGreatDoor
open Go.RowKit
open Go.Value (int)
open Go.IntKind (i64)
open Tryz
set_option maxHeartbeats 64000000
set_option maxRecDepth 100000
theorem DopAns.res {x:Off}{d:Int}{y:OpD}{m base:Nat}{e:Ending}{w':World}(h:DopAns x d y m base e w'):∃ rb c a name price N T ok,Res x d y m c a name price N T ok/\zmO base rb c a name price N T ok e w':=by
 rcases h with⟨h1,h2,c,f,c1,g,c2,i,c3,a,name,price,rv,L,C,A,B,D,E,rfl,j,l,hr⟩|⟨h,rfl⟩
 ·rcases hr with⟨rfl,hr⟩|⟨M,b,r,s,hr⟩
  ·exact⟨0,c,_,_,_,0,zeM [],_,.inl ⟨⟨h1,h2⟩,rfl,l,.inl ⟨rfl,hr⟩⟩,f,c1,g,c2,i,c3,_,0,L,C,A,B,D,E,rfl,j,zbS w' 0 _ _⟩
  ·by_cases h9:y.kind=9
   ·obtain rfl:=s.nine h9
    obtain⟨k,rfl,_,n⟩:=hr.1 h9;obtain⟨o,p,rfl,_⟩:=zp n;exact⟨b,c,_,_,_,_,_,_,.inl ⟨⟨h1,h2⟩,rfl,l,.inr ⟨h9,r,rfl,rfl⟩⟩,f,c1,g,c2,i,c3,o,p,L,C,A,B,D,E,rfl,j,n⟩
   ·obtain rfl:=hr.2 h9
    exact⟨0,c,_,_,_,0,zeM [],_,.inl ⟨⟨h1,h2⟩,rfl,l,.inl ⟨rfl,λq=>absurd q h9⟩⟩,f,c1,g,c2,i,c3,_,0,L,C,A,B,D,E,rfl,j,zbS w' 0 _ _⟩
 ·exact⟨0,_,0,0,0,0,zeM [],_,.inr ⟨h,rfl,rfl,rfl,rfl,rfl,rfl⟩,zmO.no x _ 0 _ w'⟩
def zea (k:Nat)(p:zH):zH:=⟨p.n,λi=>(k+2*i:Nat),λi=>(k+2*i+1:Nat)⟩
theorem zih (k:Nat)(p:zH)(j:Nat):qn (zea k p) j=int i64 ((k+j:Nat):Int):=by
 unfold qn zea
 by_cases h:j % 2=0
 ·rw[Jf h];show Value.int _ ((_:Nat):Int)=_;rw[show k+2*(j / 2)=k+j by omega]
 ·rw[Je h];show Value.int _ ((_:Nat):Int)=_;rw[show k+2*(j / 2)+1=k+j by omega]
theorem markLaneP (m:Option Addr)(c base k0:Nat)(p:zH)(w:World)(F:p.n<=1048576)(h1:k0<=100000000000000)(y:w.ownsRow base 223 2 (m,p.n,c) p.n (qd p)) :
  Calls prog 127 #[(m,p.n,c),(k0:Int)] w λe w'=>e=.returned ((k0+2*p.n:Nat):Int)/\w'.ownsRow base 223 2 (m,p.n,c) p.n (qd (zea k0 p))/\zx w w' (λb=>(Value.slice m p.n c).ownBlock=some b):=by
 obtain⟨n,l⟩:∃ n,n=p.n:=⟨_,rfl⟩;rw[← l] at F y ⊢;have o:=hI l;clear l;go_enter func127,ntmps127;go_wp2;go_loopw [1,5] (λq i wr=>∃ (t k:Nat),t<=n/\i=int i64 t/\q=int i64 k/\k=k0+2*t/\wr.ownsRow base 223 2 (m,n,c) n ((List.range (n*2)).map (λj=>if j<t*2 then int i64 ((k0+j:Nat):Int) else qn p j))/\zx w wr (λb=>(Value.slice m n c).ownBlock=some b)) (λ_ i _=>n - (intOf i).toNat)
 case atStart =>
  refine⟨0,k0,Jq _,rfl,rfl,by omega,?_,zx.refl _ _⟩
  have:(List.range (n*2)).map (λj=>if j<0*2 then int i64 ((k0+j:Nat):Int) else qn p j)=qd p:=by
   unfold qd;rw[← o.out];exact List.map_congr_left (λj _=>Je (by omega))
  rw[this];exact y
 case round =>
  clear y;obtain⟨t,k,ht,rfl,rfl,r,d,x⟩:=hrel;have f:=hI r;have kb:k<=200000000000000:=by omega
  clear r
  by_cases hlt:t<n
  ·obtain⟨g,rfl,_,_⟩:=qh d (by omega)
   obtain⟨v0,B⟩:∃ v,_=some v:=⟨_,zs d (t*2) (by omega) rfl⟩
   obtain⟨v1,C⟩:∃ v,_=some v:=⟨_,zs d (t*2+1) (by omega) rfl⟩
   have D:=d.frozenAt (t*2);have E:=d.frozenAt (t*2+1);have h:Hid _:=d;have s:=hI x;clear d x;go_wp2;go_roundw
   case rel =>
    refine⟨t+1,k+2,by omega,by go_num,by go_num,by have:=f.out;omega,qR (zL (zL h.out _ _) _ _) (λj A=>?_),(s.out.set (a:=⟨g,t*2,_⟩) rfl _).set (a:=⟨g,_+1,_⟩) rfl _⟩
    have z:=f
    by_cases h1:j=t*2+1
    ·rw[Jf h1,Jf (by omega)];congr 1;subst h1;subst z;omega
    ·rw[Je h1]
     by_cases h0:j=t*2
     ·rw[Jf h0,Jf (by omega)];congr 1;subst h0;subst z;omega
     ·rw[Je h0]
      by_cases h2:j<t*2
      ·rw[Jf h2,Jf (by omega)]
      ·rw[Je h2,Je (by omega)]
   case measure=>simp[intOf];omega
  ·obtain rfl:t=n:=by omega
   have h:Hid _:=d;clear d;go_wp2;go_ret;refine⟨by rw[f.out];rfl,?_,x⟩
   have:qd (zea k0 p)=(List.range (t*2)).map (λj=>if j<t*2 then int i64 ((k0+j:Nat):Int) else qn p j):=by
    unfold qd;rw[show(zea k0 p).n=t from o.out.symm];refine List.map_congr_left (λj A=>?_)
    have u:=by simpa using A
    rw[Jf u,zih]
   rw[this];exact h
theorem heldLaneP (g:Option Addr)(c k0:Nat)(p:zH)(w:World)(o:p.n<=1048576)(h1:k0<=100000000000000)(h:zG w g (zea k0 p)) :
  Calls prog 132 #[(g,p.n,c),(k0:Int)] w λe w'=>e=.returned ((k0+2*p.n:Nat):Int)/\w'=w:=by
 obtain⟨n,f⟩:∃ n,n=p.n:=⟨_,rfl⟩;have l:Hid (∀ j,j<n->∃ b off,g=some ⟨b,off,none⟩/\w.cell? ⟨b,off+j*2,none⟩=some (int i64 ((k0+2*j:Nat):Int))/\w.cell? ⟨b,off+j*2+1,none⟩=some (int i64 ((k0+2*j+1:Nat):Int))):=by rw[f];exact h
 rw[← f] at o ⊢;clear f h;go_enter func132,ntmps132;go_wp2;go_loopw [1,5] (λq i wr=>∃ (t k:Nat),t<=n/\i=int i64 t/\q=int i64 k/\k=k0+2*t/\wr=w) (λ_ i _=>n - (intOf i).toNat)
 case atStart=>exact⟨0,k0,Jq _,rfl,rfl,by omega,rfl⟩
 case round =>
  obtain⟨t,k,ht,rfl,rfl,a,rfl⟩:=hrel;have kb:k<=200000000000000:=by omega
  by_cases hlt:t<n
  ·obtain⟨b,off,rfl,m,c1⟩:=l t hlt
   rw[← a] at m c1;have d:=hI a;have c1:wr.cell? (b,off+t*2+1)=some (int i64 ((k:Int)+1)):=by rw[c1];rfl
   have i1:(0:Int)<=(t:Int):=by omega
   have i2:(t:Int)<(n:Int):=by omega
   clear a;go_wp2;go_roundw
   case rel=>exact⟨t+1,k+2,by omega,by go_num,by go_num,by have:=d.out;omega,trivial⟩
   case measure=>simp[intOf];omega
  ·obtain rfl:t=n:=by omega
   have d:=hI a;clear a;go_wp2;go_ret;exact⟨by rw[d.out];rfl,rfl⟩
theorem zob (m:Option Addr)(c base k0:Nat)(p:zH)(w:World)(F:p.n<=1048576)(h1:k0<=100000000000000)(y:w.ownsRow base 231 2 (m,p.n,c) p.n (qd p)) :
  Calls prog 128 #[(m,p.n,c),(k0:Int)] w λe w'=>e=.returned ((k0+2*p.n:Nat):Int)/\w'.ownsRow base 231 2 (m,p.n,c) p.n (qd (zea k0 p))/\zx w w' (λb=>(Value.slice m p.n c).ownBlock=some b):=by
 obtain⟨n,l⟩:∃ n,n=p.n:=⟨_,rfl⟩;rw[← l] at F y ⊢;have o:=hI l;clear l;go_enter func128,ntmps128;go_wp2;go_loopw [1,5] (λq i wr=>∃ (t k:Nat),t<=n/\i=int i64 t/\q=int i64 k/\k=k0+2*t/\wr.ownsRow base 231 2 (m,n,c) n ((List.range (n*2)).map (λj=>if j<t*2 then int i64 ((k0+j:Nat):Int) else qn p j))/\zx w wr (λb=>(Value.slice m n c).ownBlock=some b)) (λ_ i _=>n - (intOf i).toNat)
 case atStart =>
  refine⟨0,k0,Jq _,rfl,rfl,by omega,?_,zx.refl _ _⟩
  have:(List.range (n*2)).map (λj=>if j<0*2 then int i64 ((k0+j:Nat):Int) else qn p j)=qd p:=by
   unfold qd;rw[← o.out];exact List.map_congr_left (λj _=>Je (by omega))
  rw[this];exact y
 case round =>
  clear y;obtain⟨t,k,ht,rfl,rfl,r,d,x⟩:=hrel;have f:=hI r;have kb:k<=200000000000000:=by omega
  clear r
  by_cases hlt:t<n
  ·obtain⟨g,rfl,_,_⟩:=qh d (by omega)
   obtain⟨v0,B⟩:∃ v,_=some v:=⟨_,zs d (t*2) (by omega) rfl⟩
   obtain⟨v1,C⟩:∃ v,_=some v:=⟨_,zs d (t*2+1) (by omega) rfl⟩
   have D:=d.frozenAt (t*2);have E:=d.frozenAt (t*2+1);have h:Hid _:=d;have s:=hI x;clear d x;go_wp2;go_roundw
   case rel =>
    refine⟨t+1,k+2,by omega,by go_num,by go_num,by have:=f.out;omega,qR (zL (zL h.out _ _) _ _) (λj A=>?_),(s.out.set (a:=⟨g,t*2,_⟩) rfl _).set (a:=⟨g,_+1,_⟩) rfl _⟩
    have z:=f
    by_cases h1:j=t*2+1
    ·rw[Jf h1,Jf (by omega)];congr 1;subst h1;subst z;omega
    ·rw[Je h1]
     by_cases h0:j=t*2
     ·rw[Jf h0,Jf (by omega)];congr 1;subst h0;subst z;omega
     ·rw[Je h0]
      by_cases h2:j<t*2
      ·rw[Jf h2,Jf (by omega)]
      ·rw[Je h2,Je (by omega)]
   case measure=>simp[intOf];omega
  ·obtain rfl:t=n:=by omega
   have h:Hid _:=d;clear d;go_wp2;go_ret;refine⟨by rw[f.out];rfl,?_,x⟩
   have:qd (zea k0 p)=(List.range (t*2)).map (λj=>if j<t*2 then int i64 ((k0+j:Nat):Int) else qn p j):=by
    unfold qd;rw[show(zea k0 p).n=t from o.out.symm];refine List.map_congr_left (λj A=>?_)
    have u:=by simpa using A
    rw[Jf u,zih]
   rw[this];exact h
theorem zoc (g:Option Addr)(c k0:Nat)(p:zH)(w:World)(o:p.n<=1048576)(h1:k0<=100000000000000)(h:zG w g (zea k0 p)) :
  Calls prog 133 #[(g,p.n,c),(k0:Int)] w λe w'=>e=.returned ((k0+2*p.n:Nat):Int)/\w'=w:=by
 obtain⟨n,f⟩:∃ n,n=p.n:=⟨_,rfl⟩;have l:Hid (∀ j,j<n->∃ b off,g=some ⟨b,off,none⟩/\w.cell? ⟨b,off+j*2,none⟩=some (int i64 ((k0+2*j:Nat):Int))/\w.cell? ⟨b,off+j*2+1,none⟩=some (int i64 ((k0+2*j+1:Nat):Int))):=by rw[f];exact h
 rw[← f] at o ⊢;clear f h;go_enter func133,ntmps133;go_wp2;go_loopw [1,5] (λq i wr=>∃ (t k:Nat),t<=n/\i=int i64 t/\q=int i64 k/\k=k0+2*t/\wr=w) (λ_ i _=>n - (intOf i).toNat)
 case atStart=>exact⟨0,k0,Jq _,rfl,rfl,by omega,rfl⟩
 case round =>
  obtain⟨t,k,ht,rfl,rfl,a,rfl⟩:=hrel;have kb:k<=200000000000000:=by omega
  by_cases hlt:t<n
  ·obtain⟨b,off,rfl,m,c1⟩:=l t hlt
   rw[← a] at m c1;have d:=hI a;have c1:wr.cell? (b,off+t*2+1)=some (int i64 ((k:Int)+1)):=by rw[c1];rfl
   have i1:(0:Int)<=(t:Int):=by omega
   have i2:(t:Int)<(n:Int):=by omega
   clear a;go_wp2;go_roundw
   case rel=>exact⟨t+1,k+2,by omega,by go_num,by go_num,by have:=d.out;omega,trivial⟩
   case measure=>simp[intOf];omega
  ·obtain rfl:t=n:=by omega
   have d:=hI a;clear a;go_wp2;go_ret;exact⟨by rw[d.out];rfl,rfl⟩
theorem zlb (k:Nat)(w:World)(hk:k<=1000000000000000) :
  Calls prog 71 #[int i64 k] w λe w'=>(∃ s,e=.returned (.string s))/\Below w.heap.size w w':=by
 by_cases h0:k=0
 ·subst h0
  go_enter func71,ntmps71;go_wp2;go_ret;exact⟨⟨_,rfl⟩,bZ⟩
 ·have d0:decide ((k:Int)<=0)=false:=Jc (by omega)
  go_enter func71,ntmps71;go_wp2;go_loopw [0,3] (λf g wr=>∃ (q:Nat) (s:ByteArray),f=int i64 q/\g=.string s/\s.size+q<=1000000000000000/\Below w.heap.size w wr) (λf _ _=>(intOf f).toNat)
  case atStart=>exact⟨k,_,rfl,rfl,by show 0+k<=_;omega,bZ⟩
  case round =>
   obtain⟨q,s,rfl,rfl,hs,a⟩:=hrel
   by_cases hq:q=0
   ·subst hq
    have b:=run_string_add_sum (P:=prog) (w:=wr) ⟨#[109]⟩ s (by show 1+s.size<=_;omega)
    go_wp2;go_ret;exact⟨⟨_,rfl⟩,a⟩
   ·have dq:decide ((0:Int)<(q:Int))=true:=Jd (by omega)
    have c:(convert 209 9 (some (wr.heap.size,0),1,1)).run prog (wr.alloc (.cells #[.int .u8 (48+(q:Int) % 10)] 5))=.ok (.string (ByteArray.empty.push (UInt8.ofNat (48+(q:Int) % 10).toNat))) (wr.alloc (.cells #[.int .u8 (48+(q:Int) % 10)] 5)):=by
     rw[run_convert_bytes_string _ 209 9 5 _ 1 1 underlying209 underlying5 underlying9];exact run_bytesToString _ _ 1 1 [_] (run_loadCells_list _ _ [_] (λj v d=>by
      cases j with
      | zero=>simp at d;subst d;simp[Addr.add,World.cell?_alloc_mark]
      | succ j=>simp at d))
    have b:=run_string_add_sum (P:=prog) (w:=wr.alloc (.cells #[.int .u8 (48+(q:Int) % 10)] 5)) (ByteArray.empty.push (UInt8.ofNat (48+(q:Int) % 10).toNat)) s (by show 1+s.size<=_;omega)
    go_wp2;refine⟨⟨q / 10,_,by simp,rfl,?_,zk a _⟩,?_⟩
    ·have e:(ByteArray.empty.push (48+UInt8.ofNat (q % 10))++s).size=1+s.size:=by
      rw[ByteArray.size_append];rfl
     rw[e];omega
    ·simp only[intOf];omega
theorem zdD (k:Int)(w:World)(a:0<=k)(hk:k<=1000000000000000) :
  Calls prog 71 #[int i64 k] w λe w'=>(∃ s,e=.returned (.string s))/\Below w.heap.size w w':=by
 obtain⟨q,rfl⟩:=Int.eq_ofNat_of_zero_le a;exact zlb q w (by omega)
def zcc (q:Nat)(s:ByteArray):ByteArray :=
 if _h:q=0 then ⟨#[109]⟩++s else zcc (q / 10) (ByteArray.empty.push (48+UInt8.ofNat (q % 10))++s)
termination_by q
decreasing_by omega
theorem markFin_0 (s:ByteArray):zcc 0 s=⟨#[109]⟩++s:=by rw[zcc];simp
theorem markFin_s {q:Nat}(h:q≠0)(s:ByteArray):zcc q s=zcc (q / 10) (ByteArray.empty.push (48+UInt8.ofNat (q % 10))++s):=by rw[zcc];simp[h]
def zbl (k:Nat):ByteArray:=if k=0 then ⟨#[109,48]⟩ else zcc k ⟨#[]⟩
theorem zho (k:Nat)(w:World)(hk:k<=1000000000000000) :
  Calls prog 71 #[int i64 k] w λe w'=>e=.returned (.string (zbl k))/\Below w.heap.size w w':=by
 by_cases h0:k=0
 ·subst h0
  go_enter func71,ntmps71;go_wp2;go_ret;exact⟨rfl,bZ⟩
 ·have d0:decide ((k:Int)<=0)=false:=Jc (by omega)
  have h:Hid (zbl k=zcc k ⟨#[]⟩):=by show _=_;unfold zbl;rw[Je h0]
  go_enter func71,ntmps71;go_wp2;go_loopw [0,3] (λg i wr=>∃ (q:Nat) (s:ByteArray),g=int i64 q/\i=.string s/\s.size+q<=1000000000000000/\Hid (zcc q s=zbl k)/\Below w.heap.size w wr) (λg _ _=>(intOf g).toNat)
  case atStart=>exact⟨k,_,rfl,rfl,by show 0+k<=_;omega,h.symm,bZ⟩
  case round =>
   obtain⟨q,s,rfl,rfl,hs,b,a⟩:=hrel
   by_cases hq:q=0
   ·subst hq
    have c:=run_string_add_sum (P:=prog) (w:=wr) ⟨#[109]⟩ s (by show 1+s.size<=_;omega)
    go_wp2;go_ret;refine⟨?_,a⟩;rw[← b.out,markFin_0]
    rfl
   ·have dq:decide ((0:Int)<(q:Int))=true:=Jd (by omega)
    have d:(convert 209 9 (some (wr.heap.size,0),1,1)).run prog (wr.alloc (.cells #[.int .u8 (48+(q:Int) % 10)] 5))=.ok (.string (ByteArray.empty.push (UInt8.ofNat (48+(q:Int) % 10).toNat))) (wr.alloc (.cells #[.int .u8 (48+(q:Int) % 10)] 5)):=by
     rw[run_convert_bytes_string _ 209 9 5 _ 1 1 underlying209 underlying5 underlying9];exact run_bytesToString _ _ 1 1 [_] (run_loadCells_list _ _ [_] (λj v f=>by
      cases j with
      | zero=>simp at f;subst f;simp[Addr.add,World.cell?_alloc_mark]
      | succ j=>simp at f))
    have c:=run_string_add_sum (P:=prog) (w:=wr.alloc (.cells #[.int .u8 (48+(q:Int) % 10)] 5)) (ByteArray.empty.push (UInt8.ofNat (48+(q:Int) % 10).toNat)) s (by show 1+s.size<=_;omega)
    go_wp2;refine⟨⟨q / 10,_,by simp,rfl,?_,?_,zk a _⟩,?_⟩
    ·have e:(ByteArray.empty.push (48+UInt8.ofNat (q % 10))++s).size=1+s.size:=by
      rw[ByteArray.size_append];rfl
     rw[e];omega
    ·show _=_
     rw[← b.out,markFin_s hq]
    ·simp only[intOf];omega
theorem zau (z:Int)(w:World)(a:0<=z)(hk:z<=1000000000000000) :
  Calls prog 71 #[int i64 z] w λe w'=>e=.returned (.string (zbl z.toNat))/\Below w.heap.size w w':=by
 obtain⟨q,rfl⟩:=Int.eq_ofNat_of_zero_le a;exact zho q w (by omega)
section
open Go.RowKit
end
def kS (S:Nat->Zj)(k0:Nat):Nat->Nat
 | 0=>k0
 | i+1=>kS S k0 i+(6+2*(S i).la.n+2*(S i).ca.n)
def mS (S:Nat->Zj)(k0:Nat)(i:Nat):Zj :=
 ⟨(kS S k0 i:Nat),zbl (kS S k0 i+1),zbl (kS S k0 i+2),(kS S k0 i+3:Nat),(kS S k0 i+4:Nat),zea (kS S k0 i+5) (S i).la,zea (kS S k0 i+5+2*(S i).la.n) (S i).ca,(kS S k0 i+5+2*(S i).la.n+2*(S i).ca.n:Nat)⟩
def mix (S:Nat->Zj)(k0 t:Nat)(i:Nat):Zj:=if i<t then mS S k0 i else S i
theorem zbe {S:Nat->Zj}{k0 t i:Nat}(h:i<t):mix S k0 t i=mS S k0 i:=Jf h
theorem zfL {S:Nat->Zj}{k0 t i:Nat}(h:¬ i<t):mix S k0 t i=S i:=Je h
theorem kS_le {S:Nat->Zj}{k0 N:Nat}(h:∀ i,i<N->(S i).la.n<=1048576/\(S i).ca.n<=1048576):∀ i,i<=N->kS S k0 i<=k0+i*4194310
 | 0,_=>by unfold kS;omega
 | i+1,hi=>by
  have:=kS_le (k0:=k0) h i (by omega)
  have:=h i (by omega)
  unfold kS
  omega
def SaB (v:Value)(N:Nat)(L C:Nat->Value)(b:Nat):Prop:=v.ownBlock=some b∨∃ i,i<N/\((L i).ownBlock=some b∨(C i).ownBlock=some b)
theorem markLaneZ (z:Int)(a:Option Addr)(c base k0:Nat)(p:zH)(w:World)(g:z=(k0:Int))(d:p.n<=1048576)(h1:k0<=100000000000000)(f:w.ownsRow base 223 2 (a,p.n,c) p.n (qd p)) :
  Calls prog 127 #[(a,p.n,c),z] w λe w'=>e=.returned ((k0+2*p.n:Nat):Int)/\w'.ownsRow base 223 2 (a,p.n,c) p.n (qd (zea k0 p))/\zx w w' (λb=>(Value.slice a p.n c).ownBlock=some b):=by
 subst g;exact markLaneP a c _ k0 p w d h1 f
theorem zod (z:Int)(a:Option Addr)(c base k0:Nat)(p:zH)(w:World)(g:z=(k0:Int))(d:p.n<=1048576)(h1:k0<=100000000000000)(f:w.ownsRow base 231 2 (a,p.n,c) p.n (qd p)) :
  Calls prog 128 #[(a,p.n,c),z] w λe w'=>e=.returned ((k0+2*p.n:Nat):Int)/\w'.ownsRow base 231 2 (a,p.n,c) p.n (qd (zea k0 p))/\zx w w' (λb=>(Value.slice a p.n c).ownBlock=some b):=by
 subst g;exact zob a c _ k0 p w d h1 f
theorem heldLaneZ (z:Int)(a:Option Addr)(c k0:Nat)(p:zH)(w:World)(d:z=(k0:Int))(b:p.n<=1048576)(h1:k0<=100000000000000)(h:zG w a (zea k0 p)) :
  Calls prog 132 #[(a,p.n,c),z] w λe w'=>e=.returned ((k0+2*p.n:Nat):Int)/\w'=w:=by
 subst d;exact heldLaneP a c k0 p w b h1 h
theorem zoe (z:Int)(a:Option Addr)(c k0:Nat)(p:zH)(w:World)(d:z=(k0:Int))(b:p.n<=1048576)(h1:k0<=100000000000000)(h:zG w a (zea k0 p)) :
  Calls prog 133 #[(a,p.n,c),z] w λe w'=>e=.returned ((k0+2*p.n:Nat):Int)/\w'=w:=by
 subst d;exact zoc a c k0 p w b h1 h
theorem zjp (U:Option Addr)(N c base k0:Nat)(S:Nat->Zj)(L C:Nat->Value)(w:World)(hN:N<=1048576)(h1:k0<=1048576)(hs:∀ i,i<N->(S i).la.n<=1048576/\(S i).ca.n<=1048576)(ho:qM w base (U,N,c) N S L C) :
  Calls prog 62 #[(U,N,c),(k0:Int)] w λe w'=>e=.returned ((kS S k0 N:Nat):Int)/\qM w' base (U,N,c) N (mS S k0) L C/\zx w w' (SaB (U,N,c) N L C):=by
 have HS:=hI hs;have Y:=hI ho;clear hs ho;go_enter func62,ntmps62;go_wp2;go_loopw [1,5] (λq i wr=>∃ (t k:Nat),t<=N/\i=int i64 t/\q=int i64 k/\k=kS S k0 t/\qM wr base (U,N,c) N (mix S k0 t) L C/\zx w wr (SaB (U,N,c) N L C)) (λ_ i _=>N - (intOf i).toNat)
 case atStart =>
  refine⟨0,k0,Jq _,rfl,rfl,rfl,?_,zx.refl _ _⟩;have e:mix S k0 0=S:=by funext i;exact zfL (by omega)
  rw[e];exact Y
 case round =>
  clear Y;obtain⟨t,k,ht,rfl,rfl,a9,u,hk⟩:=hrel;have n:=hI a9;have kb:k<=10000000000000:=by have:=kS_le (k0:=k0) HS t ht;omega
  clear a9
  by_cases hlt:t<N
  ·have b1:mix S k0 t t=S t:=zfL (by omega)
   have z:=u.la t hlt;have x:=u.ca t hlt;rw[b1] at z x;obtain⟨al,cl,eL,_⟩:=zp z;obtain⟨ac,cc,eC,_⟩:=zp x;obtain⟨g,rfl,b4,b5⟩:=qh u.row (by omega)
   have c5:=zs u.row (t*8+5) (by omega) rfl
   have c6:=zs u.row (t*8+6) (by omega) rfl
   rw[Q2,eL] at c5;rw[Q4,eC] at c6;rw[eL] at z;rw[eC] at x;obtain⟨u0,q0⟩:∃ v,_=some v:=⟨_,zs u.row (t*8) (by omega) rfl⟩
   have f0:=u.row.frozenAt (t*8);have o:=hI u;have l:Hid (_/\_):=⟨eL,eC⟩;have X:=hI z;have D:=hI x;have b3:=hI hk;have b2:=HS t hlt;clear u z x eL eC hk b1;go_wp2_with fail;refine(zau _ _ (by omega) (by omega)).mono ?_
   rintro e w2 ⟨rfl,Q⟩;have M:Hid _:=zo Q (zL o.row _ _);have a7:=((zx.refl wr (λb=>b=g)).set rfl _).trans (zx.of_below Q)
   have A:((k:Int)+1).toNat=kS S k0 t+1:=by have:=n.out;omega
   rw[A];clear A q0 f0 c5 c6 Q;obtain⟨u1,q1⟩:∃ v,_=some v:=⟨_,zs M (t*8+1) (by omega) rfl⟩
   have f1:=Jn M (t*8+1);go_wp2_with fail;refine(zau _ _ (by omega) (by omega)).mono ?_
   rintro e w3 ⟨rfl,R⟩;have m:Hid _:=zo R (zL M _ _);have a8:=(a7.set rfl _).trans (zx.of_below R);have A:((k:Int)+1+1).toNat=kS S k0 t+2:=by have:=n.out;omega
   rw[A];clear A q1 f1 R a7;obtain⟨u2,q2⟩:∃ v,_=some v:=⟨_,zs m (t*8+2) (by omega) rfl⟩
   obtain⟨u3,q3⟩:∃ v,_=some v:=⟨_,zs m (t*8+3) (by omega) rfl⟩
   obtain⟨u4,q4⟩:∃ v,_=some v:=⟨_,zs m (t*8+4) (by omega) rfl⟩
   have q5:w3.cell? (g,t*8+5)=some (al,(S t).la.n,cl):=by
    rw[zs m.out _ (by omega) rfl,Je (by omega),Je (by omega),Q2,l.out.1]
   have f2:=Jn m (t*8+2);have f3:=Jn m (t*8+3);have f4:=Jn m (t*8+4);go_wp2_with fail;have O:Hid _:=zL (zL (zL m (t*8+2) (.string (zbl (kS S k0 t+2)))) (t*8+3) (int i64 ((k:Int)+1+1+1))) (t*8+4) (int i64 ((k:Int)+1+1+1+1));have s:zx wr (((w3.setCell _ (.string (zbl (kS S k0 t+2)))).setCell _ (int i64 ((k:Int)+1+1+1))).setCell _ (int i64 ((k:Int)+1+1+1+1))) _:=((a8.set (a:=(g,t*8+2)) rfl _).set (a:=(g,t*8+3)) rfl _).set (a:=(g,t*8+4)) rfl _;clear q2 q3 q4 q5 f2 f3 f4 a8;generalize ((w3.setCell _ _).setCell _ _).setCell _ _=W4 at O s ⊢;have d:∀ b,(Value.slice (some (g,0)) N c).ownBlock=some b↔_:=λb=>by simp[Value.ownBlock];exact eq_comm
   have F:=hI (s.own X (λb f e=>zI o.row X (by decide) b ((d b).2 e) f))
   refine(markLaneZ _ al cl _ (kS S k0 t+5) _ _ (by have:=n.out;omega) b2.1 (by have:=n.out;omega) F.out).mono ?_
   rintro e w5 ⟨rfl,b0,G⟩;have P:Hid _:=G.own O (λb f e=>zI O F (by decide) b f e)
   have q6:w5.cell? (g,t*8+6)=some (ac,(S t).ca.n,cc):=by
    rw[zs P.out _ (by omega) rfl,Je (by omega),Je (by omega),Je (by omega),Je (by omega),Je (by omega),Q4,l.out.2]
   have B:=hI (G.own (s.own D (λb f e=>zI o.row D (by decide) b ((d b).2 e) f)) (λb f e=>zI F (s.own D (λb f e=>zI o.row D (by decide) b ((d b).2 e) f)) (by decide) b e f))
   have W:=hI b0;have J:=hI G;clear b0 G;go_wp2_with fail;refine(zod _ ac cc _ (kS S k0 t+5+2*(S t).la.n) _ _ (by omega) b2.2 (by have:=n.out;omega) B.out).mono ?_
   rintro e w6 ⟨rfl,a3,T⟩;have p:Hid _:=T.own P (λb f e=>zI P B (by decide) b f e)
   obtain⟨u7,q7⟩:∃ v,_=some v:=⟨_,zs p (t*8+7) (by omega) rfl⟩
   have f7:=Jn p (t*8+7);have V:=hI a3;have E:=hI T;have K:=hI s;clear a3 T q6 s;go_wp2;go_roundw
   case rel =>
    have e0:=n.out;have y:zx w6 (w6.setCell _ (int i64 ((kS S k0 t+5+2*(S t).la.n+2*(S t).ca.n:Nat):Int))) _:=(zx.refl w6 (λb=>b=g)).set (a:=⟨g,t*8+7,none⟩) rfl _
    have a2:∀ i,_->_->∀ b,_->_≠_:=λi r H b h1 h2=>by
     rcases Nat.lt_or_gt_of_ne H with h|h
     ·exact(o.out.apart i t h hlt).1 b h1 h2
     ·exact(o.out.apart t i h r).1 b h2 h1
    have a0:∀ i,_->_->∀ b,_->_≠_:=λi r H b h1 h2=>by
     rcases Nat.lt_or_gt_of_ne H with h|h
     ·exact(o.out.apart i t h hlt).2 b h1 h2
     ·exact(o.out.apart t i h r).2 b h2 h1
    rw[l.out.1] at a2;rw[l.out.2] at a0;refine⟨_,kS S k0 (t+1),by omega,by go_num,?_,rfl,⟨qR (zL p.out _ _) (λj hj=>?_),λi r=>?_,λi r=>?_,o.out.apart⟩,?_⟩
    ·congr 1
     show _=((_+_:Nat):Int)
     (try unfold wrap64);omega
    ·by_cases h7:j=t*8+7
     ·subst h7;rw[Jf rfl,zci,zbe (by omega)];rfl
     rw[Je h7]
     by_cases h4:j=t*8+4
     ·subst h4;rw[Jf rfl,zch,zbe (by omega)];show _=Value.int _ ((_:Nat):Int);congr 1;omega
     rw[Je h4]
     by_cases h3:j=t*8+3
     ·subst h3;rw[Jf rfl,zcg,zbe (by omega)];show _=Value.int _ ((_:Nat):Int);congr 1;omega
     rw[Je h3]
     by_cases h2:j=t*8+2
     ·subst h2;rw[Jf rfl,zcf,zbe (by omega)];rfl
     rw[Je h2]
     by_cases h1:j=t*8+1
     ·subst h1;rw[Jf rfl,zce,zbe (by omega)];rfl
     rw[Je h1]
     by_cases h0:j=t*8
     ·subst h0;rw[Jf rfl,zcd,zbe (by omega)];show _=Value.int _ ((_:Nat):Int);rw[e0]
     rw[Je h0]
     by_cases h5:j=t*8+5
     ·subst h5;rw[Q2,Q2]
     by_cases h6:j=t*8+6
     ·subst h6;rw[Q4,Q4]
     have H:j / 8≠t:=by omega
     have em:mix S k0 (t+1) (j / 8)=mix S k0 t (j / 8):=by
      by_cases h:j / 8<t
      ·rw[zbe h,zbe (by omega)]
      ·rw[zfL h,zfL (by omega)]
     unfold qz;rw[em]
    ·by_cases e:i=t
     ·subst e
      rw[zbe (by omega),l.out.1]
      have I:=E.own W (λb f e=>zI W B (by decide) b f e)
      exact y.own I (λb f e=>zI p I (by decide) b ((d b).2 e) f)
     ·have em:mix S k0 (t+1) i=mix S k0 t i:=by
       by_cases h:i<t
       ·rw[zbe h,zbe (by omega)]
       ·rw[zfL h,zfL (by omega)]
      rw[em];have Z:=o.la i r;have a4:=K.own Z (λb f e=>zI o.row Z (by decide) b ((d b).2 e) f)
      have a5:=J.own a4 (λb f e=>a2 i r ‹_› b f e)
      have I:=E.own a5 (λb f e=>zI a5 B (by decide) b f e)
      exact y.own I (λb f e=>zI p I (by decide) b ((d b).2 e) f)
    ·by_cases e:i=t
     ·subst e
      rw[zbe (by omega),l.out.2]
      exact y.own V (λb f e=>zI p V (by decide) b ((d b).2 e) f)
     ·have em:mix S k0 (t+1) i=mix S k0 t i:=by
       by_cases h:i<t
       ·rw[zbe h,zbe (by omega)]
       ·rw[zfL h,zfL (by omega)]
      rw[em];have Z:=o.ca i r;have a4:=K.own Z (λb f e=>zI o.row Z (by decide) b ((d b).2 e) f)
      have a5:=J.own a4 (λb f e=>zI F a4 (by decide) b e f)
      have I:=E.own a5 (λb f e=>a0 i r ‹_› b f e)
      exact y.own I (λb f e=>zI p I (by decide) b ((d b).2 e) f)
    ·exact b3.trans ((K.mono (λb e=>.inl ((d b).2 e))).trans ((J.mono (λb e=>.inr ⟨t,hlt,.inl (by rw[l.out.1];exact e)⟩)).trans ((E.mono (λb e=>.inr ⟨t,hlt,.inr (by rw[l.out.2];exact e)⟩)).trans (y.mono (λb e=>.inl ((d b).2 e))))))
   case measure=>simp[intOf];omega
  ·obtain rfl:t=N:=by omega
   have o:=hI u;clear u;go_wp2;go_ret;refine⟨by rw[n.out];rfl,?_,hk⟩
   have h:=o;refine⟨qR h.row (λj hj=>?_),λi r=>?_,λi r=>?_,h.apart⟩
   ·unfold qz;rw[zbe (show j / 8<t by omega)]
   ·have:=h.la i r;rw[zbe r] at this;exact this
   ·have:=h.ca i r;rw[zbe r] at this;exact this
theorem zjq (L:Option Addr)(N c k0:Nat)(S:Nat->Zj)(w:World)(hN:N<=1048576)(h1:k0<=1048576)(U:∀ i,i<N->(S i).la.n<=1048576/\(S i).ca.n<=1048576)(V:qB w L N (mS S k0)) :
  Calls prog 66 #[(L,N,c),(k0:Int)] w λe w'=>e=.returned ((kS S k0 N:Nat):Int)/\Below w.heap.size w w':=by
 have J:=hI U;have Z:=hI V;clear U V;go_enter func66,ntmps66;go_wp2;go_loopw [1,5] (λq i wr=>∃ (t k:Nat),t<=N/\i=int i64 t/\q=int i64 k/\k=kS S k0 t/\Below w.heap.size w wr) (λ_ i _=>N - (intOf i).toNat)
 case atStart=>exact⟨0,k0,Jq _,rfl,rfl,rfl,bZ⟩
 case round =>
  obtain⟨t,k,ht,rfl,rfl,u,d⟩:=hrel;have a:=hI u;have kb:k<=10000000000000:=by have:=kS_le (k0:=k0) J t ht;omega
  clear u
  by_cases hlt:t<N
  ·obtain⟨b,off,al,cl,K,M,rfl,O,h1,h2,h3,P,Q,R,T,h8,h9,_,_⟩:=Z t hlt
   have z:=J t hlt;have g:=Ja w _ h1;have i1:(0:Int)<=(t:Int):=by omega
   have i2:(t:Int)<(N:Int):=by omega
   obtain⟨W,l⟩:∃ s,s=zbl ((k:Int)+1).toNat:=⟨_,rfl⟩;obtain⟨X,m⟩:∃ s,s=zbl ((k:Int)+1+1).toNat:=⟨_,rfl⟩;obtain⟨x,H⟩:∃ x,x=k+5+2*(S t).la.n+2*(S t).ca.n:=⟨_,rfl⟩;have D:=hI l;have E:=hI m;have Y:=hI H;have A:=a.out;have n:Hid (∀ w',Below _ w w'->w'.cell? _=some (.int _ (k:Int))/\w'.cell? _=some (.string W)/\w'.cell? _=some (.string X)/\w'.cell? _=some (.int _ ((k:Int)+1+1+1))/\w'.cell? _=some (.int _ ((k:Int)+1+1+1+1)) /\
     w'.cell? _=some (.slice al (S t).la.n cl)/\w'.cell? _=some (.slice K (S t).ca.n M)/\w'.cell? _=some (.int _ (x:Int))):=λw' h=>by
    refine⟨(h.cell (p:=⟨b,off+_,_⟩) g).trans (O.trans ?_),(h.cell g).trans (h1.trans ?_),(h.cell (p:=⟨b,_+2,_⟩) g).trans (h2.trans ?_),(h.cell (p:=⟨b,_+3,_⟩) g).trans (h3.trans ?_),(h.cell (p:=⟨b,_+4,_⟩) g).trans (P.trans ?_),(h.cell (p:=⟨b,_+5,_⟩) g).trans Q,(h.cell (p:=⟨b,_+6,_⟩) g).trans R,(h.cell (p:=⟨b,_+7,_⟩) g).trans (T.trans ?_)⟩
    ·rw[A];rfl
    ·rw[l,show((k:Int)+1).toNat=kS S k0 t+1 by omega];rfl
    ·rw[m,show((k:Int)+1+1).toNat=kS S k0 t+2 by omega];rfl
    ·show some (Value.int _ ((_:Nat):Int))=_;congr 2;omega
    ·show some (Value.int _ ((_:Nat):Int))=_;congr 2;omega
    ·show some (Value.int _ ((_:Nat):Int))=_;rw[H,A]
   have B:=hI h8;have C:=hI h9;clear O h1 h2 h3 P Q R T h8 h9 l m H A;obtain⟨c0,c1,_,_,_,_,_,_⟩:=n wr d;have n0:((k:Int) != (k:Int))=false:=by simp
   go_upto_region 7 with fail;clear c0;go_cut [1,5,28] (λq i v I=>q=int i64 ((k:Int)+1)/\i=int i64 t/\v=.bool false/\Below w.heap.size w I)
   case first =>
    go_region_held3 (λw'=>w'.cell? (b,off+t*8+1)=some (.string W))
     ((first|exact c1|exact(n _ (ze d.drew o)).2.1))
     (first|(go_at_call 71;refine(zau _ _ (by omega) (by omega)).mono ?_;rintro e w3 ⟨rfl,o⟩;rw[← D.out]))
    all_goals
     go_wp2;go_meet;exact⟨rfl,rfl,by simp,ze d.drew o⟩
   case rest =>
    obtain⟨rfl,rfl,rfl,j⟩:=hcut;obtain⟨w1,F⟩:∃ y,y=wc:=⟨_,rfl⟩;subst F;obtain⟨_,_,c2,_,_,_,_,_⟩:=n w1 j;go_upto_region 10 with fail;go_cut [1,5,38] (λq i v I=>q=int i64 ((k:Int)+1+1)/\i=int i64 t/\v=.bool false/\Below w.heap.size w I)
    case first =>
     go_region_held3 (λw'=>w'.cell? (b,off+t*8+2)=some (.string X))
      ((first|exact c2|exact(n _ (ze j.drew r)).2.2.1))
      (first|(go_at_call 71;refine(zau _ _ (by omega) (by omega)).mono ?_;rintro e w4 ⟨rfl,r⟩;rw[← E.out]))
     all_goals
      go_wp2;go_meet;exact⟨rfl,rfl,by simp,ze j.drew r⟩
    case rest =>
     obtain⟨rfl,rfl,rfl,f⟩:=hcut;obtain⟨w2,G⟩:∃ y,y=wc:=⟨_,rfl⟩;subst G;clear c1 c2;obtain⟨_,_,_,c3,c4,c5,c6,c7⟩:=n w2 f;have a0:decide (((kS S k0 t+5+2*(S t).la.n:Nat):Int)<0)=false:=by simp;omega
     have a1:decide (((kS S k0 t+5+2*(S t).la.n+2*(S t).ca.n:Nat):Int)<0)=false:=by simp;omega
     have a2:(((x:Nat):Int) != ((kS S k0 t+5+2*(S t).la.n+2*(S t).ca.n:Nat):Int))=false:=by rw[Y.out,a.out];simp
     go_wp2_with (first|(go_at_call 132;refine sC (heldLaneZ _ al cl _ _ _ (by have:=a.out;omega) z.1 (by have:=a.out;omega) (B.out.below f)) ?_)|(go_at_call 133;refine sC (zoe _ K M _ _ _ (by omega) z.2 (by have:=a.out;omega) (C.out.below f)) ?_))
     go_roundw
     case rel =>
      refine⟨_,kS S k0 (t+1),by omega,by go_num,?_,rfl,f⟩
      congr 1
      show _=((_+_:Nat):Int)
      have A:=a.out
      (try unfold wrap64);omega
     case measure=>simp[intOf];omega
  ·obtain rfl:t=N:=by omega
   go_wp2;go_ret;exact⟨by rw[a.out];rfl,d⟩
end Go.Proofs.YtmdnjgihooflfaaGreatDoor
