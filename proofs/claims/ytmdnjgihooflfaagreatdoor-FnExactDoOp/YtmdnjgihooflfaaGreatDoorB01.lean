/-
  OWN TEXT: KitCo, LPair, LSail, LSails, KitStay, InfoStay, LStay.
-/
import Derived.Test.YtmdnjgihooflfaaGreatDoorRows
import Derived.Deep.RegionHeld3
import Derived.Test.YtmdnjgihooflfaaGreatDoorB00
namespace Go.Proofs.YtmdnjgihooflfaaGreatDoor
open Go.RowKit
open Go.Value (int)
open Go.IntKind (i64)
open Tryz
set_option maxHeartbeats 64000000
set_option maxRecDepth 100000
section
instance:Coe Int Value:=⟨int i64⟩
instance:Coe Bool Value:=⟨.bool⟩
instance:Coe ByteArray Value:=⟨.string⟩
instance (b i:Nat):CoeDep (Nat × Nat) (b,i) Addr:=⟨⟨b,i,none⟩⟩
instance (b i:Nat):CoeDep (Option (Nat × Nat)) (some (b,i)) (Option Addr):=⟨some ⟨b,i,none⟩⟩
instance (a:Option Addr) (n c:Nat):CoeDep (Option Addr × Nat × Nat) (a,n,c) Value:=⟨.slice a n c⟩
instance (b i n c:Nat):CoeDep (Option (Nat × Nat) × Nat × Nat) (some (b,i),n,c) Value:=⟨.slice (some ⟨b,i,none⟩) n c⟩
instance:CoeDep Unit () Value:=⟨int i64 0⟩
instance:CoeDep Prop True Value:=⟨.slice none 0 0⟩
instance:CoeDep Prop False Value:=⟨.string ⟨#[]⟩⟩
instance (x:Int):CoeDep (Option Int) (some x) (Option Value):=⟨some (int i64 x)⟩
instance (x:Bool):CoeDep (Option Bool) (some x) (Option Value):=⟨some (.bool x)⟩
instance (x:ByteArray):CoeDep (Option ByteArray) (some x) (Option Value):=⟨some (.string x)⟩
instance (a:Option Addr) (n c:Nat):CoeDep (Option (Option Addr × Nat × Nat)) (some (a,n,c)) (Option Value):=⟨some (.slice a n c)⟩
instance (b i n c:Nat):CoeDep (Option (Option (Nat × Nat) × Nat × Nat)) (some (some (b,i),n,c)) (Option Value):=⟨some (.slice (some ⟨b,i,none⟩) n c)⟩
instance:CoeDep (Option Unit) (some ()) (Option Value):=⟨some (int i64 0)⟩
instance:CoeDep (Option Prop) (some True) (Option Value):=⟨some (.slice none 0 0)⟩
instance (y:OpD) (a:Option Addr) (c:Nat):CoeDep (OpD × Option Addr × Nat) (y,a,c) (Array Value):=⟨#[y.kind,y.own,y.name,.slice a y.lgn c,y.pe,y.len,y.hei,y.cl,y.all,y.be,y.unt,y.now]⟩
instance (b:ql) (a:Option Addr) (c:Nat):CoeDep (ql × Option Addr × Nat) (b,a,c) (Array Value):=⟨#[b.name,b.who,b.own,.slice a b.lgn c,b.pe,b.len,b.hei,b.cl,b.all,b.be,b.state,b.unt,b.price]⟩
instance (y:OpD) (b i c:Nat):CoeDep (OpD × Option (Nat × Nat) × Nat) (y,some (b,i),c) (Array Value):=⟨(y,some (⟨b,i,none⟩:Addr),c)⟩
instance (y:ql) (b i c:Nat):CoeDep (ql × Option (Nat × Nat) × Nat) (y,some (b,i),c) (Array Value):=⟨(y,some (⟨b,i,none⟩:Addr),c)⟩
instance (s:Zj) (a:Option Addr) (c:Nat) (b:Option Addr) (d:Nat):CoeDep (Zj × Option Addr × Nat × Option Addr × Nat) (s,a,c,b,d) (Array Value):=⟨#[s.id,s.fr,s.dst,s.dep,s.arr,.slice a s.la.n c,.slice b s.ca.n d,s.most]⟩
end
theorem zmQ (a u:Int)(w:World) :
  Calls prog 227 #[.agg #[a,u]] w λe w'=>e=.returned (.agg #[a,u])/\Below w.heap.size w w':=by
 go_enter func227,ntmps227;go_wp2;exact Jj (by simp[results,results227,go_sem]) rfl ⟨rfl,zk (zk (zk bZ _) _) _⟩
theorem zlm (a u:Int)(w:World) :
  Calls prog 255 #[.agg #[a,u],.agg #[a,u]] w λe w'=>e=.returned (.bool true)/\Below w.heap.size w w':=by
 go_enter func255,ntmps255;go_wp2;go_ret;exact⟨rfl,zk (zk bZ _) _⟩
/-- toLaneS: a copy of the pairs in a new row. -/
theorem zln (v:Option Addr)(n r:Nat)(l:zH)(w:World)(z:l.n=n)(hn:n<=1048576)(C:zG w v l) :
  Calls prog 172 #[(v,n,r)] w λe w'=>∃ g,e=.returned (some (g,0),n,n)/\w.heap.size<=g /\
   w'.rowIs g 223 (n*2) (qn l)/\Below w.heap.size w w':=by
 obtain⟨D,B,s,t,u⟩:=info_parts Tryz.infoLane;have A:=hI z;clear z;go_enter func172,ntmps172;go_wp2_with (first|(at_make;refine wpList_make_full _ rfl _ _ 137 rfl _ 223 D _ 2 underlying137 B s t _ _ _ _ n rfl rfl rfl rfl (by rw[u];omega) (by unfold maxLen;omega) (Jr _) ?_;intro w1 f d))
 go_loopw [4] (λi wr=>∃ k,k<=n/\i=int i64 k/\wr.rowIs w.heap.size 223 (n*2) (qn (zde k l))/\Below w.heap.size w wr)
  (λi _=>n - (intOf i).toNat)
 case atStart=>exact⟨0,Jq _,rfl,(ZP f).congr (λj y=>zhK n j y),bZ.grown d (Jr _) (by simp)⟩
 case round =>
  obtain⟨k,hk,rfl,o,c⟩:=hrel;clear f d
  by_cases hlt:k<n
  ·obtain⟨b,off,rfl,h1,h2⟩:=C k (by rw[A.out];omega)
   have x:=Ja w _ h1;have c1:=(c.cell x).trans h1;have c2:=(c.cell (p:=⟨b,_+1,_⟩) x).trans h2;clear h1 h2;go_wp2_with (first|(go_at_call 227;refine(zmQ _ _ _).mono ?_;rintro e w2 ⟨rfl,q⟩;have m:=o.of_block (q.block _ o.lt);have o1:=m.cell (i:=k*2) (by omega);have o2:=m.cell (i:=k*2+1) (by omega);have f1:=m.frozen (k*2);have f2:=m.frozen (k*2+1)))
   go_roundw
   case rel =>
    refine⟨k+1,by omega,by go_num,?_,?_⟩
    ·have:=zmx (p':=zde _ l) m (λi h=>QB _ _ _ _ h) (λi h=>QB _ _ _ _ h)
     simp only[zde,qr _ _ (Nat.lt_succ_self k)] at this;exact this
    ·exact((ze c q).setCell (Jr _) _).setCell (Jr _) _
   case measure=>simp[intOf];omega
  ·go_wp2
   go_ret;exact⟨_,rfl,Jr _,o.congr (λj y=>by unfold qn zde;simp only;rw[qr _ _ (by omega),qr _ _ (by omega)]),c⟩
/-- eqLaneS at two lists that are one. -/
theorem zjD (r bo:Option Addr)(n c1 c2:Nat)(l:zH)(w:World)(v:l.n=n)(hn:n<=1048576)(x:zG w r l)(y:zG w bo l) :
  Calls prog 217 #[(r,n,c1),(bo,n,c2)] w λe w'=>e=.returned (.bool true)/\Below w.heap.size w w':=by
 have q:=hI v;clear v;go_enter func217,ntmps217;go_wp2;go_loopw [5] (λi wr=>∃ k,k<=n/\i=int i64 k/\Below w.heap.size w wr) (λi _=>n - (intOf i).toNat)
 case atStart=>exact⟨0,Jq _,rfl,bZ⟩
 case round =>
  obtain⟨k,hk,rfl,a⟩:=hrel
  by_cases hlt:k<n
  ·obtain⟨b,off,rfl,h1,h2⟩:=x k (by rw[q.out];omega)
   obtain⟨j,f,rfl,m,u⟩:=y k (by rw[q.out];omega)
   have o:=Ja w _ h1;have g:=Ja w _ m;have c1:=(a.cell o).trans h1;have c2:=(a.cell (p:=⟨b,_+1,_⟩) o).trans h2;have s:=(a.cell g).trans m;have t:=(a.cell (p:=⟨j,_+1,_⟩) g).trans u;clear h1 h2 m u;have h:b<wr.heap.size:=Nat.lt_of_lt_of_le o a.size;have d:j<wr.heap.size:=Nat.lt_of_lt_of_le g a.size;have i1:(0:Int)<=(k:Int):=by omega
   have i2:(k:Int)<(n:Int):=by omega
   go_wp2;go_region_held3 (λw'=>w'.cell? (b,off+k*2)=some (l.A k)/\w'.cell? (b,off+k*2+1)=some (l.B k)/\w'.cell? (j,f+k*2)=some (l.A k)/\w'.cell? (j,f+k*2+1)=some (l.B k))
    (first|exact⟨c1,c2,s,t⟩|exact⟨(c.cell h).trans c1,(c.cell h).trans c2,(c.cell d).trans s,(c.cell d).trans t⟩)
    (first|(go_at_call 255;refine(zlm _ _ _).mono ?_;rintro e w2 ⟨rfl,c⟩))
   go_wp2;go_roundw
   case rel=>exact⟨k+1,by omega,by go_num,ze a.drew c⟩
   case measure=>simp[intOf];omega
  ·go_wp2
   go_ret;exact⟨rfl,a⟩
theorem zlo (a:Option Addr)(n c:Nat)(L:Int)(w:World)(h0:0<=L)(hL:L<=1048576)(hn:n<=1000000000000000) :
  Calls prog 141 #[(a,n,c),L] w λe w'=>∃ r:Int,e=.returned r/\(r=-1∨(0<=r/\r<=L/\n<=1048576))/\Below w.heap.size w w':=by
 by_cases h:(n:Int)<=L
 ·go_enter func141,ntmps141
  go_wp2;go_ret;exact⟨_,rfl,.inr ⟨by omega,by omega,by omega⟩,bZ⟩
 ·go_enter func141,ntmps141
  go_wp2;go_ret;exact⟨_,rfl,.inl rfl,bZ⟩
theorem zlp (a u:Int)(w:World) :
  Calls prog 228 #[.agg #[a,u]] w λe w'=>e=.returned (.agg #[a,u])/\Below w.heap.size w w':=by
 go_enter func228,ntmps228;go_wp2;exact Jj (by simp[results,results228,go_sem]) rfl ⟨rfl,zk (zk (zk bZ _) _) _⟩
theorem zjE (a u:Int)(w:World) :
  Calls prog 256 #[.agg #[a,u],.agg #[a,u]] w λe w'=>e=.returned (.bool true)/\Below w.heap.size w w':=by
 go_enter func256,ntmps256;go_wp2;go_ret;exact⟨rfl,zk (zk bZ _) _⟩
/-- toCabinS: a copy of the pairs in a new row. -/
theorem zjF (v:Option Addr)(n r:Nat)(l:zH)(w:World)(z:l.n=n)(hn:n<=1048576)(C:zG w v l) :
  Calls prog 173 #[(v,n,r)] w λe w'=>∃ g,e=.returned (some (g,0),n,n)/\w.heap.size<=g /\
   w'.rowIs g 231 (n*2) (qn l)/\Below w.heap.size w w':=by
 obtain⟨D,B,s,t,u⟩:=info_parts Tryz.infoCabin;have A:=hI z;clear z;go_enter func173,ntmps173;go_wp2_with (first|(at_make;refine wpList_make_full _ rfl _ _ 138 rfl _ 231 D _ 2 underlying138 B s t _ _ _ _ n rfl rfl rfl rfl (by rw[u];omega) (by unfold maxLen;omega) (Jr _) ?_;intro w1 f d))
 go_loopw [4] (λi wr=>∃ k,k<=n/\i=int i64 k/\wr.rowIs w.heap.size 231 (n*2) (qn (zde k l))/\Below w.heap.size w wr)
  (λi _=>n - (intOf i).toNat)
 case atStart=>exact⟨0,Jq _,rfl,(ZP f).congr (λj y=>zhK n j y),bZ.grown d (Jr _) (by simp)⟩
 case round =>
  obtain⟨k,hk,rfl,o,c⟩:=hrel;clear f d
  by_cases hlt:k<n
  ·obtain⟨b,off,rfl,h1,h2⟩:=C k (by rw[A.out];omega)
   have x:=Ja w _ h1;have c1:=(c.cell x).trans h1;have c2:=(c.cell (p:=⟨b,_+1,_⟩) x).trans h2;clear h1 h2;go_wp2_with (first|(go_at_call 228;refine(zlp _ _ _).mono ?_;rintro e w2 ⟨rfl,q⟩;have m:=o.of_block (q.block _ o.lt);have o1:=m.cell (i:=k*2) (by omega);have o2:=m.cell (i:=k*2+1) (by omega);have f1:=m.frozen (k*2);have f2:=m.frozen (k*2+1)))
   go_roundw
   case rel =>
    refine⟨k+1,by omega,by go_num,?_,?_⟩
    ·have:=zmx (p':=zde _ l) m (λi h=>QB _ _ _ _ h) (λi h=>QB _ _ _ _ h)
     simp only[zde,qr _ _ (Nat.lt_succ_self k)] at this;exact this
    ·exact((ze c q).setCell (Jr _) _).setCell (Jr _) _
   case measure=>simp[intOf];omega
  ·go_wp2
   go_ret;exact⟨_,rfl,Jr _,o.congr (λj y=>by unfold qn zde;simp only;rw[qr _ _ (by omega),qr _ _ (by omega)]),c⟩
/-- eqCabinS at two lists that are one. -/
theorem zik (r bo:Option Addr)(n c1 c2:Nat)(l:zH)(w:World)(v:l.n=n)(hn:n<=1048576)(x:zG w r l)(y:zG w bo l) :
  Calls prog 218 #[(r,n,c1),(bo,n,c2)] w λe w'=>e=.returned (.bool true)/\Below w.heap.size w w':=by
 have q:=hI v;clear v;go_enter func218,ntmps218;go_wp2;go_loopw [5] (λi wr=>∃ k,k<=n/\i=int i64 k/\Below w.heap.size w wr) (λi _=>n - (intOf i).toNat)
 case atStart=>exact⟨0,Jq _,rfl,bZ⟩
 case round =>
  obtain⟨k,hk,rfl,a⟩:=hrel
  by_cases hlt:k<n
  ·obtain⟨b,off,rfl,h1,h2⟩:=x k (by rw[q.out];omega)
   obtain⟨j,f,rfl,m,u⟩:=y k (by rw[q.out];omega)
   have o:=Ja w _ h1;have g:=Ja w _ m;have c1:=(a.cell o).trans h1;have c2:=(a.cell (p:=⟨b,_+1,_⟩) o).trans h2;have s:=(a.cell g).trans m;have t:=(a.cell (p:=⟨j,_+1,_⟩) g).trans u;clear h1 h2 m u;have h:b<wr.heap.size:=Nat.lt_of_lt_of_le o a.size;have d:j<wr.heap.size:=Nat.lt_of_lt_of_le g a.size;have i1:(0:Int)<=(k:Int):=by omega
   have i2:(k:Int)<(n:Int):=by omega
   go_wp2;go_region_held3 (λw'=>w'.cell? (b,off+k*2)=some (l.A k)/\w'.cell? (b,off+k*2+1)=some (l.B k)/\w'.cell? (j,f+k*2)=some (l.A k)/\w'.cell? (j,f+k*2+1)=some (l.B k))
    (first|exact⟨c1,c2,s,t⟩|exact⟨(c.cell h).trans c1,(c.cell h).trans c2,(c.cell d).trans s,(c.cell d).trans t⟩)
    (first|(go_at_call 256;refine(zjE _ _ _).mono ?_;rintro e w2 ⟨rfl,c⟩))
   go_wp2;go_roundw
   case rel=>exact⟨k+1,by omega,by go_num,ze a.drew c⟩
   case measure=>simp[intOf];omega
  ·go_wp2
   go_ret;exact⟨rfl,a⟩
theorem zjG (a:Option Addr)(n c:Nat)(L:Int)(w:World)(h0:0<=L)(hL:L<=1048576)(hn:n<=1000000000000000) :
  Calls prog 142 #[(a,n,c),L] w λe w'=>∃ r:Int,e=.returned r/\(r=-1∨(0<=r/\r<=L/\n<=1048576))/\Below w.heap.size w w':=by
 by_cases h:(n:Int)<=L
 ·go_enter func142,ntmps142
  go_wp2;go_ret;exact⟨_,rfl,.inr ⟨by omega,by omega,by omega⟩,bZ⟩
 ·go_enter func142,ntmps142
  go_wp2;go_ret;exact⟨_,rfl,.inl rfl,bZ⟩
theorem zil (x d a mo:Int)(fr tt:ByteArray)(lo i:Option Addr)(n m c1 c2:Nat)(L:Int)(w:World)(h0:0<=L)(hL:L<=1048576)(hf:fr.size<=1000000000000000)(ht:tt.size<=1000000000000000)(u:n<=1000000000000000)(t:m<=1000000000000000) :
  Calls prog 78 #[.agg #[x,fr,tt,d,a,(lo,n,c1),(i,m,c2),mo],L] w λe w'=>∃ r:Int,e=.returned r/\(r=-1∨(0<=r/\r<=L/\fr.size<=1048576/\tt.size<=1048576/\n<=1048576/\m<=1048576))/\Below w.heap.size w w':=by
 have b:Below _ w (w.alloc (.cells #[x,fr,tt,d,a,(lo,n,c1),(i,m,c2),mo] 126)):=zk bZ _;have g:=Jb w (.cells #[x,fr,tt,d,a,(lo,n,c1),(i,m,c2),mo] 126)
 by_cases g1:(fr.size:Int)<=L
 ·by_cases g2:(tt.size:Int)<=L - fr.size
  ·have j:decide (L - (fr.size:Int)<0)=false:=by simp;omega
   have l:decide (L - (fr.size:Int) - (tt.size:Int)<0)=false:=by simp;omega
   go_enter func78,ntmps78;go_wp2_with fail;refine(zlo lo n c1 _ _ (by omega) (by omega) u).mono ?_
   rintro e w1 ⟨r,rfl,hr,c⟩;have k:=zb g c;have f:=ze b c;clear g b c j l
   rcases hr with rfl|⟨o,r1,y⟩
   ·go_wp2
    go_ret;exact⟨_,rfl,.inl rfl,f⟩
   ·have q:=za k 6 _ rfl
    have d0:decide (r<0)=false:=by simpa using o
    go_wp2_with fail;refine(zjG i m c2 r _ o (by omega) t).mono ?_
    rintro e w2 ⟨s,rfl,v,h⟩
    rcases v with rfl|⟨p,s1,z⟩
    ·go_wp2
     go_ret;exact⟨_,rfl,.inl rfl,ze f h⟩
    ·have d1:decide (s<0)=false:=by simpa using p
     go_wp2;go_ret;exact⟨_,rfl,.inr ⟨p,by omega,by omega,by omega,y,z⟩,ze f h⟩
  ·have j:decide (L - (fr.size:Int)<0)=false:=by simp;omega
   have l:decide (L - (fr.size:Int) - (tt.size:Int)<0)=true:=by simp;omega
   go_enter func78,ntmps78;go_wp2;go_ret;exact⟨_,rfl,.inl rfl,b⟩
 ·have j:decide (L - (fr.size:Int)<0)=true:=by simp;omega
  go_enter func78,ntmps78;go_wp2;go_ret;exact⟨_,rfl,.inl rfl,b⟩
theorem zim (x d a mo:Int)(fr tt:ByteArray)(lo t:Option Addr)(n m c1 c2:Nat)(s y:zH)(w:World)(e1:s.n=n)(e2:y.n=m)(hn:n<=1048576)(hm:m<=1048576)(hx:zG w lo s)(hy:zG w t y) :
  Calls prog 94 #[.agg #[x,fr,tt,d,a,(lo,n,c1),(t,m,c2),mo]] w λe w'=>∃ p q,e=.returned (.agg #[x,fr,tt,d,a,(some (p,0),n,n),(some (q,0),m,m),mo])/\w.heap.size<=p/\p<q /\
   w'.rowIs p 223 (n*2) (qn s)/\w'.rowIs q 231 (m*2) (qn y)/\Below w.heap.size w w':=by
 have E1:=hI e1;have E2:=hI e2;clear e1 e2;go_enter func94,ntmps94;go_wp2_with fail;obtain⟨H,c⟩:∃ W,W=(((w.alloc (.cells #[x,fr,tt,d,a,(lo,n,c1),(t,m,c2),mo] 126)).alloc (.cells #[(),False,False,(),(),True,True,()] 140)).alloc (.cells #[x,fr,tt,d,a,True,True,()] 140)):=⟨_,rfl⟩;have K:Below w.heap.size w H:=by rw[c];exact zk (zk (zk bZ _) _) _
 have A0:H.heap[w.heap.size]?=some (.cells #[x,fr,tt,d,a,(lo,n,c1),(t,m,c2),mo] 126 (0,0)):=by rw[c];exact zd (zd (Jb w _) _) _
 have R0:H.heap[w.heap.size+1]?=some (.cells #[(),False,False,(),(),True,True,()] 140 (0,0)):=by rw[c];exact zd (by simpa using Jb (w.alloc _) _) _
 have J:H.heap[w.heap.size+1+1]?=some (.cells #[x,fr,tt,d,a,True,True,()] 140 (0,0)):=by rw[c];simpa using Jb ((w.alloc _).alloc _) _
 rw[← c];clear c;refine(zln lo n c1 s _ E1 hn (hx.below K)).mono ?_;rintro e w1 ⟨g,rfl,hg,j,h⟩;have I:=zb A0 h;have R1:=zb R0 h;have G:=zb J h;have D:=ze K h;have a0:w.heap.size+1+1<g:=by have:=zM J;omega
 clear K A0 R0 J h hg;have R:=za I 6 _ rfl;have S:=za G 5 _ rfl;have T:=zg G 5;go_wp2_with fail;obtain⟨W,k⟩:∃ W,W=w1.setCell (w.heap.size+1+1,5) (some (g,0),n,n):=⟨_,rfl⟩;have A2:W.heap[w.heap.size]?=some (.cells #[x,fr,tt,d,a,(lo,n,c1),(t,m,c2),mo] 126 (0,0)):=by rw[k];exact zD I _ _ (by omega)
 have r2:W.heap[w.heap.size+1]?=some (.cells #[(),False,False,(),(),True,True,()] 140 (0,0)):=by rw[k];exact zD R1 _ _ (by omega)
 have o2:W.heap[w.heap.size+1+1]?=some (.cells #[x,fr,tt,d,a,(some (g,0),n,n),True,()] 140 (0,0)):=by rw[k];exact zm G 5 _
 have b:W.rowIs g 223 (n*2) (qn s):=by rw[k];exact j.setOther (by show g≠_+1;omega) _
 have l:Below w.heap.size w W:=by rw[k];exact D.setCell (by show w.heap.size<=_+1;omega) _
 rw[← k];clear k R S T j D I R1 G;refine(zjF t m c2 y _ E2 hm (hy.below l)).mono ?_;rintro e w2 ⟨i,rfl,O,o,f⟩;have A3:=zb A2 f;have U:=zb r2 f;have Q:=zb o2 f;have r:=qo b f;have E:=ze l f;have P:g<i:=by have:=b.lt;omega
 clear f r2 o2 b l O A2;have qa:=za A3 7 _ rfl;obtain⟨q0,R,S,T,q4,q5,q6,q7⟩:=ce8 Q;have f6:=zg Q 6;have f7:=zg Q 7;obtain⟨y0,y1,y2,y3,y4,y5,y6,y7⟩:=ce8 U;obtain⟨X,Y,Z,z3,z4,z5,z6,z7⟩:=fe8 U;go_wp2;clear qa q0 R S T q4 q5 q6 q7 f6 f7 X Y Z z3 z4 z5 z6 z7 y0 y1 y2 y3 y4 y5 y6 y7;obtain⟨V,v⟩:∃ V,V=(w2.setCell (w.heap.size+1+1,6) (some (i,0),m,m)).setCell (w.heap.size+1+1,7) mo:=⟨_,rfl⟩;have rV:V.heap[w.heap.size+1]?=some (.cells #[(),False,False,(),(),True,True,()] 140 (0,0)):=by rw[v];exact zD (zD U _ _ (by omega)) _ _ (by omega)
 have A:V.rowIs g 223 (n*2) (qn s):=by rw[v];exact(r.setOther (by show g≠_+1;omega) _).setOther (by show g≠_+1;omega) _
 have B:V.rowIs i 231 (m*2) (qn y):=by rw[v];exact(o.setOther (by show i≠_+1;omega) _).setOther (by show i≠_+1;omega) _
 have C:Below w.heap.size w V:=by rw[v];exact(E.setCell (by show w.heap.size<=_+1;omega) _).setCell (by show w.heap.size<=_+1;omega) _
 rw[← v];obtain⟨F,u⟩:∃ F,F=zjz V (w.heap.size+1) 0 x fr tt d a (some (g,0),n,n) (some (i,0),m,m) mo:=⟨_,rfl⟩;have rF:=zmy (v0:=int i64 x) (v1:=.string fr) (v2:=.string tt) (v3:=int i64 d) (v4:=int i64 a) (v5:=.slice (some (g,0)) n n) (v6:=.slice (some (i,0)) m m) (v7:=int i64 mo) rV;rw[← u] at rF;have L:F.rowIs g 223 (n*2) (qn s):=by rw[u];exact zdI A (by omega)
 have M:F.rowIs i 231 (m*2) (qn y):=by rw[u];exact zdI B (by omega)
 have N:Below w.heap.size w F:=by rw[u];exact zfa C (by omega)
 have z:F=(((((((V.setCell (w.heap.size+1,0) x).setCell (w.heap.size+1,1) fr).setCell (w.heap.size+1,2) tt).setCell (w.heap.size+1,3) d).setCell (w.heap.size+1,4) a).setCell (w.heap.size+1,5) (some (g,0),n,n)).setCell (w.heap.size+1,6) (some (i,0),m,m)).setCell (w.heap.size+1,7) mo:=by rw[u];unfold zjz;rfl
 rw[← z];clear u z v rV A B C;obtain⟨X,Y,Z,z3,z4,z5,z6,z7⟩:=ce8 rF;exact Jj (by simp[results,results94,go_sem,X,Y,Z,z3,z4,z5,z6,z7]) rfl ⟨g,i,rfl,by omega,P,L,M,N⟩
theorem zhu (x d a mo:Int)(fr tt:ByteArray)(lo i lo' b:Option Addr)(n m c1 c2 c3 c4:Nat)(k l:zH)(w:World)(r:k.n=n)(s:l.n=m)(y:n<=1048576)(v:m<=1048576)
  (z:zG w lo k) (A:zG w i l) (p:zG w lo' k) (q:zG w b l) :
  Calls prog 123 #[.agg #[x,fr,tt,d,a,(lo,n,c1),(i,m,c2),mo],.agg #[x,fr,tt,d,a,(lo',n,c3),(b,m,c4),mo]] w λe w'=>e=.returned (.bool true)/\Below w.heap.size w w':=by
 have t:=hI r;have u:=hI s;clear r s;have j:Below _ w ((w.alloc (.cells #[x,fr,tt,d,a,(lo,n,c1),(i,m,c2),mo] 140)).alloc (.cells #[x,fr,tt,d,a,(lo',n,c3),(b,m,c4),mo] 140)):=zk (zk bZ _) _;go_enter func123,ntmps123;go_wp2_with fail;refine(zjD lo lo' n c1 c3 k _ t y (z.below j) (p.below j)).mono ?_;rintro e F ⟨rfl,c⟩;have h:=zb (zd (Jb w _) _) c;have o:F.heap[w.heap.size+1]?=_:=zb (by simpa using Jb (w.alloc _) _) c
 have f:=ze j c;clear j c;have B:=za h 6 _ rfl;have C:=za o 6 _ rfl;have D:=za h 7 _ rfl;have E:=za o 7 _ rfl;go_wp2_with fail;refine(zik i b m c2 c4 l _ u v (A.below f) (q.below f)).mono ?_;rintro e w2 ⟨rfl,g⟩;have q5:=za (zb h g) 7 _ rfl;have q6:=za (zb o g) 7 _ rfl;clear B C D E h o;go_wp2;go_ret;exact⟨rfl,ze f g⟩
theorem zin (n:Option Addr)(N c:Nat)(S:Nat->Zj)(w:World)(hN:N<=1000000000000000)(x:QL N S 1000000000000000)(D:qB w n N S) :
  Calls prog 38 #[(n,N,c),int i64 1048576] w λe w'=>∃ r:Int,e=.returned r/\(r=-1∨(0<=r/\r<=1048576/\N<=1048576/\QL N S 1048576))/\Below w.heap.size w w':=by
 have B:=hI x;clear x
 by_cases hf:N<=1048576
 ·have o:decide ((1048576:Int) - (N:Int)<0)=false:=by simp;omega
  go_enter func38,ntmps38;go_wp2;go_loopw [1,5] (λl i wr=>∃ (k:Nat) (L:Int),k<=N/\i=int i64 k/\l=int i64 L/\0<=L/\L<=1048576/\QL k S 1048576/\Below w.heap.size w wr) (λ_ i _=>N - (intOf i).toNat)
  case atStart=>exact⟨0,_,Jq _,rfl,rfl,by omega,by omega,λi C=>by omega,bZ⟩
  case round =>
   obtain⟨k,L,hk,rfl,rfl,y,z,g,a⟩:=hrel;have m:=hI g;clear g o
   by_cases hlt:k<N
   ·obtain⟨b,off,la,lc,ca,cc,rfl,q,h1,h2,h3,s,t,u,v,h8,h9,h,j⟩:=D k hlt
    have d:=Ja w _ h1;have c0:=(a.cell (p:=⟨b,off+_,_⟩) d).trans q;have c1:=(a.cell d).trans h1;have c2:=(a.cell (p:=⟨b,_+2,_⟩) d).trans h2;have c3:=(a.cell (p:=⟨b,_+3,_⟩) d).trans h3;have c4:=(a.cell (p:=⟨b,_+4,_⟩) d).trans s;have c5:=(a.cell (p:=⟨b,_+5,_⟩) d).trans t;have c6:=(a.cell (p:=⟨b,_+6,_⟩) d).trans u;have c7:=(a.cell (p:=⟨b,_+7,_⟩) d).trans v;obtain⟨I,J,K,M⟩:=B k hlt;clear q h1 h2 h3 s t u v h8 h9 h j;go_wp2_with fail;refine(zil _ _ _ _ _ _ _ _ _ _ _ _ L _ y z I J K M).mono ?_;rintro e w2 ⟨r,rfl,hr,f⟩
    rcases hr with rfl|⟨A,r1,E,F,G,H⟩
    ·go_wp2
     go_ret;exact⟨_,rfl,.inl rfl,ze a f⟩
    ·have d1:decide (r<0)=false:=by simpa using A
     go_wp2;go_roundw
     case rel =>
      refine⟨k+1,r,by omega,by go_num,rfl,A,by omega,λi C=>?_,ze a f⟩
      by_cases e:i=k
      ·subst e;exact⟨E,F,G,H⟩
      ·exact m i (by omega)
     case measure=>simp[intOf];omega
   ·obtain rfl:k=N:=by omega
    go_wp2;go_ret;exact⟨_,rfl,.inr ⟨y,z,hf,m⟩,a⟩
 ·have o:decide ((1048576:Int) - (N:Int)<0)=true:=by simp;omega
  go_enter func38,ntmps38;go_wp2;go_ret;exact⟨_,rfl,.inl rfl,bZ⟩
/-- toSailingS: a copy of the sailings, each list in a row of its own. -/
theorem zhv (B:Option Addr)(N t:Nat)(S:Nat->Zj)(w:World)(hN:N<=1048576)(I:QL N S 1048576)(L:qB w B N S) :
  Calls prog 45 #[(B,N,t)] w λe w'=>∃ g l c,e=.returned (some (g,0),N,N)/\zak w' 140 223 231 N w.heap.size g N S l c/\Below w.heap.size w w':=by
 obtain⟨M,r,y,z,A⟩:=info_parts Tryz.infoSailing;have J:=hI I;clear I;go_enter func45,ntmps45;go_wp2_with (first|(at_make;refine wpList_make_full _ rfl _ _ 34 rfl _ 140 M _ 8 underlying34 r y z _ _ _ _ N rfl rfl rfl rfl (by rw[A];omega) (by unfold maxLen;omega) (Jr _) ?_;intro w1 n h))
 go_loopw [4] (λi wr=>∃ (k:Nat) (l c:_),k<=N/\i=int i64 k/\zak wr 140 223 231 k w.heap.size w.heap.size N S l c/\Below w.heap.size w wr)
  (λi _=>N - (intOf i).toNat)
 case atStart=>exact⟨0,λ_=>0,λ_=>0,Jq _,rfl,⟨(ZP n).congr (λj H=>zhL N j H),Jr _,λi r=>by omega,λi r=>by omega,λi j _ H=>by omega⟩,bZ.grown h (Jr _) (by simp)⟩
 case round =>
  obtain⟨k,l,c,hk,rfl,m,d⟩:=hrel;clear n h
  by_cases hlt:k<N
  ·obtain⟨b,off,la,lc,ca,cc,rfl,C,h1,h2,h3,D,E,F,G,h8,h9,v,x⟩:=L k hlt
   have o:=Ja w _ h1;have K:=(d.cell (p:=⟨b,off+_,_⟩) o).trans C;have c1:=(d.cell o).trans h1;have c2:=(d.cell (p:=⟨b,_+2,_⟩) o).trans h2;have c3:=(d.cell (p:=⟨b,_+3,_⟩) o).trans h3;have c4:=(d.cell (p:=⟨b,_+4,_⟩) o).trans D;have c5:=(d.cell (p:=⟨b,_+5,_⟩) o).trans E;have c6:=(d.cell (p:=⟨b,_+6,_⟩) o).trans F;have c7:=(d.cell (p:=⟨b,_+7,_⟩) o).trans G;obtain⟨_,_,Q,R⟩:=J k hlt;clear C h1 h2 h3 D E F G v x;go_wp2_with fail;refine(zim _ _ _ _ _ _ _ _ _ _ _ _ _ _ _ rfl rfl Q R (h8.below d) (h9.below d)).mono ?_;rintro e w2 ⟨a,b',rfl,ga,u,O,P,q⟩;have f:=m.below q;have o0:=f.row.cell (i:=k*8) (by omega)
   have o1:=f.row.cell (i:=k*8+1) (by omega)
   have o2:=f.row.cell (i:=k*8+2) (by omega)
   have o3:=f.row.cell (i:=k*8+3) (by omega)
   have o4:=f.row.cell (i:=k*8+4) (by omega)
   have o5:=f.row.cell (i:=k*8+5) (by omega)
   have o6:=f.row.cell (i:=k*8+6) (by omega)
   have o7:=f.row.cell (i:=k*8+7) (by omega)
   have f0:=f.row.frozen (k*8);have f1:=f.row.frozen (k*8+1);have f2:=f.row.frozen (k*8+2);have f3:=f.row.frozen (k*8+3);have f4:=f.row.frozen (k*8+4);have f5:=f.row.frozen (k*8+5);have f6:=f.row.frozen (k*8+6);have f7:=f.row.frozen (k*8+7);clear K c1 c2 c3 c4 c5 c6 c7 h8 h9;go_wp2;go_roundw
   case rel =>
    have hg:=m.row.lt;have s:=f.step (by omega) u (λi r=>by have:=(m.cabins i r).2.lt;omega) O P
    unfold zjz ZY at s;exact⟨_,_,_,by omega,by go_num,s,(((((((((ze d q).setCell (Jr _) _).setCell (Jr _) _).setCell (Jr _) _).setCell (Jr _) _).setCell (Jr _) _).setCell (Jr _) _).setCell (Jr _) _).setCell (Jr _) _)⟩
   case measure=>simp[intOf];omega
  ·obtain rfl:k=N:=by omega
   go_wp2;go_ret;exact⟨_,l,c,rfl,m,d⟩
/-- eqSailingS at two lists that are one. -/
theorem zgh (D bo:Option Addr)(N c1 c2:Nat)(S:Nat->Zj)(w:World)(hN:N<=1048576)(hs:QL N S 1048576)(hx:qB w D N S)(hy:qB w bo N S) :
  Calls prog 57 #[(D,N,c1),(bo,N,c2)] w λe w'=>e=.returned (.bool true)/\Below w.heap.size w w':=by
 have HS:=hI hs;clear hs;go_enter func57,ntmps57;go_wp2;go_loopw [5] (λi wr=>∃ k,k<=N/\i=int i64 k/\Below w.heap.size w wr) (λi _=>N - (intOf i).toNat)
 case atStart=>exact⟨0,Jq _,rfl,bZ⟩
 case round =>
  obtain⟨k,hk,rfl,a⟩:=hrel
  by_cases hlt:k<N
  ·obtain⟨b,off,la,lc,ca,cc,rfl,V,h1,h2,h3,W,X,Y,Z,h8,h9,_,_⟩:=hx k hlt
   obtain⟨j,d,s,t,m,n,rfl,M,o,O,P,Q,R,T,U,q,r,_,_⟩:=hy k hlt;have l:=Ja w _ h1;have g:=Ja w _ o;have u:=(a.cell (p:=⟨b,off+_,_⟩) l).trans V;have v:=(a.cell l).trans h1;have x:=(a.cell (p:=⟨b,_+2,_⟩) l).trans h2;have y:=(a.cell (p:=⟨b,_+3,_⟩) l).trans h3;have z:=(a.cell (p:=⟨b,_+4,_⟩) l).trans W;have A:=(a.cell (p:=⟨b,_+5,_⟩) l).trans X;have B:=(a.cell (p:=⟨b,_+6,_⟩) l).trans Y;have C:=(a.cell (p:=⟨b,_+7,_⟩) l).trans Z;have E:=(a.cell (p:=⟨j,d+_,_⟩) g).trans M;have F:=(a.cell g).trans o;have G:=(a.cell (p:=⟨j,_+2,_⟩) g).trans O;have H:=(a.cell (p:=⟨j,_+3,_⟩) g).trans P;have I:=(a.cell (p:=⟨j,_+4,_⟩) g).trans Q;have J:=(a.cell (p:=⟨j,_+5,_⟩) g).trans R;have K:=(a.cell (p:=⟨j,_+6,_⟩) g).trans T;have L:=(a.cell (p:=⟨j,_+7,_⟩) g).trans U;obtain⟨_,_,s3,s4⟩:=HS k hlt;have h8:=h8.below a.drew;have h9:=h9.below a.drew;have q:=q.below a.drew;have r:=r.below a.drew;clear V h1 h2 h3 W X Y Z M o O P Q R T U;have h:b<wr.heap.size:=Nat.lt_of_lt_of_le l a.size;have f:j<wr.heap.size:=Nat.lt_of_lt_of_le g a.size;have i1:(0:Int)<=(k:Int):=by omega
   have i2:(k:Int)<(N:Int):=by omega
   go_wp2;go_region_held3 (λw'=>(w'.cell? (b,off+k*8)=some (S k).id/\w'.cell? (b,off+k*8+1)=some (S k).fr/\w'.cell? (b,off+k*8+2)=some (S k).dst/\w'.cell? (b,off+k*8+3)=some (S k).dep/\w'.cell? (b,off+k*8+4)=some (S k).arr/\w'.cell? (b,off+k*8+5)=some (la,(S k).la.n,lc)/\w'.cell? (b,off+k*8+6)=some (ca,(S k).ca.n,cc)/\w'.cell? (b,off+k*8+7)=some (S k).most) /\
     (w'.cell? (j,d+k*8)=some (S k).id/\w'.cell? (j,d+k*8+1)=some (S k).fr/\w'.cell? (j,d+k*8+2)=some (S k).dst/\w'.cell? (j,d+k*8+3)=some (S k).dep/\w'.cell? (j,d+k*8+4)=some (S k).arr/\w'.cell? (j,d+k*8+5)=some (s,(S k).la.n,t)/\w'.cell? (j,d+k*8+6)=some (m,(S k).ca.n,n)/\w'.cell? (j,d+k*8+7)=some (S k).most))
    (first|exact⟨⟨u,v,x,y,z,A,B,C⟩,⟨E,F,G,H,I,J,K,L⟩⟩|exact⟨⟨(c.cell h).trans u,(c.cell h).trans v,(c.cell h).trans x,(c.cell h).trans y,(c.cell h).trans z,(c.cell h).trans A,(c.cell h).trans B,(c.cell h).trans C⟩,⟨(c.cell f).trans E,(c.cell f).trans F,(c.cell f).trans G,(c.cell f).trans H,(c.cell f).trans I,(c.cell f).trans J,(c.cell f).trans K,(c.cell f).trans L⟩⟩)
    (first|(go_at_call 123;refine(zhu _ _ _ _ _ _ _ _ _ _ _ _ _ _ _ _ _ _ _ rfl rfl s3 s4 h8 h9 q r).mono ?_;rintro e w2 ⟨rfl,c⟩))
   go_wp2;go_roundw
   case rel=>exact⟨k+1,by omega,by go_num,ze a.drew c⟩
   case measure=>simp[intOf];omega
  ·go_wp2
   go_ret;exact⟨rfl,a⟩
section
open Go.RowKit
variable{w:World}{n:Nat}
structure Zp where
 who:Int
 ln:Int
 len:Int
 hei:Int
def Zp.zero:Zp:=⟨0,0,0,0⟩
instance:Inhabited Zp:=⟨Zp.zero⟩
def qw (w:World)(a:Option Addr)(n:Nat)(S:Nat->Zp):Prop :=
 ∀ k,k<n->∃ b off,a=some ⟨b,off,none⟩/\w.cell? ⟨b,off+k*4,none⟩=some (int i64 (S k).who)/\w.cell? ⟨b,off+k*4+1,none⟩=some (int i64 (S k).ln)/\w.cell? ⟨b,off+k*4+2,none⟩=some (int i64 (S k).len)/\w.cell? ⟨b,off+k*4+3,none⟩=some (int i64 (S k).hei)
theorem qw.below {w':World}{d:Option Addr}{S:Nat->Zp}(h:qw w d n S)(c:Below w.heap.size w w'):qw w' d n S:=by
 intro k g;obtain⟨b,off,e,f,h1,h2,h3⟩:=h k g;have a:b<w.heap.size:=Ja w _ f;exact⟨b,off,e,(c.cell a).trans f,(c.cell a).trans h1,(c.cell a).trans h2,(c.cell a).trans h3⟩
theorem qw.upto {a:Option Addr}{i:Nat}{S:Nat->Zp}(h:qw w a n S)(hi:i<=n):qw w a i S:=λk hk=>h k (by omega)
def qv (S:Nat->Zp)(j:Nat):Value :=
 if j % 4=0 then int i64 (S (j / 4)).who else if j % 4=1 then int i64 (S (j / 4)).ln else if j % 4=2 then int i64 (S (j / 4)).len else int i64 (S (j / 4)).hei
theorem zbu (S:Nat->Zp)(k:Nat):qv S (k*4)=int i64 (S k).who:=by
 unfold qv;rw[Jf (by omega),show k*4 / 4=k by omega]
theorem zbv (S:Nat->Zp)(k:Nat):qv S (k*4+1)=int i64 (S k).ln:=by
 unfold qv;rw[Je (by omega),Jf (by omega),show(k*4+1) / 4=k by omega]
theorem zbw (S:Nat->Zp)(k:Nat):qv S (k*4+2)=int i64 (S k).len:=by
 unfold qv;rw[Je (by omega),Je (by omega),Jf (by omega),show(k*4+2) / 4=k by omega]
theorem zbx (S:Nat->Zp)(k:Nat):qv S (k*4+3)=int i64 (S k).hei:=by
 unfold qv;rw[Je (by omega),Je (by omega),Je (by omega),show(k*4+3) / 4=k by omega]
theorem qw.of_row {g t:Nat}{S:Nat->Zp}(h:w.rowIs g t (n*4) (qv S)):qw w (some ⟨g,0,none⟩) n S:=by
 intro k hk;refine⟨g,0,rfl,?_,?_,?_,?_⟩
 ·rw[Nat.zero_add,h.cell (by omega),zbu]
 ·rw[Nat.zero_add,h.cell (by omega),zbv]
 ·rw[Nat.zero_add,h.cell (by omega),zbw]
 ·rw[Nat.zero_add,h.cell (by omega),zbx]
theorem zmR (n:Nat)(j:Nat)(a:j<n*4):(madeCells (Value.agg #[(),(),(),()]).cells (n*4)).toList.getD j (.bool false)=qv (λ_=>Zp.zero) j:=by
 have b:(Value.agg #[_,_,_,_]).cells=#[int i64 0,int i64 0,int i64 0,int i64 0]:=rfl;rw[b];simp only[madeCells,Array.toList_map,List.getD_eq_getElem?_getD,List.getElem?_map,Array.toList_range,List.getElem?_range a,Option.map_some,Option.getD_some];unfold qv;have:j % 4=0∨j % 4=1∨j % 4=2∨j % 4=3:=by omega
 rcases this with h|h|h|h <;> simp[h,Zp.zero]
theorem stay_set {g t k:Nat}{S S':Nat->Zp}(h:w.rowIs g t n (qv S))(a:∀ i,i≠k->S' i=S i) :
  ((((w.setCell (g,k*4) (S' k).who).setCell (g,k*4+1) (S' k).ln).setCell (g,k*4+2) (S' k).len).setCell (g,k*4+3) (S' k).hei).rowIs g t n (qv S'):=by
 refine((((h.set _ _).set _ _).set _ _).set _ _).congr λj _=>?_
 by_cases h3:j=k*4+3
 ·subst h3;rw[Jf rfl,zbx]
 rw[Je h3]
 by_cases h2:j=k*4+2
 ·subst h2;rw[Jf rfl,zbw]
 rw[Je h2]
 by_cases h1:j=k*4+1
 ·subst h1;rw[Jf rfl,zbv]
 rw[Je h1]
 by_cases h0:j=k*4
 ·subst h0;rw[Jf rfl,zbu]
 rw[Je h0];have b:j / 4≠k:=by omega
 unfold qv;rw[a _ b]
def zy (S:Nat->Zp)(n:Nat):List Value:=(List.range (n*4)).map (qv S)
theorem ZR (S:Nat->Zp)(n:Nat):(zy S n).length=n*4:=by simp[zy]
theorem zjH {S:Nat->Zp}{j:Nat}{u:Value}(h:(zy S n)[j]?=some u):j<n*4/\u=qv S j:=by
 unfold zy at h;rw[List.getElem?_map] at h
 by_cases hj:j<n*4
 ·rw[List.getElem?_range hj] at h;simp at h;exact⟨hj,h.symm⟩
 ·rw[List.getElem?_eq_none (by simpa using hj)] at h;cases h
theorem QQ (S:Nat->Zp)(n:Nat):∀ u ∈ zy S n,u.oneCell'=true:=by
 intro u a;unfold zy at a;simp only[List.mem_map] at a;obtain⟨j,_,rfl⟩:=a;unfold qv
 repeat' split
 all_goals rfl
theorem zaw (S:Nat->Zp)(k:Nat):zy S (k+1)=zy S k++[int i64 (S k).who,int i64 (S k).ln,int i64 (S k).len,int i64 (S k).hei]:=by
 unfold zy;rw[show(k+1)*4=k*4+1+1+1+1 by omega,List.range_succ,List.range_succ,List.range_succ,List.range_succ]
 simp only[List.map_append,List.map_cons,List.map_nil,List.append_assoc,List.cons_append,List.nil_append,zbu,zbv,zbw,zbx]
theorem zbU {S S':Nat->Zp}(h:∀ i,i<n->S i=S' i):zy S n=zy S' n:=by
 unfold zy;refine List.map_congr_left (λj a=>?_)
 have b:=by simpa using a
 unfold qv;rw[h _ (by omega)]
def QI (S:Nat->Zp)(n:Nat)(T:Nat->Zp)(i:Nat):Zp:=if i<n then S i else T (i - n)
theorem zfy (S T:Nat->Zp)(n j:Nat):zy (QI S n T) (n+j)=zy S n++zy T j:=by
 induction j with
 | zero =>
  have:zy T 0=[]:=by simp[zy]
  rw[this,List.append_nil,Nat.add_zero];exact zbU (λi a=>Jf a)
 | succ j ih =>
  rw[show n+(j+1)=n+j+1 by omega,zaw,zaw,ih,List.append_assoc]
  have:QI S n T (n+j)=T j:=by unfold QI;rw[Je (by omega),show n+j - n=j by omega]
  rw[this]
theorem zal {f:Option Addr}{S:Nat->Zp}(h:qw w f n S):∀ c,f=some c->∀ j u,(zy S n)[j]?=some u->w.cell? (c.add j)=some u:=by
 intro c e j u i;obtain⟨hj,rfl⟩:=zjH i;obtain⟨b,off,d,g,h1,h2,h3⟩:=h (j / 4) (by omega)
 rw[e] at d;simp only[Option.some.injEq] at d;subst d;rw[Addr.add_lit];have a:j % 4=0∨j % 4=1∨j % 4=2∨j % 4=3:=by omega
 rcases a with a|a|a|a
 ·rw[show off+j=off+j / 4*4 by omega,g];unfold qv;simp[a]
 ·rw[show off+j=off+j / 4*4+1 by omega,h1];unfold qv;simp[a]
 ·rw[show off+j=off+j / 4*4+2 by omega,h2];unfold qv;simp[a]
 ·rw[show off+j=off+j / 4*4+3 by omega,h3];unfold qv;simp[a]
theorem zbK {base e c:Nat}{a:Option Addr}{S:Nat->Zp}(h:w.ownsRow base e 4 (.slice a n c) n (zy S n)):qw w a n S:=by
 intro k hk;obtain⟨g,rfl,_,_⟩:=qh h (by omega)
 have b:=zs h (k*4) (by omega) rfl
 rw[zbu] at b;have c1:=zs h (k*4+1) (by omega) rfl
 rw[zbv] at c1;have c2:=zs h (k*4+2) (by omega) rfl
 rw[zbw] at c2;have c3:=zs h (k*4+3) (by omega) rfl
 rw[zbx] at c3;exact⟨g,0,rfl,by rw[Nat.zero_add];exact b,by rw[Nat.zero_add];exact c1,by rw[Nat.zero_add];exact c2,by rw[Nat.zero_add];exact c3⟩
end
theorem Tryz.infoStay:(Tryz.prog.info? 220).map (λi=>(i.zero,i.size,i.bytes))=some (some (.agg #[int i64 0,int i64 0,int i64 0,int i64 0]),4,32):=by kernel_rfl
theorem zmS (a:Int)(b:Int)(c:Int)(d:Int)(w:World) :
  Calls prog 229 #[.agg #[a,b,c,d]] w λe w'=>e=.returned (.agg #[a,b,c,d])/\Below w.heap.size w w':=by
 go_enter func229,ntmps229;go_wp2;exact Jj (by simp[results,results229,go_sem]) rfl ⟨rfl,zk (zk (zk bZ _) _) _⟩
theorem zlq (a:Int)(b:Int)(c:Int)(d:Int)(w:World) :
  Calls prog 257 #[.agg #[a,b,c,d],.agg #[a,b,c,d]] w λe w'=>e=.returned (.bool true)/\Below w.heap.size w w':=by
 go_enter func257,ntmps257;go_wp2;go_ret;exact⟨rfl,zk (zk bZ _) _⟩
/-- toStayS: a copy in a new row. -/
theorem zlr (x:Option Addr)(n r:Nat)(S:Nat->Zp)(w:World)(hn:n<=1048576)(A:qw w x n S) :
  Calls prog 174 #[(x,n,r)] w λe w'=>∃ g,e=.returned (some (g,0),n,n)/\w.heap.size<=g /\
   w'.rowIs g 220 (n*4) (qv S)/\Below w.heap.size w w':=by
 obtain⟨B,z,t,u,v⟩:=info_parts Tryz.infoStay;go_enter func174,ntmps174;go_wp2_with (first|(at_make;refine wpList_make_full _ rfl _ _ 141 rfl _ 220 B _ 4 underlying141 z t u _ _ _ _ n rfl rfl rfl rfl (by rw[v];omega) (by unfold maxLen;omega) (Jr _) ?_;intro w1 l f))
 go_loopw [4] (λi wr=>∃ k,k<=n/\i=int i64 k/\wr.rowIs w.heap.size 220 (n*4) (qv (zbJ k S Zp.zero))/\Below w.heap.size w wr)
  (λi _=>n - (intOf i).toNat)
 case atStart=>exact⟨0,Jq _,rfl,(ZP l).congr (λj y=>zmR n j y),bZ.grown f (Jr _) (by simp)⟩
 case round =>
  obtain⟨k,hk,rfl,m,c⟩:=hrel;clear l f
  by_cases hlt:k<n
  ·obtain⟨b,off,rfl,s,h1,h2,h3⟩:=A k (by omega)
   have q:=Ja w _ s;have c0:=(c.cell q).trans s;have c1:=(c.cell (p:=⟨b,_+1,_⟩) q).trans h1;have c2:=(c.cell (p:=⟨b,_+2,_⟩) q).trans h2;have c3:=(c.cell (p:=⟨b,_+3,_⟩) q).trans h3;clear s h1 h2 h3;go_wp2_with (first|(go_at_call 229;refine(zmS _ _ _ _ _).mono ?_;rintro e w2 ⟨rfl,o⟩;have d:=m.of_block (o.block _ m.lt);have o0:=d.cell (i:=k*4) (by omega);have o1:=d.cell (i:=k*4+1) (by omega);have o2:=d.cell (i:=k*4+2) (by omega);have o3:=d.cell (i:=k*4+3) (by omega);have f0:=d.frozen (k*4);have f1:=d.frozen (k*4+1);have f2:=d.frozen (k*4+2);have f3:=d.frozen (k*4+3)))
   go_roundw
   case rel =>
    refine⟨k+1,by omega,by go_num,?_,?_⟩
    ·have:=stay_set (S':=zbJ _ S _) d (λi h=>QB _ _ _ _ h)
     simp only[qr _ _ (Nat.lt_succ_self k)] at this;exact this
    ·exact(((((ze c o).setCell (Jr _) _).setCell (Jr _) _).setCell (Jr _) _).setCell (Jr _) _)
   case measure=>simp[intOf];omega
  ·go_wp2
   go_ret;exact⟨_,rfl,Jr _,m.congr (λj y=>by unfold qv;rw[qr _ _ (by omega)]),c⟩
/-- eqStayS at two lists that are one. -/
theorem zjI (q bo:Option Addr)(n c1 c2:Nat)(S:Nat->Zp)(w:World)(hn:n<=2097152)(A:qw w q n S)(B:qw w bo n S) :
  Calls prog 219 #[(q,n,c1),(bo,n,c2)] w λe w'=>e=.returned (.bool true)/\Below w.heap.size w w':=by
 go_enter func219,ntmps219;go_wp2;go_loopw [5] (λi wr=>∃ k,k<=n/\i=int i64 k/\Below w.heap.size w wr) (λi _=>n - (intOf i).toNat)
 case atStart=>exact⟨0,Jq _,rfl,bZ⟩
 case round =>
  obtain⟨k,hk,rfl,a⟩:=hrel
  by_cases hlt:k<n
  ·obtain⟨b,off,rfl,o,h1,h2,h3⟩:=A k (by omega)
   obtain⟨j,f,rfl,m,x,y,z⟩:=B k (by omega)
   have l:=Ja w _ o;have g:=Ja w _ m;have r:=(a.cell l).trans o;have s:=(a.cell g).trans m;have c1:=(a.cell (p:=⟨b,_+1,_⟩) l).trans h1;have t:=(a.cell (p:=⟨j,_+1,_⟩) g).trans x;have c2:=(a.cell (p:=⟨b,_+2,_⟩) l).trans h2;have u:=(a.cell (p:=⟨j,_+2,_⟩) g).trans y;have c3:=(a.cell (p:=⟨b,_+3,_⟩) l).trans h3;have v:=(a.cell (p:=⟨j,_+3,_⟩) g).trans z;clear o m h1 x h2 y h3 z;have h:b<wr.heap.size:=Nat.lt_of_lt_of_le l a.size;have d:j<wr.heap.size:=Nat.lt_of_lt_of_le g a.size;have i1:(0:Int)<=(k:Int):=by omega
   have i2:(k:Int)<(n:Int):=by omega
   go_wp2;go_region_held3 (λw'=>w'.cell? (b,off+k*4)=some (S k).who/\w'.cell? (b,off+k*4+1)=some (S k).ln/\w'.cell? (b,off+k*4+2)=some (S k).len/\w'.cell? (b,off+k*4+3)=some (S k).hei/\w'.cell? (j,f+k*4)=some (S k).who/\w'.cell? (j,f+k*4+1)=some (S k).ln/\w'.cell? (j,f+k*4+2)=some (S k).len/\w'.cell? (j,f+k*4+3)=some (S k).hei)
    (first|exact⟨r,c1,c2,c3,s,t,u,v⟩|exact⟨(c.cell h).trans r,(c.cell h).trans c1,(c.cell h).trans c2,(c.cell h).trans c3,(c.cell d).trans s,(c.cell d).trans t,(c.cell d).trans u,(c.cell d).trans v⟩)
    (first|(go_at_call 257;refine(zlq _ _ _ _ _).mono ?_;rintro e w2 ⟨rfl,c⟩))
   go_wp2;go_roundw
   case rel=>exact⟨k+1,by omega,by go_num,ze a.drew c⟩
   case measure=>simp[intOf];omega
  ·go_wp2
   go_ret;exact⟨rfl,a⟩
theorem zls (a:Option Addr)(n c:Nat)(L:Int)(w:World)(h0:0<=L)(hL:L<=1048576)(hn:n<=1000000000000000) :
  Calls prog 143 #[(a,n,c),L] w λe w'=>∃ r:Int,e=.returned r/\(r=-1∨(0<=r/\r<=L/\n<=1048576))/\Below w.heap.size w w':=by
 by_cases h:(n:Int)<=L
 ·go_enter func143,ntmps143
  go_wp2;go_ret;exact⟨_,rfl,.inr ⟨by omega,by omega,by omega⟩,bZ⟩
 ·go_enter func143,ntmps143
  go_wp2;go_ret;exact⟨_,rfl,.inl rfl,bZ⟩
end Go.Proofs.YtmdnjgihooflfaaGreatDoor
