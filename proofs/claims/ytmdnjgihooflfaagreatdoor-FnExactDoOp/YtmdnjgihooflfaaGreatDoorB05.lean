import Derived.Lib.AppendZeros
import Derived.Lib.SliceRun
import Derived.Deep.RegionWith
import Derived.Test.YtmdnjgihooflfaaGreatDoorChecked
import Derived.LaidEql
import Derived.Stop.Asserts
import Derived.RowKitTokens
import Derived.Shelf.Abstract
import Derived.Deep.Slices
import Derived.Test.YtmdnjgihooflfaaGreatDoorB00
namespace Go.Proofs.YtmdnjgihooflfaaGreatDoor
open Go.RowKit
open Go.Value (int)
open Go.IntKind (i64)
open _root_.Go.Proofs.Tryz
set_option maxHeartbeats 64000000
set_option maxRecDepth 1000000
variable{w w':World}{base t sz b n g:Nat}
theorem RA (a u:Int)(w:World) :
  Calls prog 227 #[.agg #[a,u]] w λe w'=>e=.returned (.agg #[a,u])/\Below w w w':=by
 go_enter func227,ntmps227;go_wp2;exact Jj (by simp[results,results227,go_sem]) rfl ⟨rfl,zd (zd (zd bZ _) _) _⟩
theorem OV (a u:Int)(w:World) :
  Calls prog 255 #[.agg #[a,u],.agg #[a,u]] w λe w'=>e=.returned (.bool true)/\Below w w w':=by
 go_enter func255,ntmps255;go_wp2;go_ret;exact⟨rfl,zd (zd bZ _) _⟩
/-- toLaneS: a copy of the pairs in a new row. -/
theorem OW (u:Option Addr)(n q:Nat)(l:zv)(w:World)(y:l.n=n)(hn:n<=1048576)(B:zJ w u l) :
  Calls prog 172 #[(u,n,q)] w λe w'=>∃ g,e=.returned (some (g,0),n,n)/\w.heap.size<=g /\
   w'.rowIs g 223 (n*2) (qj l)/\Below w w w':=by
 obtain⟨C,A,r,s,t⟩:=info_parts Tryz.infoLane;have z:=hI y;clear y;go_enter func172,ntmps172;go_wp2_with (first|(at_make;refine wpList_make_full _ rfl _ _ 137 rfl _ 223 C _ 2 underlying137 A r s _ _ _ _ n rfl rfl rfl rfl (by rw[t];omega) (by unfold maxLen;omega) (Jr _) ?_;intro w1 f d))
 go_loopw [4] (λi wr=>∃ k,k<=n/\i=int i64 k/\wr.rowIs w 223 (n*2) (qj (Ds k l))/\Below w w wr)
  (λi _=>n - (intOf i).toNat)
 case atStart=>exact⟨0,Jq _,rfl,(ZW f).congr (λj x=>Kp n j x),bZ.grown d (Jr _) sM⟩
 case round =>
  obtain⟨k,hk,rfl,o,c⟩:=hrel;clear f d
  by_cases hlt:k<n
  ·obtain⟨b,off,rfl,h1,h2⟩:=B k (by rw[z.out];omega)
   have v:=Ja w _ h1;have c1:=tR c h1 v;have c2:=tR c h2 v;clear h1 h2;go_wp2_with (first|(go_at_call 227;refine bM (RA _ _ _) λw2 p=>?_;have m:=o.of_block (p.block _ o.lt);have o1:=m.cell (i:=k*2) oM;have o2:=m.cell (i:=k*2+1) oM;have f1:=m.frozen (k*2);have f2:=m.frozen (k*2+1)))
   go_roundw
   case rel =>
    refine⟨k+1,by omega,by go_num,?_,?_⟩
    ·have:=OS (p':=Ds _ l) m (λi h=>QJ _ _ _ _ h) (λi h=>QJ _ _ _ _ h)
     simp only[Ds,qi _ _ (Nat.lt_succ_self k)] at this;exact this
    ·exact((zb c p).setCell (Jr _) _).setCell (Jr _) _
   case measure=>simp[intOf];omega
  ·go_wp2
   go_ret;exact⟨_,rfl,Jr _,o.congr (λj x=>by unfold qj Ds;simp only;rw[qi _ _ oM,qi _ _ oM]),c⟩
/-- eqLaneS at two lists that are one. -/
theorem Nu (q bo:Option Addr)(n c1 c2:Nat)(l:zv)(w:World)(u:l.n=n)(hn:n<=1048576)(v:zJ w q l)(x:zJ w bo l) :
  Calls prog 217 #[(q,n,c1),(bo,n,c2)] w λe w'=>e=.returned (.bool true)/\Below w w w':=by
 have p:=hI u;clear u;go_enter func217,ntmps217;go_wp2;go_loopw [5] (λi wr=>∃ k,k<=n/\i=int i64 k/\Below w w wr) (λi _=>n - (intOf i).toNat)
 case atStart=>exact⟨0,Jq _,rfl,bZ⟩
 case round =>
  obtain⟨k,hk,rfl,a⟩:=hrel
  by_cases hlt:k<n
  ·obtain⟨b,off,rfl,h1,h2⟩:=v k (by rw[p.out];omega)
   obtain⟨j,f,rfl,m,t⟩:=x k (by rw[p.out];omega)
   have o:=Ja w _ h1;have g:=Ja w _ m;have c1:=tR a h1 o;have c2:=tR a h2 o;have r:=tR a m g;have s:=tR a t g;clear h1 h2 m t;have h:b<wr.heap.size:=Nat.lt_of_lt_of_le o a.size;have d:j<wr.heap.size:=Nat.lt_of_lt_of_le g a.size;have i1:=n0 k;have i2:(k:Int)<(n:Int):=oM;go_wp2;go_region_held3 (λw'=>w'.cell? (b,off+k*2)=some (l.A k)/\w'.cell? (b,off+k*2+1)=some (l.B k)/\w'.cell? (j,f+k*2)=some (l.A k)/\w'.cell? (j,f+k*2+1)=some (l.B k))
    (first|exact⟨c1,c2,r,s⟩|exact⟨tR c c1 h,tR c c2 h,tR c r d,tR c s d⟩)
    (first|(go_at_call 255;refine bM (OV _ _ _) λw2 c=>?_))
   go_wp2;go_roundw
   case rel=>exact⟨k+1,by omega,by go_num,zb a.drew c⟩
   case measure=>simp[intOf];omega
  ·go_wp2
   go_ret;exact⟨rfl,a⟩
theorem OX (a:Option Addr)(n c:Nat)(L:Int)(w:World)(h0:0<=L)(hL:L<=1048576)(hn:n<=1000000000000000) :
  Calls prog 141 #[(a,n,c),L] w λe w'=>∃ r:Int,e=.returned r/\(r=-1∨(0<=r/\r<=L/\n<=1048576))/\Below w w w':=by
 by_cases h:(n:Int)<=L
 ·go_enter func141,ntmps141
  go_wp2;go_ret;exact⟨_,rfl,.inr ⟨by omega,by omega,by omega⟩,bZ⟩
 ·go_enter func141,ntmps141
  go_wp2;go_ret;exact⟨_,rfl,.inl rfl,bZ⟩
theorem OY (a u:Int)(w:World) :
  Calls prog 228 #[.agg #[a,u]] w λe w'=>e=.returned (.agg #[a,u])/\Below w w w':=by
 go_enter func228,ntmps228;go_wp2;exact Jj (by simp[results,results228,go_sem]) rfl ⟨rfl,zd (zd (zd bZ _) _) _⟩
theorem Nv (a u:Int)(w:World) :
  Calls prog 256 #[.agg #[a,u],.agg #[a,u]] w λe w'=>e=.returned (.bool true)/\Below w w w':=by
 go_enter func256,ntmps256;go_wp2;go_ret;exact⟨rfl,zd (zd bZ _) _⟩
/-- toCabinS: a copy of the pairs in a new row. -/
theorem Nw (u:Option Addr)(n q:Nat)(l:zv)(w:World)(y:l.n=n)(hn:n<=1048576)(B:zJ w u l) :
  Calls prog 173 #[(u,n,q)] w λe w'=>∃ g,e=.returned (some (g,0),n,n)/\w.heap.size<=g /\
   w'.rowIs g 231 (n*2) (qj l)/\Below w w w':=by
 obtain⟨C,A,r,s,t⟩:=info_parts Tryz.infoCabin;have z:=hI y;clear y;go_enter func173,ntmps173;go_wp2_with (first|(at_make;refine wpList_make_full _ rfl _ _ 138 rfl _ 231 C _ 2 underlying138 A r s _ _ _ _ n rfl rfl rfl rfl (by rw[t];omega) (by unfold maxLen;omega) (Jr _) ?_;intro w1 f d))
 go_loopw [4] (λi wr=>∃ k,k<=n/\i=int i64 k/\wr.rowIs w 231 (n*2) (qj (Ds k l))/\Below w w wr)
  (λi _=>n - (intOf i).toNat)
 case atStart=>exact⟨0,Jq _,rfl,(ZW f).congr (λj x=>Kp n j x),bZ.grown d (Jr _) sM⟩
 case round =>
  obtain⟨k,hk,rfl,o,c⟩:=hrel;clear f d
  by_cases hlt:k<n
  ·obtain⟨b,off,rfl,h1,h2⟩:=B k (by rw[z.out];omega)
   have v:=Ja w _ h1;have c1:=tR c h1 v;have c2:=tR c h2 v;clear h1 h2;go_wp2_with (first|(go_at_call 228;refine bM (OY _ _ _) λw2 p=>?_;have m:=o.of_block (p.block _ o.lt);have o1:=m.cell (i:=k*2) oM;have o2:=m.cell (i:=k*2+1) oM;have f1:=m.frozen (k*2);have f2:=m.frozen (k*2+1)))
   go_roundw
   case rel =>
    refine⟨k+1,by omega,by go_num,?_,?_⟩
    ·have:=OS (p':=Ds _ l) m (λi h=>QJ _ _ _ _ h) (λi h=>QJ _ _ _ _ h)
     simp only[Ds,qi _ _ (Nat.lt_succ_self k)] at this;exact this
    ·exact((zb c p).setCell (Jr _) _).setCell (Jr _) _
   case measure=>simp[intOf];omega
  ·go_wp2
   go_ret;exact⟨_,rfl,Jr _,o.congr (λj x=>by unfold qj Ds;simp only;rw[qi _ _ oM,qi _ _ oM]),c⟩
/-- eqCabinS at two lists that are one. -/
theorem LK (q bo:Option Addr)(n c1 c2:Nat)(l:zv)(w:World)(u:l.n=n)(hn:n<=1048576)(v:zJ w q l)(x:zJ w bo l) :
  Calls prog 218 #[(q,n,c1),(bo,n,c2)] w λe w'=>e=.returned (.bool true)/\Below w w w':=by
 have p:=hI u;clear u;go_enter func218,ntmps218;go_wp2;go_loopw [5] (λi wr=>∃ k,k<=n/\i=int i64 k/\Below w w wr) (λi _=>n - (intOf i).toNat)
 case atStart=>exact⟨0,Jq _,rfl,bZ⟩
 case round =>
  obtain⟨k,hk,rfl,a⟩:=hrel
  by_cases hlt:k<n
  ·obtain⟨b,off,rfl,h1,h2⟩:=v k (by rw[p.out];omega)
   obtain⟨j,f,rfl,m,t⟩:=x k (by rw[p.out];omega)
   have o:=Ja w _ h1;have g:=Ja w _ m;have c1:=tR a h1 o;have c2:=tR a h2 o;have r:=tR a m g;have s:=tR a t g;clear h1 h2 m t;have h:b<wr.heap.size:=Nat.lt_of_lt_of_le o a.size;have d:j<wr.heap.size:=Nat.lt_of_lt_of_le g a.size;have i1:=n0 k;have i2:(k:Int)<(n:Int):=oM;go_wp2;go_region_held3 (λw'=>w'.cell? (b,off+k*2)=some (l.A k)/\w'.cell? (b,off+k*2+1)=some (l.B k)/\w'.cell? (j,f+k*2)=some (l.A k)/\w'.cell? (j,f+k*2+1)=some (l.B k))
    (first|exact⟨c1,c2,r,s⟩|exact⟨tR c c1 h,tR c c2 h,tR c r d,tR c s d⟩)
    (first|(go_at_call 256;refine bM (Nv _ _ _) λw2 c=>?_))
   go_wp2;go_roundw
   case rel=>exact⟨k+1,by omega,by go_num,zb a.drew c⟩
   case measure=>simp[intOf];omega
  ·go_wp2
   go_ret;exact⟨rfl,a⟩
theorem Nx (a:Option Addr)(n c:Nat)(L:Int)(w:World)(h0:0<=L)(hL:L<=1048576)(hn:n<=1000000000000000) :
  Calls prog 142 #[(a,n,c),L] w λe w'=>∃ r:Int,e=.returned r/\(r=-1∨(0<=r/\r<=L/\n<=1048576))/\Below w w w':=by
 by_cases h:(n:Int)<=L
 ·go_enter func142,ntmps142
  go_wp2;go_ret;exact⟨_,rfl,.inr ⟨by omega,by omega,by omega⟩,bZ⟩
 ·go_enter func142,ntmps142
  go_wp2;go_ret;exact⟨_,rfl,.inl rfl,bZ⟩
theorem LL (x d a mo:Int)(fr tt:ByteArray)(lo i:Option Addr)(n m c1 c2:Nat)(L:Int)(w:World)(h0:0<=L)(hL:L<=1048576)(hf:fr.size<=1000000000000000)(ht:tt.size<=1000000000000000)(u:n<=1000000000000000)(t:m<=1000000000000000) :
  Calls prog 78 #[.agg #[x,fr,tt,d,a,(lo,n,c1),(i,m,c2),mo],L] w λe w'=>∃ r:Int,e=.returned r/\(r=-1∨(0<=r/\r<=L/\fr.size<=1048576/\tt.size<=1048576/\n<=1048576/\m<=1048576))/\Below w w w':=by
 have b:Below _ w (w.alloc (.cells #[x,fr,tt,d,a,(lo,n,c1),(i,m,c2),mo] 126)):=zd bZ _;have g:=Jb w (.cells #[x,fr,tt,d,a,(lo,n,c1),(i,m,c2),mo] 126)
 by_cases g1:(fr.size:Int)<=L
 ·by_cases g2:(tt.size:Int)<=L - fr.size
  ·have j:decide (L - (fr.size:Int)<0)=false:=by simp;omega
   have l:decide (L - (fr.size:Int) - (tt.size:Int)<0)=false:=by simp;omega
   go_enter func78,ntmps78;go_wp2_with fail;refine(OX lo n c1 _ _ oM oM u).mono ?_;rintro e w1 ⟨r,rfl,hr,c⟩;have k:=za g c;have f:=zb b c;clear g b c j l
   rcases hr with rfl|⟨o,r1,y⟩
   ·go_wp2
    go_ret;exact⟨_,rfl,.inl rfl,f⟩
   ·have q:=bC k 6
    have d0:decide (r<0)=false:=by simpa using o
    go_wp2_with fail;refine(Nx i m c2 r _ o oM t).mono ?_;rintro e w2 ⟨s,rfl,v,h⟩
    rcases v with rfl|⟨p,s1,z⟩
    ·go_wp2
     go_ret;exact⟨_,rfl,.inl rfl,zb f h⟩
    ·have d1:decide (s<0)=false:=by simpa using p
     go_wp2;go_ret;exact⟨_,rfl,.inr ⟨p,by omega,by omega,by omega,y,z⟩,zb f h⟩
  ·have j:decide (L - (fr.size:Int)<0)=false:=by simp;omega
   have l:decide (L - (fr.size:Int) - (tt.size:Int)<0)=true:=by simp;omega
   go_enter func78,ntmps78;go_wp2;go_ret;exact⟨_,rfl,.inl rfl,b⟩
 ·have j:decide (L - (fr.size:Int)<0)=true:=by simp;omega
  go_enter func78,ntmps78;go_wp2;go_ret;exact⟨_,rfl,.inl rfl,b⟩
theorem LM (x d a mo:Int)(fr tt:ByteArray)(lo t:Option Addr)(n m c1 c2:Nat)(s y:zv)(w:World)(e1:s.n=n)(e2:y.n=m)(hn:n<=1048576)(hm:m<=1048576)(hx:zJ w lo s)(hy:zJ w t y) :
  Calls prog 94 #[.agg #[x,fr,tt,d,a,(lo,n,c1),(t,m,c2),mo]] w λe w'=>∃ p q,e=.returned (.agg #[x,fr,tt,d,a,(some (p,0),n,n),(some (q,0),m,m),mo])/\w.heap.size<=p/\p<q /\
   w'.rowIs p 223 (n*2) (qj s)/\w'.rowIs q 231 (m*2) (qj y)/\Below w w w':=by
 have E1:=hI e1;have E2:=hI e2;clear e1 e2;go_enter func94,ntmps94;go_wp2_with fail;obtain⟨H,c⟩:=nM ((((w.alloc (.cells #[x,fr,tt,d,a,(lo,n,c1),(t,m,c2),mo] 126)).alloc (.cells #[(),False,False,(),(),True,True,()] 140)).alloc (.cells #[x,fr,tt,d,a,True,True,()] 140)));have K:Below w w H:=by rw[c];exact zd (zd (zd bZ _) _) _
 have A0:H.heap[w.heap.size]?=some (.cells #[x,fr,tt,d,a,(lo,n,c1),(t,m,c2),mo] 126 (0,0)):=by rw[c];exact zg (zg (Jb w _) _) _
 have R0:H.heap[w.heap.size+1]?=some (.cells #[(),False,False,(),(),True,True,()] 140 (0,0)):=by rw[c];exact zg (by simpa using Jb (w.alloc _) _) _
 have J:H.heap[w.heap.size+1+1]?=some (.cells #[x,fr,tt,d,a,True,True,()] 140 (0,0)):=by rw[c];simpa using Jb ((w.alloc _).alloc _) _
 rw[← c];clear c;refine(OW lo n c1 s _ E1 hn (hx.j0 K)).mono ?_;rintro e w1 ⟨g,rfl,hg,j,h⟩;have I:=za A0 h;have R1:=za R0 h;have G:=za J h;have D:=zb K h;have a0:w.heap.size+1+1<g:=by have:=zD J;omega
 clear K A0 R0 J h hg;have R:=bC I 6;have S:=bC G 5;have T:=zc G 5;go_wp2_with fail;obtain⟨W,k⟩:=nM (w1.setCell (w.heap.size+1+1,5) (some (g,0),n,n));have A2:W.heap[w.heap.size]?=some (.cells #[x,fr,tt,d,a,(lo,n,c1),(t,m,c2),mo] 126 (0,0)):=by rw[k];exact zG I _ _ oM
 have r2:W.heap[w.heap.size+1]?=some (.cells #[(),False,False,(),(),True,True,()] 140 (0,0)):=by rw[k];exact zG R1 _ _ oM
 have o2:W.heap[w.heap.size+1+1]?=some (.cells #[x,fr,tt,d,a,(some (g,0),n,n),True,()] 140 (0,0)):=by rw[k];exact zk G 5 _
 have b:W.rowIs g 223 (n*2) (qj s):=by rw[k];exact j.setOther (by show g≠_+1;omega) _
 have l:Below w w W:=by rw[k];exact D.setCell (by show w.heap.size<=_+1;omega) _
 rw[← k];clear k R S T j D I R1 G;refine(Nw t m c2 y _ E2 hm (hy.j0 l)).mono ?_;rintro e w2 ⟨i,rfl,O,o,f⟩;have A3:=za A2 f;have U:=za r2 f;have Q:=za o2 f;have r:=qo b f;have E:=zb l f;have P:g<i:=by have:=b.lt;omega
 clear f r2 o2 b l O A2;have qa:=bC A3 7;obtain⟨q0,R,S,T,q4,q5,q6,q7⟩:=ju Q;have f6:=zc Q 6;have f7:=zc Q 7;obtain⟨y0,y1,y2,y3,y4,y5,y6,y7⟩:=ju U;obtain⟨X,Y,Z,z3,z4,z5,z6,z7⟩:=fe8 U;go_wp2;clear qa q0 R S T q4 q5 q6 q7 f6 f7 X Y Z z3 z4 z5 z6 z7 y0 y1 y2 y3 y4 y5 y6 y7;obtain⟨V,v⟩:=nM ((w2.setCell (w.heap.size+1+1,6) (some (i,0),m,m)).setCell (w.heap.size+1+1,7) mo);have rV:V.heap[w.heap.size+1]?=some (.cells #[(),False,False,(),(),True,True,()] 140 (0,0)):=by rw[v];exact zG (zG U _ _ oM) _ _ oM
 have A:V.rowIs g 223 (n*2) (qj s):=by rw[v];exact(r.setOther (by show g≠_+1;omega) _).setOther (by show g≠_+1;omega) _
 have B:V.rowIs i 231 (m*2) (qj y):=by rw[v];exact(o.setOther (by show i≠_+1;omega) _).setOther (by show i≠_+1;omega) _
 have C:Below w w V:=by rw[v];exact(E.setCell (by show w.heap.size<=_+1;omega) _).setCell (by show w.heap.size<=_+1;omega) _
 rw[← v];obtain⟨F,u⟩:=nM (ER V (w.heap.size+1) 0 x fr tt d a (some (g,0),n,n) (some (i,0),m,m) mo);have rF:=OT (v0:=int i64 x) (v1:=.string fr) (v2:=.string tt) (v3:=int i64 d) (v4:=int i64 a) (v5:=.slice (some (g,0)) n n) (v6:=.slice (some (i,0)) m m) (v7:=int i64 mo) rV;rw[← u] at rF;have L:F.rowIs g 223 (n*2) (qj s):=by rw[u];exact DR A oM
 have M:F.rowIs i 231 (m*2) (qj y):=by rw[u];exact DR B oM
 have N:Below w w F:=by rw[u];exact Gc C oM
 have z:F=(((((((V.setCell (w.heap.size+1,0) x).setCell (w.heap.size+1,1) fr).setCell (w.heap.size+1,2) tt).setCell (w.heap.size+1,3) d).setCell (w.heap.size+1,4) a).setCell (w.heap.size+1,5) (some (g,0),n,n)).setCell (w.heap.size+1,6) (some (i,0),m,m)).setCell (w.heap.size+1,7) mo:=by rw[u];unfold ER;rfl
 rw[← z];clear u z v rV A B C;obtain⟨X,Y,Z,z3,z4,z5,z6,z7⟩:=ju rF;exact Jj (by simp[results,results94,go_sem,X,Y,Z,z3,z4,z5,z6,z7]) rfl ⟨g,i,rfl,by omega,P,L,M,N⟩
theorem Kt (x d a mo:Int)(fr tt:ByteArray)(lo i lo' b:Option Addr)(n m c1 c2 c3 c4:Nat)(k l:zv)(w:World)(r:k.n=n)(s:l.n=m)(y:n<=1048576)(v:m<=1048576)
  (z:zJ w lo k) (A:zJ w i l) (p:zJ w lo' k) (q:zJ w b l) :
  Calls prog 123 #[.agg #[x,fr,tt,d,a,(lo,n,c1),(i,m,c2),mo],.agg #[x,fr,tt,d,a,(lo',n,c3),(b,m,c4),mo]] w λe w'=>e=.returned (.bool true)/\Below w w w':=by
 have t:=hI r;have u:=hI s;clear r s;have j:Below _ w ((w.alloc (.cells #[x,fr,tt,d,a,(lo,n,c1),(i,m,c2),mo] 140)).alloc (.cells #[x,fr,tt,d,a,(lo',n,c3),(b,m,c4),mo] 140)):=zd (zd bZ _) _;go_enter func123,ntmps123;go_wp2_with fail;refine bM (Nu lo lo' n c1 c3 k _ t y (z.j0 j) (p.j0 j)) λF c=>?_
 have h:=za (zg (Jb w _) _) c;have o:F.heap[w.heap.size+1]?=_:=za (by simpa using Jb (w.alloc _) _) c
 have f:=zb j c;clear j c;have B:=bC h 6;have C:=bC o 6;have D:=bC h 7;have E:=bC o 7;go_wp2_with fail;refine bM (LK i b m c2 c4 l _ u v (A.j0 f) (q.j0 f)) λw2 g=>?_
 have q5:=bC (za h g) 7;have q6:=bC (za o g) 7;clear B C D E h o;go_wp2;go_ret;exact⟨rfl,zb f g⟩
theorem LN (m:Option Addr)(N c:Nat)(S:Nat->qe)(w:World)(hN:N<=1000000000000000)(u:Qz N S 1000000000000000)(C:qy w m N S) :
  Calls prog 38 #[(m,N,c),int i64 1048576] w λe w'=>∃ r:Int,e=.returned r/\(r=-1∨(0<=r/\r<=1048576/\N<=1048576/\Qz N S 1048576))/\Below w w w':=by
 have z:=hI u;clear u
 by_cases hf:N<=1048576
 ·have n:decide ((1048576:Int) - (N:Int)<0)=false:=by simp;omega
  go_enter func38,ntmps38;go_wp2;go_loopw [1,5] (λl i wr=>∃ (k:Nat) (L:Int),k<=N/\i=int i64 k/\l=int i64 L/\0<=L/\L<=1048576/\Qz k S 1048576/\Below w w wr) (λ_ i _=>N - (intOf i).toNat)
  case atStart=>exact⟨0,_,Jq _,rfl,rfl,by omega,by omega,λi B=>by omega,bZ⟩
  case round =>
   obtain⟨k,L,hk,rfl,rfl,v,x,f,a⟩:=hrel;have j:=hI f;clear f n
   by_cases hlt:k<N
   ·obtain⟨b,off,la,lc,ca,cc,rfl,o,h1,h2,h3,p,q,s,t,h8,h9,g,h⟩:=C k hlt
    have A:=Ja w _ h1;obtain⟨c0,c1,c2,c3,c4,c5,c6,c7⟩:=OR a o h1 h2 h3 p q s t A;obtain⟨H,I,J,K⟩:=z k hlt;clear o h1 h2 h3 p q s t h8 h9 g h;go_wp2_with fail;refine(LL _ _ _ _ _ _ _ _ _ _ _ _ L _ v x H I J K).mono ?_;rintro e w2 ⟨r,rfl,hr,d⟩
    rcases hr with rfl|⟨y,r1,D,E,F,G⟩
    ·go_wp2
     go_ret;exact⟨_,rfl,.inl rfl,zb a d⟩
    ·have d1:decide (r<0)=false:=by simpa using y
     go_wp2;go_roundw
     case rel =>
      refine⟨k+1,r,by omega,by go_num,rfl,y,by omega,λi B=>?_,zb a d⟩
      by_cases e:i=k
      ·subst e;exact⟨D,E,F,G⟩
      ·exact j i oM
     case measure=>simp[intOf];omega
   ·obtain rfl:k=N:=by omega
    go_wp2;go_ret;exact⟨_,rfl,.inr ⟨v,x,hf,j⟩,a⟩
 ·have n:decide ((1048576:Int) - (N:Int)<0)=true:=by simp;omega
  go_enter func38,ntmps38;go_wp2;go_ret;exact⟨_,rfl,.inl rfl,bZ⟩
/-- toSailingS: a copy of the sailings, each list in a row of its own. -/
theorem Ku (z:Option Addr)(N r:Nat)(S:Nat->qe)(w:World)(hN:N<=1048576)(G:Qz N S 1048576)(K:qy w z N S) :
  Calls prog 45 #[(z,N,r)] w λe w'=>∃ g l c,e=.returned (some (g,0),N,N)/\Af w' 140 223 231 N w.heap.size g N S l c/\Below w w w':=by
 obtain⟨L,p,v,x,y⟩:=info_parts Tryz.infoSailing;have H:=hI G;clear G;go_enter func45,ntmps45;go_wp2_with (first|(at_make;refine wpList_make_full _ rfl _ _ 34 rfl _ 140 L _ 8 underlying34 p v x _ _ _ _ N rfl rfl rfl rfl (by rw[y];omega) (by unfold maxLen;omega) (Jr _) ?_;intro w1 n h))
 go_loopw [4] (λi wr=>∃ (k:Nat) (l c:_),k<=N/\i=int i64 k/\Af wr 140 223 231 k w.heap.size w.heap.size N S l c/\Below w w wr)
  (λi _=>N - (intOf i).toNat)
 case atStart=>exact⟨0,λ_=>0,λ_=>0,Jq _,rfl,⟨(ZW n).congr (λj F=>Kq N j F),Jr _,λi p=>by omega,λi p=>by omega,λi j _ F=>by omega⟩,bZ.grown h (Jr _) sM⟩
 case round =>
  obtain⟨k,l,c,hk,rfl,m,f⟩:=hrel;clear n h
  by_cases hlt:k<N
  ·obtain⟨b,off,la,lc,ca,cc,rfl,A,h1,h2,h3,B,C,D,E,h8,h9,t,u⟩:=K k hlt
   have J:=Ja w _ h1;obtain⟨I,c1,c2,c3,c4,c5,c6,c7⟩:=OR f A h1 h2 h3 B C D E J;obtain⟨_,_,P,Q⟩:=H k hlt;clear A h1 h2 h3 B C D E t u;go_wp2_with fail;refine(LM _ _ _ _ _ _ _ _ _ _ _ _ _ _ _ rfl rfl P Q (h8.j0 f) (h9.j0 f)).mono ?_;rintro e w2 ⟨a,b',rfl,ga,s,M,O,o⟩;have d:=m.j0 o;have o0:=d.row.cell (i:=k*8) oM;have o1:=d.row.cell (i:=k*8+1) oM;have o2:=d.row.cell (i:=k*8+2) oM;have o3:=d.row.cell (i:=k*8+3) oM;have o4:=d.row.cell (i:=k*8+4) oM;have o5:=d.row.cell (i:=k*8+5) oM;have o6:=d.row.cell (i:=k*8+6) oM;have o7:=d.row.cell (i:=k*8+7) oM;have f0:=d.row.frozen (k*8);have f1:=d.row.frozen (k*8+1);have f2:=d.row.frozen (k*8+2);have f3:=d.row.frozen (k*8+3);have f4:=d.row.frozen (k*8+4);have f5:=d.row.frozen (k*8+5);have f6:=d.row.frozen (k*8+6);have f7:=d.row.frozen (k*8+7);clear I c1 c2 c3 c4 c5 c6 c7 h8 h9;go_wp2;go_roundw
   case rel =>
    have hg:=m.row.lt;have q:=d.step oM s (λi p=>by have:=(m.P i p).2.lt;omega) M O
    unfold ER Zw at q;exact⟨_,_,_,by omega,by go_num,q,(((((((((zb f o).setCell (Jr _) _).setCell (Jr _) _).setCell (Jr _) _).setCell (Jr _) _).setCell (Jr _) _).setCell (Jr _) _).setCell (Jr _) _).setCell (Jr _) _)⟩
   case measure=>simp[intOf];omega
  ·obtain rfl:k=N:=by omega
   go_wp2;go_ret;exact⟨_,l,c,rfl,m,f⟩
/-- eqSailingS at two lists that are one. -/
theorem IW (B bo:Option Addr)(N c1 c2:Nat)(S:Nat->qe)(w:World)(hN:N<=1048576)(Z:Qz N S 1048576)(hx:qy w B N S)(hy:qy w bo N S) :
  Calls prog 57 #[(B,N,c1),(bo,N,c2)] w λe w'=>e=.returned (.bool true)/\Below w w w':=by
 have HS:=hI Z;clear Z;go_enter func57,ntmps57;go_wp2;go_loopw [5] (λi wr=>∃ k,k<=N/\i=int i64 k/\Below w w wr) (λi _=>N - (intOf i).toNat)
 case atStart=>exact⟨0,Jq _,rfl,bZ⟩
 case round =>
  obtain⟨k,hk,rfl,c⟩:=hrel
  by_cases hlt:k<N
  ·obtain⟨b,off,la,lc,ca,cc,rfl,T,h1,h2,h3,U,V,W,X,h8,h9,_,_⟩:=hx k hlt
   obtain⟨h,f,q,r,l,m,rfl,K,n,L,M,O,P,Q,R,o,p,_,_⟩:=hy k hlt;have Y:=Ja w _ h1;have j:=Ja w _ n;obtain⟨s,t,u,v,x,y,z,A⟩:=OR c T h1 h2 h3 U V W X Y;obtain⟨C,D,E,F,G,H,I,J⟩:=OR c K n L M O P Q R j;obtain⟨_,_,s3,s4⟩:=HS k hlt;have h8:=h8.j0 c.drew;have h9:=h9.j0 c.drew;have o:=o.j0 c.drew;have p:=p.j0 c.drew;clear T h1 h2 h3 U V W X K n L M O P Q R;have g:b<wr.heap.size:=Nat.lt_of_lt_of_le Y c.size;have d:h<wr.heap.size:=Nat.lt_of_lt_of_le j c.size;have i1:=n0 k;have i2:(k:Int)<(N:Int):=oM;go_wp2;go_region_held3 (λw'=>(w'.cell? (b,off+k*8)=some (S k).S/\w'.cell? (b,off+k*8+1)=some (S k).U/\w'.cell? (b,off+k*8+2)=some (S k).dst/\w'.cell? (b,off+k*8+3)=some (S k).O/\w'.cell? (b,off+k*8+4)=some (S k).T/\w'.cell? (b,off+k*8+5)=some (la,(S k).la.n,lc)/\w'.cell? (b,off+k*8+6)=some (ca,(S k).M.n,cc)/\w'.cell? (b,off+k*8+7)=some (S k).N) /\
     (w'.cell? (h,f+k*8)=some (S k).S/\w'.cell? (h,f+k*8+1)=some (S k).U/\w'.cell? (h,f+k*8+2)=some (S k).dst/\w'.cell? (h,f+k*8+3)=some (S k).O/\w'.cell? (h,f+k*8+4)=some (S k).T/\w'.cell? (h,f+k*8+5)=some (q,(S k).la.n,r)/\w'.cell? (h,f+k*8+6)=some (l,(S k).M.n,m)/\w'.cell? (h,f+k*8+7)=some (S k).N))
    (first|exact⟨⟨s,t,u,v,x,y,z,A⟩,⟨C,D,E,F,G,H,I,J⟩⟩|exact⟨⟨tR a s g,tR a t g,tR a u g,tR a v g,tR a x g,tR a y g,tR a z g,tR a A g⟩,⟨tR a C d,tR a D d,tR a E d,tR a F d,tR a G d,tR a H d,tR a I d,tR a J d⟩⟩)
    (first|(go_at_call 123;refine bM (Kt _ _ _ _ _ _ _ _ _ _ _ _ _ _ _ _ _ _ _ rfl rfl s3 s4 h8 h9 o p) λw2 a=>?_))
   go_wp2;go_roundw
   case rel=>exact⟨k+1,by omega,by go_num,zb c.drew a⟩
   case measure=>simp[intOf];omega
  ·go_wp2
   go_ret;exact⟨rfl,c⟩
theorem Ij (g bo:Option Addr)(n c1 c2:Nat)(f:Nat->Int)(w:World)(hn:n<=1048576)(m:zS w g n f)(o:zS w bo n f) :
  Calls prog 26 #[(g,n,c1),(bo,n,c2)] w λe w'=>e=.returned (.bool true)/\Below w w w':=by
 go_enter func26,ntmps26;go_wp2;go_loopw [5] (λi wr=>∃ k,k<=n/\i=int i64 k/\Below w w wr) (λi _=>n - (intOf i).toNat)
 case atStart=>exact⟨0,Jq _,rfl,bZ⟩
 case round =>
  obtain⟨k,hk,rfl,a⟩:=hrel
  by_cases hlt:k<n
  ·obtain⟨b,off,rfl,c⟩:=m k oM
   obtain⟨b2,h,rfl,d⟩:=o k oM;have j:=(a.cell (Ja w _ c)).trans c;have l:=(a.cell (Ja w _ d)).trans d;clear c d;go_wp2;go_quiet (fail);go_wp2;go_roundw
   case rel=>exact⟨k+1,by omega,by go_num,dN a _⟩
   case measure=>simp[intOf];omega
  ·go_wp2
   go_ret;exact⟨rfl,a⟩
/-- toIntS: a copy of the numbers in a new row. -/
theorem Kx (m:Option Addr)(n h:Nat)(f:Nat->Int)(w:World)(hn:n<=1048576)(s:zS w m n f) :
  Calls prog 22 #[(m,n,h)] w λe w'=>∃ g,e=.returned (some (g,0),n,n)/\w.heap.size<=g /\
   w'.rowIs g 3 n (λk=>int i64 (f k))/\Below w w w':=by
 have q:=run_make_row' 27 3 _ 8 underlying27 Tryz.infoInt rfl .i64 .i64 n oM oM;go_enter func22,ntmps22;go_wp2;go_loopw [4] (λi wr=>∃ k,k<=n/\i=int i64 k/\wr.rowIs w 3 n (λj=>if j<k then int i64 (f j) else int i64 0)/\Below w w wr)
  (λi _=>n - (intOf i).toNat)
 case atStart=>exact⟨0,Jq _,rfl,(World.rowIs_made _ _ _ _).congr sM,bZ.alloc (Jr _) _⟩
 case round =>
  obtain⟨k,hk,rfl,c,d⟩:=hrel
  by_cases hlt:k<n
  ·obtain⟨b,off,rfl,l⟩:=(s k oM)
   have o:=(d.cell (Ja w _ l)).trans l;have r:=c.cell hlt;have hf:=c.frozen k;simp only[Nat.lt_irrefl,if_false] at r;clear l;go_wp2;go_roundw
   case rel=>exact⟨_,by omega,by go_num,(c.set k _).congr (λj p=>TD (λj=>Value.int _ _) _ k j),d.setCell (Jr _) _⟩
   case measure=>simp[intOf];omega
  ·go_wp2
   go_ret;exact⟨_,rfl,Jr _,c.congr (λj p=>by rw[Jf oM]),d⟩
theorem Ky (a:Option Addr)(n c:Nat)(L:Int)(w:World)(h0:0<=L)(hL:L<=1048576)(hn:n<=1000000000000000) :
  Calls prog 41 #[.slice a n c,int i64 L] w λe w'=>∃ r:Int,e=.returned (int i64 r)/\(r=-1∨(0<=r/\r<=L/\n<=1048576))/\Below w w w':=by
 by_cases h:(n:Int)<=L
 ·go_enter func41,ntmps41
  go_wp2;go_ret;exact⟨_,rfl,.inr ⟨by omega,by omega,by omega⟩,bZ⟩
 ·go_enter func41,ntmps41
  go_wp2;go_ret;exact⟨_,rfl,.inl rfl,bZ⟩
theorem Ik (pe len hei cl:Int)(all:Bool)(be:Int)(w:World) :
  Calls prog 48 #[.agg #[int i64 pe,int i64 len,int i64 hei,int i64 cl,.bool all,int i64 be]] w λe w'=>e=.returned (.agg #[int i64 pe,int i64 len,int i64 hei,int i64 cl,.bool all,int i64 be])/\Below w w w':=by
 go_enter func48,ntmps48;go_wp2;exact Jj (v:=.agg #[int i64 pe,int i64 len,int i64 hei,int i64 cl,.bool all,int i64 be]) (by simp[results,results48,go_sem]) rfl ⟨rfl,zd (zd (zd bZ _) _) _⟩
theorem Gv (pe len hei cl:Int)(all:Bool)(be:Int)(w:World) :
  Calls prog 61 #[.agg #[int i64 pe,int i64 len,int i64 hei,int i64 cl,.bool all,int i64 be],.agg #[int i64 pe,int i64 len,int i64 hei,int i64 cl,.bool all,int i64 be]] w λe w'=>e=.returned (.bool true)/\Below w w w':=by
 go_enter func61,ntmps61;go_wp2;go_ret;exact⟨rfl,zd (zd bZ _) _⟩
theorem FR (q:Option Addr)(n c:Nat)(p:zv)(w:World)(t:p.n=n)(hn:n<=1048576)(x:zJ w q p) :
  Calls prog 234 #[(q,n,c)] w λe w'=>qH (Bk p 4 1 5000 100 500) e/\Below w w w':=by
 have g:=hI t;clear t
 by_cases h0:n<=4
 ·have r:decide (4<n)=false:=by simp;omega
  go_enter func234,ntmps234;go_wp2;go_loopw [4,10] (λ_ i wr=>∃ k,k<=n/\i=int i64 k/\(∀ j,j<k->In (p.A j) 1 5000/\In (p.B j) 100 500)/\Below w w wr) (λ_ i _=>n - (intOf i).toNat)
  case atStart=>exact⟨0,Jq _,rfl,λj m=>by omega,bZ⟩
  case round =>
   obtain⟨k,hk,rfl,f,d⟩:=hrel;have o:=hI f;clear f r
   by_cases hlt:k<n
   ·obtain⟨b,off,rfl,h1,h2⟩:=x k (by rw[g.out];omega)
    have s:=Ja w _ h1;have c1:=tR d h1 s;have c2:=tR d h2 s;clear h1 h2
    by_cases g1:In (p.A k) 1 5000
    ·have u:=Jd g1
     by_cases g2:In (p.B k) 100 500
     ·have v:=Jd g2
      have l:Hid (_/\_):=⟨g1,g2⟩;clear g1 g2;go_wp2_with (first|(go_at_call 191;refine bM (zx _ _ _ _) λw' a=>?_;have a:=a.symm;subst a))
      go_roundw
      case rel=>exact⟨k+1,by omega,by go_num,λj m=>by
       by_cases e:j=k
       ·subst e;exact l
       ·exact o j oM,zd d _⟩
      case measure=>simp[intOf];omega
     ·have v:=Jc g2
      have l:=hI g2;clear g1 g2;go_wp2_with (first|(go_at_call 191;refine bM (zx _ _ _ _) λw' a=>?_;have a:=a.symm;subst a))
      go_ret;exact⟨zh (λh=>l (h.2 k (by rw[g.out];exact hlt)).2),zd d _⟩
    ·have u:=Jc g1
     have l:=hI g1;clear g1;go_wp2_with (first|(go_at_call 191;refine bM (zx _ _ _ _) λw' a=>?_;have a:=a.symm;subst a))
     go_ret;exact⟨zh (λh=>l (h.2 k (by rw[g.out];exact hlt)).1),zd d _⟩
   ·obtain rfl:k=n:=by omega
    go_wp2;go_ret;exact⟨zN ⟨by rw[g.out];exact h0,λj m=>o j (by rw[g.out] at m;exact m)⟩,d⟩
 ·have r:decide (4<n)=true:=by simp;omega
  go_enter func234,ntmps234;go_wp2;go_ret;exact⟨zh (λh=>by have:=h.1;rw[g.out] at this;exact h0 this),bZ⟩
theorem Og (k:Nat)(w:World)(hk:k<=4194304) :
  Calls prog 294 #[.slice none 0 0,int i64 k] w λe w'=>(∃ v,e=.returned v/\w'.ownsRow w 220 4 v 0 [])/\Below w w w':=by
 have d0:decide ((k:Int)<0)=false:=sM
 by_cases h0:0<k
 ·obtain⟨f,g,b,h,c⟩:=info_parts Tryz.infoStay
  have a:=Lib.run_append_nil_zeros w 141 3 141 220 f _ .i64 _ underlying141 underlying3 g b k h0 oM oM (by rw[c];omega)
  have d1:decide (0<k)=true:=by simpa using h0
  go_enter func294,ntmps294;go_wp2_with (first|(at_builtin;refine Lib.wpList_append_run _ rfl _ _ _ _ rfl _ _ rfl rfl _ _ a ?_))
  go_ret;have d:=grownCap_ge w k 0 220;refine⟨⟨_,rfl,rfl,.inr ⟨_,_,_,rfl,Jr _,Jb w _,Jq _,grownCap_le_maxLen w k 0 _ (by unfold maxLen;omega),?_,rfl⟩⟩,(zd (Ji _ w) _).drew⟩
  rw[Array.size_append,size_zeroCells,size_zeroCells]
  show k*4+_*4=_
  omega
 ·obtain rfl:k=0:=by omega
  go_enter func294,ntmps294;go_wp2;go_ret;exact⟨⟨_,rfl,rfl,.inl ⟨rfl,rfl⟩⟩,bZ⟩
def Fz (n j r:Nat):Nat:=if r=0 then 0 else if r=1 then n else n+j
theorem Sn (O:Nat)(m o:Option Addr)(n j p A:Nat)(S T:Nat->ql)(w:World)(hn:n<=1048576)(B:j<=1048576)
  (k:w.heap[O]?=some (.cells #[.slice m n p,.slice o j A] 141 (0,0))) (K:qx w m n S) (L:qx w o j T) (F:m=none->n=0/\p=0) (G:o=none->j=0/\A=0) :
  Calls prog 288 #[.slice (some ⟨O,0,none⟩) 2 2] w λe w'=>(∃ v,e=.returned v/\w'.ownsRow w 220 4 v (n+j) (zH (QB S n T) (n+j)))/\Below w w w':=by
 obtain⟨M,N,x,y,z⟩:=info_parts Tryz.infoStay;have U:=hI K;have V:=hI L;have P:w.cell? _=some (.slice m n p):=bC k 0;have Q:w.cell? _=some (.slice o j A):=bC k 1;have c0:Fz n j 0=0:=rfl;have c1:Fz n j 1=n:=rfl;have c2:Fz n j 2=n+j:=rfl;have J:zH (QB S n T) n=_:=Da (λi W=>Jf W)
 have I:=hI J;clear K L J;go_enter func288,ntmps288;go_wp2;go_loopg [3,5,11] 2 (λg s _ i wr=>∃ r,r<=2/\g=2 - r/\i=int i64 r/\s=int i64 (Fz n j r)/\wr=w)
 case atStart=>exact⟨0,by omega,rfl,rfl,rfl,rfl⟩
 case round =>
  obtain⟨r,hr,rfl,rfl,rfl,q⟩:=hrel;have t:=q.symm;subst t;clear q;have f:r=0∨r=1∨r=2:=oM
  rcases f with rfl|rfl|rfl
  ·go_wp2
   go_roundg 1
   case measure=>omega
   case rel=>exact⟨1,by omega,rfl,by go_num,by rw[c1],rfl⟩
  ·have hd:decide ((n:Int)+(j:Int)<0)=false:=by simp;omega
   go_wp2;go_roundg 0
   case measure=>omega
   case rel=>exact⟨2,by omega,rfl,by go_num,by rw[c2];go_num,rfl⟩
  ·go_wp2_with fail
   refine(Og _ _ oM).mono ?_;rintro e w1 ⟨⟨v,rfl,H⟩,E⟩;clear P Q;go_wp2;go_loopg [6,8,27] 2 (λg u _ i wr=>∃ r,r<=2/\g=2 - r/\i=int i64 r/\wr.ownsRow w 220 4 u (Fz n j r) (zH (QB S n T) (Fz n j r))/\Below w w wr)
   case atStart=>exact⟨0,by omega,rfl,rfl,H,E⟩
   case round =>
    obtain⟨r,hr,rfl,rfl,l,a⟩:=hrel;obtain⟨R,D⟩:=nM wr;subst D;have c:=a.size;have d:=za k a;have P:R.cell? _=some (.slice m n p):=bC d 0;have Q:R.cell? _=some (.slice o j A):=bC d 1;have f:r=0∨r=1∨r=2:=oM
    rcases f with rfl|rfl|rfl
    ·have C:=hI (AA (U.j0 a))
     go_wp2_with (first|(at_builtin;refine zu _ rfl _ _ 141 rfl _ 220 M _ 4 32 underlying141 N x y z rfl dC _ 0 [] (by rfl) l m n p _ rfl F (Qg _ _) C.out (Ai _ _) (by unfold maxLen;omega) oM c ?_;intro X Y b h))
     go_roundg 1
     case measure=>omega
     case rel=>exact⟨1,by omega,rfl,by go_num,by
      rw[c1];rw[Nat.zero_add,List.nil_append] at b;rw[I.out];exact b,a.grown h c (λj B=>(l.lt j B).1)⟩
    ·have C:=hI (AA (V.j0 a))
     rw[c1,I.out] at l;go_wp2_with (first|(at_builtin;refine zu _ rfl _ _ 141 rfl _ 220 M _ 4 32 underlying141 N x y z rfl dC _ n _ (by rfl) l o j A _ rfl G (Qg _ _) C.out (Ai _ _) (by unfold maxLen;omega) oM c ?_;intro X Y b h))
     go_roundg 0
     case measure=>omega
     case rel=>exact⟨2,by omega,rfl,by go_num,by
      rw[c2,Gq];exact b,a.grown h c (λj B=>(l.lt j B).1)⟩
    ·rw[c2] at l
     go_wp2;go_ret;exact⟨⟨_,rfl,l⟩,a⟩
def FB (p:zv)(cl q:Int):Prop:=∃ j,j<p.n/\p.A j=cl/\q<=p.B j
theorem Oh (n:Option Addr)(m v:Nat)(p:zv)(cl q:Int)(w:World)(r:p.n=m)(hm:m<=1048576)(u:zJ w n p) :
  Calls prog 296 #[(n,m,v),cl,q] w λe w'=>(∃ lst:Int,e=.returned (.iface 379 (.agg #[lst]))/\((lst=q/\FB p cl q)∨(lst=0/\¬ FB p cl q)))/\Below w w w':=by
 have l:=hI r;clear r;go_enter func296,ntmps296;go_wp2;go_loopw [8,11] (λ_ i wr=>∃ k,k<=m/\i=int i64 k/\(∀ j,j<k->¬ (p.A j=cl/\q<=p.B j))/\Below w w wr) (λ_ i _=>m - (intOf i).toNat)
 case atStart=>exact⟨0,Jq _,rfl,λj f=>by omega,bZ⟩
 case round =>
  obtain⟨k,hk,rfl,c,a⟩:=hrel;have g:=hI c;clear c
  by_cases hlt:k<m
  ·obtain⟨b,off,rfl,h1,h2⟩:=u k (by rw[l.out];omega)
   have o:=Ja w _ h1;have c1:=tR a h1 o;have c2:=tR a h2 o;clear h1 h2
   by_cases g1:p.A k=cl
   ·have s:(p.A k == cl)=true:=by simpa using g1
    by_cases g2:q<=p.B k
    ·have t:=Jd g2
     have d:Hid (FB p cl q):=⟨k,by rw[l.out];exact hlt,g1,g2⟩
     clear g1 g2;go_wp2;go_ret;exact⟨⟨q,rfl,.inl ⟨rfl,d⟩⟩,zd a _⟩
    ·have t:=Jc g2
     have d:Hid (¬ (p.A k=cl/\_)):=λh=>g2 h.2
     clear g1 g2;go_wp2;go_roundw
     case rel=>exact⟨k+1,by omega,by go_num,λj f=>by
      by_cases e:j=k
      ·subst e;exact d
      ·exact g j oM,zd a _⟩
     case measure=>simp[intOf];omega
   ·have s:(p.A k == cl)=false:=by simpa using g1
    have d:Hid (¬ (_/\q<=p.B k)):=λh=>g1 h.1
    clear g1;go_wp2;go_roundw
    case rel=>exact⟨k+1,by omega,by go_num,λj f=>by
     by_cases e:j=k
     ·subst e;exact d
     ·exact g j oM,zd a _⟩
    case measure=>simp[intOf];omega
  ·obtain rfl:k=m:=by omega
   have d:Hid (¬ FB p cl q):=λ⟨j,f,h⟩=>g j (by rw[l.out] at f;exact f) h
   go_wp2;go_ret;exact⟨⟨0,rfl,.inr ⟨rfl,d⟩⟩,a⟩
theorem ay (k:Nat)(w:World)(d:0<k)(hk:k<=4194304) :
  Calls prog 287 #[.slice none 0 0,int i64 k] w λe w'=>(∃ v,e=.returned v/\w'.ownsRow w 3 1 v 0 [])/\Below w w w':=by
 obtain⟨g,h,b,i,c⟩:=info_parts Tryz.infoInt;have a:=Lib.run_append_nil_zeros w 27 3 27 3 g _ .i64 _ underlying27 underlying3 h b k d oM oM (by rw[c];omega)
 have d0:decide ((k:Int)<0)=false:=sM;have d1:decide (0<k)=true:=by simpa using d
 go_enter func287,ntmps287;go_wp2_with (first|(at_builtin;refine Lib.wpList_append_run _ rfl _ _ _ _ rfl _ _ rfl rfl _ _ a ?_))
 go_ret;have f:=grownCap_ge w k 0 3;refine⟨⟨_,rfl,rfl,.inr ⟨_,_,_,rfl,Jr _,Jb w _,Jq _,grownCap_le_maxLen w k 0 _ (by unfold maxLen;omega),?_,rfl⟩⟩,(zd (Ji _ w) _).drew⟩
 rw[Array.size_append,size_zeroCells,size_zeroCells]
 show k*1+_*1=_
 omega
def ig (n r:Nat):Nat:=if r=0 then 0 else if r=1 then n else n+1
def mb (a:List Int)(x:Int)(r:Nat):List Int:=if r=0 then [] else if r=1 then a else a++[x]
theorem PT (T O:Nat)(m:Option Addr)(n y:Nat)(c:List Int)(x:Int)(w:World)(I:c.length=n)(hn:n<=1048576)
  (q:w.heap[T]?=some (.cells #[(m,n,y),(some (O,0),1,1)] 27 (0,0))) (P:zS w m n (Pr c)) (Q:w.cell? (O,0)=some (int i64 x)) (L:m=none->n=0/\y=0) :
  Calls prog 275 #[.slice (some ⟨T,0,none⟩) 2 2] w λe w'=>(∃ d c',e=.returned (.slice d (n+1) c')/\w'.ownsRow w 3 1 (.slice d (n+1) c') (n+1) (AB (c++[x])))/\Below w w w':=by
 obtain⟨R,S,C,D,E⟩:=info_parts Tryz.infoInt;have W:=hI I;have N:=Ja w _ Q;have X:Hid (zS w m c.length (Pr c)):=by rw[Hid,I];exact P
 clear I P;have U:w.cell? _=some (m,n,y):=bC q 0;have V:w.cell? _=some (.slice _ 1 1):=bC q 1;have c0:ig n 0=0:=rfl;have c1:ig n 1=n:=rfl;have c2:ig n 2=n+1:=rfl;go_enter func275,ntmps275;go_wp2;go_loopg [3,5,11] 2 (λg s _ i wr=>∃ r,r<=2/\g=2 - r/\i=int i64 r/\s=int i64 (ig n r)/\wr=w)
 case atStart=>exact⟨0,by omega,rfl,rfl,rfl,rfl⟩
 case round =>
  obtain⟨r,hr,rfl,rfl,rfl,A⟩:=hrel;have B:=A.symm;subst B;clear A;have o:r=0∨r=1∨r=2:=oM
  rcases o with rfl|rfl|rfl
  ·go_wp2
   go_roundg 1
   case measure=>omega
   case rel=>exact⟨1,by omega,rfl,by go_num,by rw[c1],rfl⟩
  ·have hd:decide ((n:Int)+1<0)=false:=by simp;omega
   go_wp2;go_roundg 0
   case measure=>omega
   case rel=>exact⟨2,by omega,rfl,by go_num,by rw[c2];go_num,rfl⟩
  ·go_wp2_with fail
   refine(ay (n+1) _ oM oM).mono ?_;rintro e w1 ⟨⟨v,rfl,M⟩,K⟩;clear U V;go_wp2;go_loopg [6,8,27] 2 (λg u _ i wr=>∃ r,r<=2/\g=2 - r/\i=int i64 r/\wr.ownsRow w 3 1 u (ig n r) (AB (mb c x r))/\Below w w wr)
   case atStart=>exact⟨0,by omega,rfl,rfl,M,K⟩
   case round =>
    obtain⟨r,hr,rfl,rfl,t,a⟩:=hrel;obtain⟨F,J⟩:=nM wr;subst J;have k:=a.size;have l:=za q a;have U:F.cell? _=some (m,n,y):=bC l 0;have V:F.cell? _=some (.slice _ 1 1):=bC l 1;have o:r=0∨r=1∨r=2:=oM
    rcases o with rfl|rfl|rfl
    ·have G:=hI (RR (X.j0 a))
     go_wp2_with (first|(at_builtin;refine zu _ rfl _ _ 27 rfl _ 3 R _ 1 8 underlying27 S C D E rfl dC _ 0 [] (by rfl) t m n y _ rfl L (by rw[FN,W.out,Nat.mul_one]) G (KJ c) (by unfold maxLen;omega) oM k ?_;intro Z w3 f p))
     go_roundg 1
     case measure=>omega
     case rel=>exact⟨1,by omega,rfl,by go_num,by
      rw[c1];rw[Nat.zero_add,List.nil_append] at f;exact f,a.grown p k (λj z=>(t.lt j z).1)⟩
    ·have G:Hid (∀ H,(some (O,0):Option Addr)=some H->∀ j u,(AB [x])[j]?=some u->F.cell? (H.add j)=some u):=by
      intro H e j u Y
      cases e
      obtain⟨z,rfl⟩:=Dr _ _ _ _ Y;obtain rfl:=by simpa using z
      exact tR a Q N
     have b:F.ownsRow _ 3 1 u6 n (AB c):=t;clear t;go_wp2_with (first|(at_builtin;refine zu _ rfl _ _ 27 rfl _ 3 R _ 1 8 underlying27 S C D E rfl dC _ n _ (by rfl) b _ 1 1 _ rfl (λh=>(by cases h)) (by rw[FN];rfl) G (KJ _) (by unfold maxLen;omega) oM k ?_;intro Z w3 f p))
     go_roundg 0
     case measure=>omega
     case rel=>exact⟨2,by omega,rfl,by go_num,by
      rw[c2];have:AB (mb c x 2)=_:=LW _ _;rw[this];exact f,a.grown p k (λj z=>(b.lt j z).1)⟩
    ·rw[c2] at t
     have b:F.ownsRow _ 3 1 u6 _ (AB (c++[x])):=t;clear t;obtain⟨d,c',rfl,_⟩:=zn b;go_wp2;go_ret;exact⟨⟨d,c',rfl,b⟩,a⟩
def Hq (a:ByteArray)(t:Int)(fr:ByteArray)(d:Int):Bool:=(fr.toList == a.toList) && decide (t<=d)
theorem Do {a fr:ByteArray}{t d:Int}:Hq a t fr d=true↔fr=a/\t<=d:=by
 unfold Hq;rw[Bool.and_eq_true,Fa,decide_eq_true_iff]
theorem Ls (la:Option Addr)(n l:Nat)(b:ByteArray)(t x d a mo:Int)(fr tt:ByteArray)(lo i:Option Addr)(m o c1 c2:Nat)(w:World) :
  Calls prog 247 #[.agg #[(la,n,l),b,t],.agg #[x,fr,tt,d,a,(lo,m,c1),(i,o,c2),mo]] w λe w'=>e=.returned (.bool (Hq b t fr d))/\Below w w w':=by
 obtain⟨q,g⟩:=nM (Hq b t fr d);rw[← g];have f:=hI g;clear g
 by_cases h1:fr=b
 ·have j:=Fa.2 h1
  have c:=hI h1;clear h1
  by_cases h2:t<=d
  ·have k:decide (t<=d)=true:=by simpa using h2
   go_enter func247,ntmps247;go_wp2;go_ret;exact⟨by rw[f.out,Do.2 ⟨c.out,h2⟩];rfl,zd (zd bZ _) _⟩
  ·have k:decide (t<=d)=false:=by simpa using h2
   go_enter func247,ntmps247;go_wp2;go_ret;exact⟨by rw[f.out,show Hq b t fr d=false from Bool.eq_false_iff.2 (λh=>by have:=(Do.1 h).2;omega)];rfl,zd (zd bZ _) _⟩
 ·have j:=Gu.2 h1
  have c:=hI h1;clear h1;go_enter func247,ntmps247;go_wp2;go_ret;exact⟨by rw[f.out,Bool.eq_false_iff.2 (λh=>c.out (Do.1 h).1)];rfl,zd (zd bZ _) _⟩
theorem ij (la:Option Addr)(n k:Nat)(B:List Int)(O:ByteArray)(t x d a mo:Int)(fr tt:ByteArray)(lo J:Option Addr)(M N c1 c2:Nat)(w:World)(K:B.length=n)(hn:n<=1048576)(L:zS w la n (Pr B))(G:la=none->n=0/\k=0) :
  Calls prog 248 #[.agg #[.slice la n k,.string O,int i64 t],.agg #[int i64 x,.string fr,.string tt,int i64 d,int i64 a,.slice lo M c1,.slice J N c2,int i64 mo]] w λe w'=>∃ ao c,e=.returned (.agg #[.slice ao (n+1) c,.string tt,int i64 a])/\w'.ownsRow w 3 1 (.slice ao (n+1) c) (n+1) (AB (B++[x]))/\Below w w w':=by
 have U:=hI K;clear K;go_enter func248,ntmps248;go_upto_region 1 with fail;have g:(((w.alloc _).alloc (.cells #[x,fr,tt,d,a,(lo,M,c1),(J,N,c2),mo] 140)).alloc (.cells #[True,False,()] 329)).heap[w.heap.size]?=some (.cells #[(la,n,k),O,t] 329 (0,0)):=zg (zg (Jb w _) _) _;have h:=nv g;have s:=nw g;have l:=nu g;have j:=nx g;generalize hW:((w.alloc _).alloc _).alloc _=W at g h s l j ⊢;clear hW;have D:=hI j;clear j;have r:Below _ W (((W.alloc (.cells #[x] 3)).alloc (.cells #[(la,n,k),(some (W.heap.size,0),1,1)] 27)).drew):=(zd (zd (Ji _ W) _) _).drew;have z:(((W.alloc (.cells #[x] 3)).alloc _).drew).heap[W.heap.size+1]?=some (.cells #[(la,n,k),(some (W.heap.size,0),1,1)] 27 (0,0)):=zK (by simpa using Jb (W.alloc _) _)
 have A:(((W.alloc _).alloc (.cells #[(la,n,k),(some (W.heap.size,0),1,1)] 27)).drew).heap[W.heap.size]?=some (.cells #[x] 3 (0,0)):=zK (zg (Jb W _) _);have I:=PT _ _ la n k B x _ U hn z (L.j0 (zb l r)) (bC A 0) G;have T:Hid _:=I;have f:Hid (∀ w',zl W w' (λb=>b=w.heap.size+1+1)->w'.cell? _=some (la,n,k)/\w'.cell? _=some (.int _ x)/\w'.cell? _=some (.string tt)/\w'.cell? _=some (.int _ a)) :=
  λw' v=>⟨bC (v.blk g oM) 0,bC (v.blk h oM) 0,bC (v.blk h oM) 2,bC (v.blk h oM) 4⟩
 have X:Hid (zl W _ (λb=>b=w.heap.size+1+1)):=zl.of_below bZ.drew
 have Y:Hid (∀ o,zl W (W.alloc o) (λb=>b=w.heap.size+1+1)):=λo=>zl.of_below (zd bZ _)
 have E:Hid (∀ o,zl W (W.alloc o).drew (λb=>b=w.heap.size+1+1)):=λo=>zl.of_below (zd bZ _).drew
 have F:Hid (∀ o p,zl W ((W.alloc o).alloc p) (λb=>b=w.heap.size+1+1)):=λo p=>zl.of_below (zd (zd bZ _) _)
 have y:Hid (∀ o p,zl W ((W.alloc o).alloc p).drew (λb=>b=w.heap.size+1+1)):=λo p=>zl.of_below (zd (zd bZ _) _).drew
 have Z:Hid (∀ w',zl W w' (λb=>b=_+1)->∀ u1 u2 u3,zl W (((w'.setCell _ u1).setCell _ u2).setCell _ u3) _):=λw' v u1 u2 u3=>((v.set (a:=⟨_,0,none⟩) rfl _).set (a:=⟨_,1,none⟩) rfl _).set (a:=(w.heap.size+1+1,2)) rfl _
 have P:=bC g 0;have Q:=bC h 0;have R:=bC h 2;have S:=bC h 4;have i:=hI r;have V:=hI s;have C:=hI l;clear I z A r g h s l L;go_region_held3 (λw'=>w'.cell? (w.heap.size,0)=some (la,n,k)/\w'.cell? (w.heap.size+1,0)=some (int i64 x)/\w'.cell? (w.heap.size+1,2)=some (.string tt)/\w'.cell? (w.heap.size+1,4)=some (int i64 a))
  (first|with_reducible exact⟨P,Q,R,S⟩|with_reducible exact f.out _ X.out|with_reducible exact f.out _ (Y.out _)|with_reducible exact f.out _ (E.out _)|with_reducible exact f.out _ (F.out _ _)|with_reducible exact f.out _ (y.out _ _)|with_reducible exact f.out _ (zl.of_below (zb i.out m))|with_reducible exact f.out _ (Z.out _ (zl.of_below (zb i.out m)) _ _ _))
  (first|(go_at_call 275;refine Jm T ?_;rintro e w3 ⟨⟨aC,H,rfl,ho⟩,m⟩;have u:=za V (zb i m);have o0:=bC u 0;have o1:=bC u 1;have o2:=bC u 2;have f0:=zc u 0;have f1:=zc u 1;have f2:=zc u 2))
 go_wp2;clear P Q R S o0 o1 o2 f0 f1 f2;have q:w.heap.size+1+1<(((W.alloc (.cells #[x] 3)).alloc (.cells #[(la,n,k),(some (W.heap.size,0),1,1)] 27)).drew).heap.size:=by
  have h1:=i.size;have h2:=D.out
  omega
 have rF:=zk (zk (zk u 0 (aC,n+1,H)) 1 tt) 2 a;obtain⟨y0,y1,y2⟩:=ZE rF;refine Jj (by simp[results,results248,go_sem,y0,y1,y2]) rfl ⟨aC,H,rfl,?_,?_⟩
 ·exact zo (ZR (ZR (ZR ho (by show _+1<_;exact q) _) (by show _+1<_;exact q) _) (by show _+1<_;exact q) _) oM
 ·have hb:=zb C (zb i m)
  exact((hb.setCell (by show w.heap.size<=_+1;omega) _).setCell (by show w.heap.size<=_+1;omega) _).setCell (by show w.heap.size<=_+1;omega) _
/-- findSailing: where the first sailing with the Id stands, and whether there is one. -/
theorem AY (h:Option Addr)(N c:Nat)(S:Nat->qe)(x:Int)(w:World)(hN:N<=1048576)(u:qy w h N S) :
  Calls prog 198 #[.slice h N c,int i64 x] w λe w'=>((zX S x N<N/\e=.returned (.tuple #[int i64 (zX S x N),.bool true]))∨(zX S x N=N/\e=.returned (.tuple #[int i64 0,.bool false])))/\Below w w w':=by
 go_enter func198,ntmps198;go_wp2;go_loopw [6,7,10] (λ_ _ i wr=>∃ k,k<=N/\i=int i64 k/\(∀ j,j<k->(S j).S≠x)/\Below w w wr) (λ_ _ i _=>N - (intOf i).toNat)
 case atStart=>exact⟨0,Jq _,rfl,λj t=>by omega,bZ⟩
 case round =>
  obtain⟨k,hk,rfl,d,a⟩:=hrel;have g:=hI d;clear d
  by_cases hlt:k<N
  ·obtain⟨b,off,la,lc,ca,cc,rfl,l,h1,h2,h3,m,n,o,p,_,_,_,_⟩:=u k hlt
   have s:=Ja w _ h1;obtain⟨c0,c1,c2,c3,c4,c5,c6,c7⟩:=OR a l h1 h2 h3 m n o p s;clear l h1 h2 h3 m n o p
   by_cases he:(S k).S=x
   ·have r:((S k).S == x)=true:=by simpa using he
    have f:=hI (MZ hlt he g);clear he;go_wp2;exact Jj (v:=.tuple #[int i64 k,.bool true]) (by simp[results,results198,go_sem]) rfl ⟨.inl ⟨by rw[f.out];exact hlt,by rw[f.out]⟩,zd a _⟩
   ·have r:((S k).S == x)=false:=by simpa using he
    have q:Hid (_≠x):=he;clear he;go_wp2;go_roundw
    case rel=>exact⟨k+1,by omega,by go_num,λj t=>by
     by_cases e:j=k
     ·subst e;exact q
     ·exact g j oM,zd a _⟩
    case measure=>simp[intOf];omega
  ·obtain rfl:k=N:=by omega
   have f:=hI (Iw g);go_wp2;exact Jj (by simp[results,results198,go_sem]) rfl ⟨.inr ⟨f,rfl⟩,a⟩
theorem Tryz.infoLane':(Tryz.prog.info? 223).map (λi=>(i.zero,i.size,i.bytes))=some (some (.agg #[(),()]),2,16):=kR
theorem bm (g:Option Addr)(c:Nat)(p:zv)(w:World)(y:p.n<=1048576)(l:zJ w g p)(b:g=none->p.n=0/\c=0) :
  Calls prog 207 #[(g,p.n,c)] w λe w'=>(∃ v,e=.returned v/\w'.ownsRow w 223 2 v p.n (qu p))/\Below w w w':=by
 have qT:∀ (w) (a) (n c s c'),(binOp _ 137 (.slice a n c) _).run _ w=_:=λw a n c s c'=>Lib.run_eql_slice_nil w _ _ a n c s c' underlying137
 cases g with
 |none =>
  obtain⟨i,rfl⟩:=b rfl;have u:=hI i;rw[i];clear i b l y;go_enter func207,ntmps207;go_wp2;go_ret;refine⟨⟨_,rfl,?_⟩,bZ⟩;have:qu p=[]:=by unfold qu;rw[u.out];rfl
  rw[this];exact World.ownsRow_nil _ _ _ _
 |some ad =>
  obtain⟨z,A,m,o,q⟩:=info_parts Tryz.infoLane';have d:Below _ w (w.alloc (.cells #[] 223)):=zd bZ _;have r:(w.alloc _).ownsRow _ 223 2 _ 0 []:=⟨rfl,.inr ⟨_,0,#[],rfl,Jr _,Jb w _,Jr _,Jq _,rfl,rfl⟩⟩;have t:=hI (Dy (l.j0 d));clear b l;go_enter func207,ntmps207;go_wp2_with (first|(at_builtin;refine zu _ rfl _ _ 137 rfl _ 223 z _ 2 16 underlying137 A m o q rfl dC _ 0 [] (by rfl) r _ p.n c _ rfl (λh=>(by cases h)) (Bt p) t (Dx _) (by unfold maxLen;omega) oM sM ?_;intro v' w3 f k))
  go_ret;rw[Nat.zero_add,List.nil_append] at f;exact⟨⟨_,rfl,f⟩,d.grown k sM (λj x=>(r.lt j x).1)⟩
theorem Tryz.infoCabin':(Tryz.prog.info? 231).map (λi=>(i.zero,i.size,i.bytes))=some (some (.agg #[(),()]),2,16):=kR
theorem ST (g:Option Addr)(c:Nat)(p:zv)(w:World)(y:p.n<=1048576)(l:zJ w g p)(b:g=none->p.n=0/\c=0) :
  Calls prog 208 #[(g,p.n,c)] w λe w'=>(∃ v,e=.returned v/\w'.ownsRow w 231 2 v p.n (qu p))/\Below w w w':=by
 have qT:∀ (w) (a) (n c s c'),(binOp _ 138 (.slice a n c) _).run _ w=_:=λw a n c s c'=>Lib.run_eql_slice_nil w _ _ a n c s c' underlying138
 cases g with
 |none =>
  obtain⟨i,rfl⟩:=b rfl;have u:=hI i;rw[i];clear i b l y;go_enter func208,ntmps208;go_wp2;go_ret;refine⟨⟨_,rfl,?_⟩,bZ⟩;have:qu p=[]:=by unfold qu;rw[u.out];rfl
  rw[this];exact World.ownsRow_nil _ _ _ _
 |some ad =>
  obtain⟨z,A,m,o,q⟩:=info_parts Tryz.infoCabin';have d:Below _ w (w.alloc (.cells #[] 231)):=zd bZ _;have r:(w.alloc _).ownsRow _ 231 2 _ 0 []:=⟨rfl,.inr ⟨_,0,#[],rfl,Jr _,Jb w _,Jr _,Jq _,rfl,rfl⟩⟩;have t:=hI (Dy (l.j0 d));clear b l;go_enter func208,ntmps208;go_wp2_with (first|(at_builtin;refine zu _ rfl _ _ 138 rfl _ 231 z _ 2 16 underlying138 A m o q rfl dC _ 0 [] (by rfl) r _ p.n c _ rfl (λh=>(by cases h)) (Bt p) t (Dx _) (by unfold maxLen;omega) oM sM ?_;intro v' w3 f k))
  go_ret;rw[Nat.zero_add,List.nil_append] at f;exact⟨⟨_,rfl,f⟩,d.grown k sM (λj x=>(r.lt j x).1)⟩
section
variable{w w':World}{g t base n N:Nat}{L C:Nat->Value}
theorem pc {u0 u1 u2 u3 u4 u5 u6 u7:Value}(h:w.heap[g]?=some (.cells #[u0,u1,u2,u3,u4,u5,u6,u7] t (0,0)))(v:Value):(w.setCell (g,5) v).heap[g]?=some (.cells #[u0,u1,u2,u3,u4,v,u6,u7] t (0,0)):=by simpa using zk h 5 v
theorem pd {u0 u1 u2 u3 u4 u5 u6 u7:Value}(h:w.heap[g]?=some (.cells #[u0,u1,u2,u3,u4,u5,u6,u7] t (0,0)))(v:Value):(w.setCell (g,6) v).heap[g]?=some (.cells #[u0,u1,u2,u3,u4,u5,v,u7] t (0,0)):=by simpa using zk h 6 v
theorem Ef {e size o:Nat}{v v0 v1 v2 v3 v4 v5 v6 v7:Value}{b:List Value}(h:w.ownsRow base e size v n b)(a:g<base):(ER w g o v0 v1 v2 v3 v4 v5 v6 v7).ownsRow base e size v n b:=by
 unfold ER;exact ZR (ZR (ZR (ZR (ZR (ZR (ZR (ZR h a _) a _) a _) a _) a _) a _) a _) a _
theorem Kg (s:qe)(la ca:Option Addr)(I H:Nat)(w:World)(h1:s.la.n<=1048576)(h2:s.M.n<=1048576)(A:zJ w la s.la)(z:zJ w ca s.M)(C:qm la s.la.n I)(B:qm ca s.M.n H) :
  Calls prog 113 #[.agg (s,la,I,ca,H)] w λe w' =>
   (∃ q n,e=.returned (.agg #[s.S,s.U,s.dst,s.O,s.T,q,n,s.N])/\w'.ownsRow w 223 2 q s.la.n (qu s.la)/\w'.ownsRow w 231 2 n s.M.n (qu s.M))/\Below w w w':=by
 have x:Hid (_/\_):=⟨A,C⟩;have u:Hid (_/\_):=⟨z,B⟩;clear A z C B;have d:Below _ w ((w.alloc (.cells (s,la,I,ca,H) 140)).alloc (.cells #[(),False,False,(),(),True,True,()] 140)):=zd (zd bZ _) _;have m:=Cs d;have G:=Dt d;go_enter func113,ntmps113;go_upto_region 1 with fail;generalize (w.alloc _).alloc _=X at d m G ⊢;have L:Hid (∀ w',Below _ X w'->_):=λw' h=>za m h
 have t:Hid (∀ w',_->Calls _ 207 _ w' λe w2=>(∃ a c,_/\_)/\_):=λw' h=>(bm la I _ w' h1 (x.1.j0 (zb d h)) x.2.2.2).mono λ_ _ ⟨⟨v,e,ho⟩,hb⟩=>by
  obtain⟨a,c,rfl,_⟩:=zn ho;exact⟨⟨a,c,e,zo ho h.size⟩,hb⟩
 have i:Hid (∀ w',_->Calls _ 208 _ w' λe w2=>(∃ a c,_/\_)/\_):=λw' h=>(ST ca H _ w' h2 (u.1.j0 (zb d h)) u.2.2.2).mono λ_ _ ⟨⟨v,e,ho⟩,hb⟩=>by
  obtain⟨a,c,rfl,_⟩:=zn ho;exact⟨⟨a,c,e,zo ho h.size⟩,hb⟩
 have s5:=bC m 5;have s6:=bC m 6;have T:=zD m;have j:=T;go_cut [1] (λp J=>p=.pointer (some (w.heap.size,0))/\∃ q n,J.heap[w.heap.size]?=some (.cells #[s.S,s.U,s.dst,s.O,s.T,q,n,s.N] 140 (0,0))/\J.ownsRow X 223 2 q s.la.n (qu s.la)/\J.ownsRow X 231 2 n s.M.n (qu s.M)/\zl X J (λb=>b=w.heap.size))
 case first =>
  go_region_with (first
   |(go_at_call 207;refine Jm (t _ (by repeat(first | exact bZ | refine Jh ?_ | refine zb ?_ g | refine zb ?_ f))) ?_;rintro e w4 ⟨⟨D,c4,rfl,U⟩,g⟩;have r:=L w4 (by repeat(first | exact bZ | refine Jh ?_ | refine zb ?_ g | refine zb ?_ f));have o5:=bC r 5;have o6:=bC r 6;have f5:=zc r 5;have f6:=zc r 6)
   |(go_at_call 208;refine Jm (i _ (by repeat(first | exact bZ | refine Jh ?_ | refine zb ?_ g | refine zb ?_ f))) ?_;rintro e w5 ⟨⟨E,c5,rfl,V⟩,f⟩;have l:=L w5 (by repeat(first | exact bZ | refine Jh ?_ | refine zb ?_ g | refine zb ?_ f));have p5:=bC l 5;have p6:=bC l 6;have g5:=zc l 5;have g6:=zc l 6))
  all_goals
   go_wp2;go_meet;exact⟨rfl,_,_,pd (pc l _) _,ZR (ZR (zm (by repeat(first|exact bZ|refine Jh ?_|refine zb ?_ f)) U) j _) j _,ZR (ZR V j _) j _,
    ((zl.of_below (S:=λb=>b=w.heap.size) (by repeat(first|exact bZ|refine Jh ?_|refine zb ?_ g|refine zb ?_ f))).set rfl _).set rfl _⟩
 case rest =>
  obtain⟨rfl,q,n,M,R,P,Q⟩:=hcut;obtain⟨D,c4,rfl,_⟩:=zn R;obtain⟨E,c5,rfl,_⟩:=zn P;have k:=Q.blk G (by show _;omega)
  have O:=zl.j0 d d.size Q (λb e=>by have e:=e;omega)
  have W:=zD G;have Z:=hI R;have Y:=hI P;clear R P Q L t i s5 s6 m G;obtain⟨y0,y1,y2,y3,y4,y5,y6,y7⟩:=ju M;obtain⟨r0,r1,r2,r3,r4,r5,r6,r7⟩:=ju k;obtain⟨f0,f1,f2,f3,f4,f5,f6,f7⟩:=fe8 k;go_wp2;obtain⟨F,o⟩:=nM (ER wc (w.heap.size+1) 0 s.S s.U s.dst s.O s.T (D,s.la.n,c4) (E,s.M.n,c5) s.N);have rF:F.heap[w.heap.size+1]?=some (.cells (s,D,c4,E,c5) 140 (0,0)):=by rw[o];exact OT k
  have K:F.ownsRow w 223 2 (D,s.la.n,c4) s.la.n (qu s.la):=by rw[o];exact zo (Ef Z W) d.size
  have i:F.ownsRow w 231 2 (E,s.M.n,c5) s.M.n (qu s.M):=by rw[o];exact zo (Ef Y W) d.size
  have N:Below w w F:=by rw[o];exact Gc O oM
  have y:F=((((((((wc.setCell _ _).setCell ⟨_,1,_⟩ _).setCell ⟨_,2,_⟩ _).setCell ⟨_,3,_⟩ _).setCell ⟨_,4,_⟩ _).setCell ⟨_,5,_⟩ _).setCell ⟨_,6,_⟩ _).setCell ⟨_,7,_⟩ _):=o;rw[← y];clear o y;obtain⟨z0,z1,z2,z3,r,l,z6,z7⟩:=ju rF;exact Jj (by simp[results,results113,go_sem,z0,z1,z2,z3,r,l,z6,z7]) rfl ⟨⟨_,_,rfl,K,i⟩,N⟩
structure ED (w:World)(base g k N:Nat)(S:Nat->qe)(L C:Nat->Value):Prop where
 row:w.rowIs g 140 (N*8) (qz (QM k S qe.zero) (QM k L True) (QM k C True))
 gb:base<=g
 la:∀ i,i<k->w.ownsRow (g+1) 223 2 (L i) (S i).la.n (qu (S i).la)
 M:∀ i,i<k->w.ownsRow (g+1) 231 2 (C i) (S i).M.n (qu (S i).M)
 apart:∀ i j,i<j->j<k->(∀ b,(L i).ownBlock=some b->(L j).ownBlock≠some b)/\(∀ b,(C i).ownBlock=some b->(C j).ownBlock≠some b)
theorem ED.j0 {k:Nat}{S:Nat->qe}(h:ED w base g k N S L C)(a:Below w w w'):ED w' base g k N S L C :=
 ⟨qo h.row a,h.gb,λi b=>zm a (h.la i b),λi b=>zm a (h.M i b),h.apart⟩
theorem ED.j1 {S:Nat->qe}(h:ED w base g N N S L C)(c:N<=maxLen):qR w base (some (g,0),N,N) N S L C:=by
 refine⟨?_,λi b=>zo (h.la i b) (Nat.le_succ_of_le h.gb),λi b=>zo (h.M i b) (Nat.le_succ_of_le h.gb),h.apart⟩
 refine qX (ZM h.row h.gb c) (λj hj=>?_)
 have a:j / 8<N:=oM;unfold qz;rw[qi _ _ a,qi _ _ a,qi _ _ a]
theorem ED.step {o:World}{k:Nat}{S:Nat->qe}{n m:Value}(h:ED w base g k N S L C)(r:Below w w o)(hk:k<N)
  (q:o.ownsRow w 223 2 n (S k).la.n (qu (S k).la)) (p:o.ownsRow w 231 2 m (S k).M.n (qu (S k).M)) :
  ED (ER o g (k*8) (S k).S (S k).U (S k).dst (S k).O (S k).T n m (S k).N) base g (k+1) N S (AP L k n) (AP C k m):=by
 have hg:=h.row.lt;have h2:=h.j0 r;refine⟨?_,h.gb,λi f=>?_,λi f=>?_,λi j d hj=>?_⟩
 ·have l:=OU (k:=k) (S':=QM (k+1) S qe.zero) (ls':=QM (k+1) (AP L k n) True) (cs':=QM (k+1) (AP C k m) True) h2.row (λi f=>?_) (λi f=>?_) (λi f=>?_)
  ·rw[qi _ _ oM,qi _ _ oM,qi _ _ oM,qg,qg] at l
   exact l
  all_goals
   unfold QM
   by_cases c:i<k
   ·rw[Jf c,Jf oM]
    try rw[zV _ _ _ _ f]
   ·rw[Je c,Je oM]
 ·by_cases e:i=k
  ·subst e;rw[qg];exact Ef (zo q oM) oM
  ·rw[zV _ _ _ _ e];exact Ef (h2.la i oM) oM
 ·by_cases e:i=k
  ·subst e;rw[qg];exact Ef (zo p oM) oM
  ·rw[zV _ _ _ _ e];exact Ef (h2.M i oM) oM
 ·by_cases e:j=k
  ·subst e
   rw[qg,qg,zV _ _ _ _ oM,zV _ _ _ _ oM];refine⟨λb h1 h3=>?_,λb h1 h3=>?_⟩
   ·have a:=((h.la i d).lt b h1).2
    have c:=(q.lt b h3).1
    omega
   ·have a:=((h.M i d).lt b h1).2
    have c:=(p.lt b h3).1
    omega
  ·rw[zV _ _ _ _ e,zV _ _ _ _ e,zV _ _ _ _ oM,zV _ _ _ _ oM]
   exact h.apart i j d oM
theorem Oy (K:Option Addr)(N c:Nat)(S:Nat->qe)(w:World)(hN:N<=1048576)(U:Qz N S 1048576)(V:qy w K N S) :
  Calls prog 112 #[.slice K N c,.func (.func 113) #[] #[]] w λe w'=>(∃ g L C,e=.returned (.slice (some ⟨g,0,none⟩) N N)/\qR w' w.heap.size (.slice (some ⟨g,0,none⟩) N N) N S L C)/\Below w w w':=by
 obtain⟨i0,F,H,I,J⟩:=info_parts Tryz.infoSailing;have Y:=hI U;have Z:=hI V;clear U V;go_enter func112,ntmps112;go_wp2_with (first|(at_make;refine wpList_make_full _ rfl _ _ 34 rfl _ 140 i0 _ 8 underlying34 F H I _ _ _ _ N rfl rfl rfl rfl (by rw[J];omega) (by unfold maxLen;omega) (Jr _) ?_;intro w1 l f))
 go_loopw [6,7,13] (λ_ _ i wr=>∃ (k:Nat) (L C:_),k<=N/\i=int i64 k/\ED wr w.heap.size w.heap.size k N S L C/\Below w w wr) (λ_ _ i _=>N - (intOf i).toNat)
 case atStart=>exact⟨0,λ_=>.slice none 0 0,λ_=>.slice none 0 0,Jq _,rfl,⟨(ZW l).congr (λj T=>Kq N j T),Jr _,λi F=>by omega,λi F=>by omega,λi j _ T=>by omega⟩,bZ.grown f (Jr _) sM⟩
 case round =>
  obtain⟨k,L,C,hk,rfl,m,d⟩:=hrel;clear l f
  by_cases hlt:k<N
  ·obtain⟨b,off,la,z,ca,y,rfl,M,h1,h2,h3,O,P,Q,R,h8,h9,t,u⟩:=Z k hlt
   have hb:=Ja w _ h1;obtain⟨c0,c1,c2,c3,c4,c5,c6,c7⟩:=OR d M h1 h2 h3 O P Q R hb;obtain⟨_,_,s3,s4⟩:=Y k hlt;have s:Hid (_/\_):=⟨h8,t⟩;have r:Hid (_/\_):=⟨h9,u⟩;have h:=zd d (.cells (S k,la,z,ca,y) 140);have o:=m.j0 (zd (Ji _ wr) (.cells (S k,la,z,ca,y) 140));have p:=Jb wr (.cells (S k,la,z,ca,y) 140);clear M h1 h2 h3 O P Q R h8 h9 t u m;go_wp2_with fail;generalize wr.alloc _=W at h o p ⊢;clear c0 c1 c2 c3 c4 c5 c6 c7 d p;refine(Kg _ la ca z y _ s3 s4 (s.1.j0 h) (r.1.j0 h) s.2 r.2).mono ?_;rintro e w2 ⟨⟨lv,cv,rfl,G,E⟩,n⟩;have v:=o.step n hlt G E;have a:=o.j0 n;obtain⟨al,cl,rfl,_⟩:=zn G;obtain⟨ac,D,rfl,_⟩:=zn E;have o0:=a.row.cell (i:=k*8) oM;have f0:=a.row.frozen (k*8);have o1:=a.row.cell (i:=k*8+1) oM;have f1:=a.row.frozen (k*8+1);have o2:=a.row.cell (i:=k*8+2) oM;have f2:=a.row.frozen (k*8+2);have o3:=a.row.cell (i:=k*8+3) oM;have f3:=a.row.frozen (k*8+3);have o4:=a.row.cell (i:=k*8+4) oM;have f4:=a.row.frozen (k*8+4);have o5:=a.row.cell (i:=k*8+5) oM;have f5:=a.row.frozen (k*8+5);have o6:=a.row.cell (i:=k*8+6) oM;have f6:=a.row.frozen (k*8+6);have o7:=a.row.cell (i:=k*8+7) oM;have f7:=a.row.frozen (k*8+7);have B:=hI v;have A:Hid (Below _ w (ER w2 _ (k*8) (S k).S (S k).U (S k).dst (S k).O (S k).T (al,(S k).la.n,cl) (ac,(S k).M.n,D) (S k).N)):=Gc (zb h n) (Jr _);clear v o a G E h n;go_wp2;go_roundw
   case rel =>
    have x:=B;have q:=A;unfold ER at x q;exact⟨_,_,_,by omega,by go_num,x,q⟩
   case measure=>simp[intOf];omega
  ·obtain rfl:k=N:=by omega
   have X:=hI (m.j1 (by unfold maxLen;omega))
   go_wp2;go_ret;exact⟨⟨_,L,C,rfl,X⟩,d⟩
end
theorem Mx (x y:Int)(w:World) :
  Calls prog 171 #[x,y] w λe w'=>e=.returned (Z9 x y)/\w'=w:=by
 obtain⟨V,f⟩:=nM (Z9 x y);rw[← f];have c:=hI f;clear f
 by_cases h1:In x 0 1000000
 ·have g:=Jd h1
  by_cases h2:In y (-10000) 10000
  ·have i:=Jd h2
   have l:=h1.1;have m:=h1.2;have d:Hid (_/\_):=⟨h1,h2⟩;clear h1 h2
   by_cases h3:100<=y
   ·have j:=Jd h3
    have b:Hid (V=x):=by show V=x;rw[c.out];unfold Z9;rw[Jf d.out,Jf h3]
    rw[b.out];clear h3;go_enter func171,ntmps171;go_wp2_with (first|(go_at_call 148;refine bM (zt _ _ _ _) λw' a=>?_;have a:=a.symm;subst a))
    go_ret;exact⟨rfl,rfl⟩
   ·have j:=Jc h3
    by_cases h4:20<=y
    ·have k:=Jd h4
     have b:Hid (V=x / 2):=by show V=_;rw[c.out];unfold Z9;rw[Jf d.out,Je h3,Jf h4]
     have hq:Int.tdiv x 2=x / 2:=by rw[Int.tdiv_eq_ediv_of_nonneg l]
     have n:=wR (x / 2);rw[b.out];clear h3 h4;go_enter func171,ntmps171;go_wp2_with (first|(go_at_call 148;refine bM (zt _ _ _ _) λw' a=>?_;have a:=a.symm;subst a))
     go_ret;exact⟨rfl,rfl⟩
    ·have k:=Jc h4
     have b:Hid (V=0):=by show V=0;rw[c.out];unfold Z9;rw[Jf d.out,Je h3,Je h4]
     rw[b.out];clear h3 h4;go_enter func171,ntmps171;go_wp2_with (first|(go_at_call 148;refine bM (zt _ _ _ _) λw' a=>?_;have a:=a.symm;subst a))
     go_ret;exact⟨rfl,rfl⟩
  ·have i:=Jc h2
   have b:Hid (V=0):=by rw[c.out];exact Je (λh=>h2 h.2)
   rw[b.out];clear h1 h2;go_enter func171,ntmps171;go_wp2_with (first|(go_at_call 148;refine bM (zt _ _ _ _) λw' a=>?_;have a:=a.symm;subst a))
   go_ret;exact⟨rfl,rfl⟩
 ·have g:=Jc h1
  have b:Hid (V=0):=by rw[c.out];exact Je (λh=>h1 h.1)
  rw[b.out];clear h1;go_enter func171,ntmps171;go_wp2_with (first|(go_at_call 148;refine bM (zt _ _ _ _) λw' a=>?_;have a:=a.symm;subst a))
  go_ret;exact⟨rfl,rfl⟩
theorem iu (d:Option Addr)(n a:Nat)(f:Nat->Int)(x:Int)(w:World)(hn:n<=1048576)(h:zS w d n f)(c:∀ j,j<n->f j≠x) :
  Calls prog 87 #[(d,n,a),x] w λe w'=>e=.returned (.bool false)/\w'=w:=by
 go_enter func87,ntmps87;go_wp2;go_loop [9] (λi=>∃ k,k<=n/\i=int i64 k) (λi=>n - (intOf i).toNat)
 case atStart=>exact⟨0,Jq _,rfl⟩
 case round =>
  obtain⟨k,hk,rfl⟩:=hrel
  by_cases hlt:k<n
  ·obtain⟨b,off,rfl,hc⟩:=h k hlt
   have g:(f k == x)=false:=by simpa using c k hlt
   go_wp2;go_round
   case rel=>exact⟨k+1,by omega,by go_num⟩
   case measure=>simp[intOf];omega
  ·go_wp2
   go_ret;exact⟨rfl,rfl⟩
theorem bt (l:Option Addr)(n d:Nat)(f:Nat->Int)(x:Int)(w:World)(hn:n<=1048576)(p:zS w l n f)(c:∃ j,j<n/\f j=x) :
  Calls prog 87 #[(l,n,d),x] w λe w'=>e=.returned (.bool true)/\w'=w:=by
 have H:=hI c;clear c;go_enter func87,ntmps87;go_wp2;go_loop [9] (λi=>∃ k,k<=n/\i=int i64 k/\∀ j,j<k->f j≠x) (λi=>n - (intOf i).toNat)
 case atStart=>exact⟨0,Jq _,rfl,by omega⟩
 case round =>
  obtain⟨k,hk,rfl,a⟩:=hrel;have h:=hI a;clear a
  by_cases hlt:k<n
  ·obtain⟨b,off,rfl,hc⟩:=p k hlt
   by_cases he:f k=x
   ·have g:(f k == x)=true:=by simpa using he
    clear he;go_wp2;go_ret;exact⟨rfl,rfl⟩
   ·have g:(f k == x)=false:=by simpa using he
    have m:Hid (f k≠x):=he;clear he;go_wp2;go_round
    case rel=>exact⟨k+1,by omega,by go_num,λj o=>by
     by_cases e:j=k
     ·rw[e];exact m
     ·exact h j oM⟩
    case measure=>simp[intOf];omega
  ·exfalso
   obtain⟨j,o,e⟩:=H;exact h j oM e
theorem Nq (d:Option Addr)(n c:Nat)(f:Nat->Int)(x:Int)(w:World)(g:n<=1048576)(i:zS w d n f) :
  Calls prog 87 #[(d,n,c),x] w λe w'=>(∃ b:Bool,e=.returned b/\(b=true↔∃ j,j<n/\f j=x))/\w'=w:=by
 by_cases h:∃ j,j<n/\f j=x
 ·exact(bt d n c f x w g i h).mono λ_ _ ⟨a,b⟩=>⟨⟨_,a,⟨λ_=>h,λ_=>rfl⟩⟩,b⟩
 ·exact(iu d n c f x w g i (λj k e=>h ⟨j,k,e⟩)).mono λ_ _ ⟨a,b⟩=>⟨⟨_,a,⟨λe=>(by cases e),λe=>absurd e h⟩⟩,b⟩
section
open Go.RowKit Go.Extern.Stop Go.Stop Go.Extern
theorem Tryz.asValP (t:Addr)(w:World):(ReflectliteValue.unpack (.iface 98 (.pointer (some t)))).run prog w
  = .ok (.agg #[.pointer (some (12,98)),.pointer (some (w.heap.size,0)),.int .u64 150]) (w.alloc (.cells #[.pointer (some t)] 98)):=by kernel_rfl
theorem Tryz.asTypeP (a : Addr) (w : World) : (ReflectliteValue.methodAny (ReflectliteValue.valueError "reflectlite.Value.Type" 0) (fun t _ _ _ => ReflectliteType.toType t) #[.agg #[.pointer (some ⟨12, 98, none⟩), .pointer (some a), .int .u64 150]]).run Tryz.prog w
  = .ok (.iface 284 (.agg #[.pointer (some (12,98))])) w:=by kernel_rfl
theorem Tryz.asMKind (h : Value) (w : World) : (Go.method 525 284 (.agg #[h]) "Kind").run Tryz.prog w = .ok (314, h) w := by kernel_rfl
theorem Tryz.asKindP (w:World):((ReflectliteType.abiMethod λt=>(λa:Nat=>Value.int IntKind.u8 (a:Int)) <$> Rtype.kind t) #[.pointer (some (12,98))]).run prog w=.ok (.int .u8 22) w:=kR
theorem Tryz.asKindR (w:World):((ReflectliteType.abiMethod λt=>(λa:Nat=>Value.int IntKind.u8 (a:Int)) <$> Rtype.kind t) #[.pointer (some (12,96))]).run prog w=.ok (.int .u8 25) w:=kR
theorem Tryz.asParts (a:Addr)(w:World):(ReflectliteValue.parts (.agg #[.pointer (some (12,98)),.pointer (some a),.int .u64 150])).run prog w=.ok (some (98,a,150)) w:=kR
theorem rlm (z:Sem Value)(f:TypeId->Addr->Nat->Nat->Sem Value)(v:Value) :
  ReflectliteValue.method z f #[v]=(do match ← ReflectliteValue.parts v with|none=>z|some (t,a,fl)=>f t a fl (fl % 32)):=rfl
theorem Tryz.asIsNil (a p:Addr)(W:World)(b:W.cell? a=some (.pointer (some p))) :
  (ReflectliteValue.method (ReflectliteValue.valueError "reflectlite.Value.IsNil" 0) ReflectliteValue.isNil #[.agg #[.pointer (some ⟨12, 98, none⟩), .pointer (some a), .int .u64 150]]).run Tryz.prog W = .ok (.bool false) W := by
 rw[rlm];simp only[Sem.run_bind,Tryz.asParts,Result.andThen];simp[ReflectliteValue.isNil,loadVar,isAgg,underlying,underlying98,b,Result.andThen]
theorem Tryz.asMElem (h : Value) (w : World) : (Go.method 525 284 (.agg #[h]) "Elem").run Tryz.prog w = .ok (328, .agg #[h]) w := by kernel_rfl
theorem Tryz.asMImplements (h : Value) (w : World) : (Go.method 525 284 (.agg #[h]) "Implements").run Tryz.prog w = .ok (329, .agg #[h]) w := by kernel_rfl
theorem Tryz.asMAssignable (h : Value) (w : World) : (Go.method 525 284 (.agg #[h]) "AssignableTo").run Tryz.prog w = .ok (326, .agg #[h]) w := by kernel_rfl
theorem Tryz.asElemT (w:World):(ReflectliteType.method ReflectliteType.elem #[.agg #[.pointer (some (12,98))]]).run prog w=.ok (.iface 284 (.agg #[.pointer (some (12,96))])) w:=kR
theorem Tryz.asImplements (w : World) : (ReflectliteType.relation "Implements" ReflectliteType.implements_ #[.agg #[.pointer (some ⟨12, 96, none⟩)], .iface 284 (.agg #[.pointer (some ⟨12, 92, none⟩)])]).run Tryz.prog w = .ok (.bool true) w := by kernel_rfl
theorem Tryz.asTypeOf (v:Value)(w:World):(ReflectliteType.typeOf #[.iface 96 v]).run prog w=.ok (.iface 284 (.agg #[.pointer (some (12,96))])) w:=kR
theorem Tryz.asAssignable (w : World) : (ReflectliteType.relation "AssignableTo" ReflectliteType.assignableTo #[.agg #[.pointer (some ⟨12, 96, none⟩)], .iface 284 (.agg #[.pointer (some ⟨12, 96, none⟩)])]).run Tryz.prog w = .ok (.bool true) w := by kernel_rfl
theorem Tryz.asValR (a:Value)(w:World):(ReflectliteValue.unpack (.iface 96 (.agg #[a]))).run prog w
  = .ok (.agg #[.pointer (some (12,96)),.pointer (some (w.heap.size,0)),.int .u64 153]) (w.alloc (.cells #[a] 96)):=by kernel_rfl
theorem Tryz.asElemOf (w:World):(Rtype.elem? 98).run prog w=.ok (some 96) w:=kR
theorem Tryz.asMk (p:Addr)(w:World):(ReflectliteValue.mk 96 p ReflectliteValue.flagAddr).run prog w=.ok (.agg #[.pointer (some (12,96)),.pointer (some p),.int .u64 409]) w:=kR
theorem Tryz.asElemV (a p:Addr)(W:World)(b:W.cell? a=some (.pointer (some p))) :
  (ReflectliteValue.method (ReflectliteValue.valueError "reflectlite.Value.Elem" 0) ReflectliteValue.elem #[.agg #[.pointer (some ⟨12, 98, none⟩), .pointer (some a), .int .u64 150]]).run Tryz.prog W
   = .ok (.agg #[.pointer (some (12,96)),.pointer (some p),.int .u64 409]) W:=by
 rw[rlm];simp only[Sem.run_bind,Tryz.asParts,Result.andThen];simp[ReflectliteValue.elem,loadVar,isAgg,underlying,underlying98,b,Result.andThen,Tryz.asElemOf,Tryz.asMk]
end
section
open Go.RowKit Go.Extern.Stop Go.Stop Go.Extern
theorem rls (v x:Value):ReflectliteValue.set #[v,x]=(do
  let (some (dst,a,fl),some (src,b,_)):=(← ReflectliteValue.parts v,← ReflectliteValue.parts x)
   |unsupported (.noEntry "extern/(internal/reflectlite.Value).Set.zeroValue")
  if fl / ReflectliteValue.flagAddr % 2 == 0 then unsupported (.noEntry "extern/(internal/reflectlite.Value).Set.unaddressable")
  let val ← loadVar src b
  if ← Rtype.directlyAssignable dst src then storeVar dst a val
  else if ← Rtype.implements dst src then
   if (← Rtype.kind src) == 20 then
    match val with
    |.nilIface => unsupported (.noEntry "extern/reflectlite: a nil value of one interface type handed on as a value of another")
    |_=>storeVar dst a val
   else storeVar dst a (.iface src val)
  else panicString ("reflectlite.Set: value of type " ++ (← Rtype.spelt src) ++ " is not assignable to type " ++ (← Rtype.spelt dst))
  pure (.tuple #[])):=rfl
theorem Tryz.asPartsA (a:Addr)(w:World):(ReflectliteValue.parts (.agg #[.pointer (some (12,96)),.pointer (some a),.int .u64 409])).run prog w=.ok (some (96,a,409)) w:=kR
theorem Tryz.asPartsR (a:Addr)(w:World):(ReflectliteValue.parts (.agg #[.pointer (some (12,96)),.pointer (some a),.int .u64 153])).run prog w=.ok (some (96,a,153)) w:=kR
theorem Tryz.asDirect (w:World):(Rtype.directlyAssignable 96 96).run prog w=.ok true w:=kR
theorem Tryz.asSet (c b:Addr)(a d:Value)(W:World)(h1:a.oneCell'=true)(e:W.cell? b=some a)(g:W.cell? c=some d)(f:W.frozen? c=false) :
  (ReflectliteValue.set #[.agg #[.pointer (some (12,96)),.pointer (some c),.int .u64 409],.agg #[.pointer (some (12,96)),.pointer (some b),.int .u64 153]]).run prog W
   = .ok (.tuple #[]) (W.setCell c a):=by
 rw[rls];simp only[Sem.run_bind,Tryz.asPartsA,Tryz.asPartsR,Result.andThen];simp[ReflectliteValue.flagAddr,loadVar,loadCells,loadCellsFrom,e,Result.andThen,Tryz.asDirect,storeVar,Value.cells,storeCells,Addr.add];rw[run_store _ W c _ _ h1];simp[g,f]
theorem nd (a:Value)(t:Addr)(d:Value)(w:World)(h1:a.oneCell'=true)(g:w.cell? (0,0)=some (.iface 284 (.agg #[.pointer (some (12,92))])))(b:w.cell? t=some d)(e:w.frozen? t=false) :
  Calls prog 55 #[.iface 96 (.agg #[a]),.iface 98 (.pointer (some t))] w λi w'=>i=.returned (.bool true)/\w'=((((w.alloc (.cells #[.pointer (some t)] 98)).alloc (.cells #[.pointer (some (12,98)),.pointer (some (w.heap.size,0)),.int .u64 150] 186)).alloc (.cells #[.pointer (some (12,98)),.pointer (some (w.heap.size,0)),.int .u64 150] 186)).alloc (.cells #[a] 96)).setCell t a:=by
 have h6:=@run_callFunc_extern _ 118 _ (λargs=>ReflectliteValue.unpack (args.getD 0 (.tuple #[]))) func118 kR kR kR kR
 have h7 := @run_callFunc_extern _ 119 _ (ReflectliteValue.methodAny (ReflectliteValue.valueError "reflectlite.Value.Type" 0) (fun t _ _ _ => ReflectliteType.toType t)) Tryz.func119 (by kernel_rfl) (by kernel_rfl) (by kernel_rfl) (by kernel_rfl)
 have h8 := @run_callFunc_extern _ 120 _ (ReflectliteValue.method (ReflectliteValue.valueError "reflectlite.Value.IsNil" 0) ReflectliteValue.isNil) Tryz.func120 (by kernel_rfl) (by kernel_rfl) (by kernel_rfl) (by kernel_rfl)
 have m:=@run_callFunc_extern _ 314 _ (ReflectliteType.abiMethod λt=>do pure (.int .u8 (← Rtype.kind t))) func314 kR kR kR kR
 have n:=@run_callFunc_extern _ 328 _ (ReflectliteType.method ReflectliteType.elem) Tryz.func328 kR kR kR kR;have h38 := @run_callFunc_extern _ 329 _ (ReflectliteType.relation "Implements" ReflectliteType.implements_) Tryz.func329 (by kernel_rfl) (by kernel_rfl) (by kernel_rfl) (by kernel_rfl)
 have k:=@run_callFunc_extern _ 213 _ ReflectliteType.typeOf Tryz.func213 kR kR kR kR;have h35 := @run_callFunc_extern _ 326 _ (ReflectliteType.relation "AssignableTo" ReflectliteType.assignableTo) Tryz.func326 (by kernel_rfl) (by kernel_rfl) (by kernel_rfl) (by kernel_rfl)
 have h11 := @run_callFunc_extern _ 214 _ (ReflectliteValue.method (ReflectliteValue.valueError "reflectlite.Value.Elem" 0) ReflectliteValue.elem) Tryz.func214 (by kernel_rfl) (by kernel_rfl) (by kernel_rfl) (by kernel_rfl)
 have l:=@run_callFunc_extern _ 215 _ ReflectliteValue.set func215 kR kR kR kR;have tO:=Tryz.asTypeOf;have mA:=Tryz.asMAssignable;have aR:=Tryz.asAssignable;have vR:=Tryz.asValR;have f6:=Tryz.asValP;have f7:=Tryz.asTypeP;have mK:=Tryz.asMKind;have mE:=Tryz.asMElem;have mI:=Tryz.asMImplements;have kP:=Tryz.asKindP;have kR:=Tryz.asKindR;have eP:=Tryz.asElemT;have iR:=Tryz.asImplements;have n8:=Tryz.asIsNil (w.heap.size,0) t ((w.alloc (.cells #[.pointer (some t)] 98)).alloc (.cells #[.pointer (some (12,98)),.pointer (some (w.heap.size,0)),.int .u64 150] 186)) sM;have f:0<w.heap.size:=by
  rcases Nat.eq_zero_or_pos w.heap.size with j|h
  ·simp[World.cell?,j] at g
  ·exact h
 have o:((w.alloc (.cells #[.pointer (some t)] 98)).alloc (.cells #[.pointer (some (12,98)),.pointer (some (w.heap.size,0)),.int .u64 150] 186)).cell? (0,0)=some (.iface 284 (.agg #[.pointer (some (12,92))])):=by
  rw[World.cell?_alloc_lt _ _ _ sM,World.cell?_alloc_lt _ _ _ f];exact g
 have c:t.block<w.heap.size:=by
  rcases Nat.lt_or_ge t.block w.heap.size with h|h
  ·exact h
  ·simp[World.cell?,Array.getElem?_eq_none h] at b
 have el:=Tryz.asElemV (w.heap.size,0) t (((w.alloc (.cells #[.pointer (some t)] 98)).alloc (.cells #[.pointer (some (12,98)),.pointer (some (w.heap.size,0)),.int .u64 150] 186)).alloc (.cells #[.pointer (some (12,98)),.pointer (some (w.heap.size,0)),.int .u64 150] 186)) (by rw[World.cell?_alloc_lt _ _ _ (by simp;omega)];simp)
 have st:=Tryz.asSet t ⟨w.heap.size+1+1+1,0,_⟩ a d ((((w.alloc (.cells #[.pointer (some t)] 98)).alloc (.cells #[.pointer (some (12,98)),.pointer (some (w.heap.size,0)),.int .u64 150] 186)).alloc (.cells #[.pointer (some (12,98)),.pointer (some (w.heap.size,0)),.int .u64 150] 186)).alloc (.cells #[a] 96)) h1
  (by rw[World.cell?_alloc_at _ _ _ _ sM];rfl)
  (by rw[World.cell?_alloc_lt _ _ t (by simp;omega),World.cell?_alloc_lt _ _ t (by simp;omega),World.cell?_alloc_lt _ _ t (by simp;omega),World.cell?_alloc_lt _ _ t c];exact b)
  (by rw[World.frozen?_alloc_old _ _ t (by simp;omega),World.frozen?_alloc_old _ _ t (by simp;omega),World.frozen?_alloc_old _ _ t (by simp;omega),World.frozen?_alloc_old _ _ t (Nat.ne_of_lt c)];exact e)
 go_enter func55,ntmps55;go_wp2;refine wp_loop_rounds 1 ?_;rw[rounds_succ];go_wp2;go_ret;exact⟨rfl,rfl⟩
end
theorem OC (k:Nat)(w:World)(hk:k<=1000000000000000) :
  Calls prog 71 #[int i64 k] w λe w'=>(∃ s,e=.returned (.string s))/\Below w w w':=by
 by_cases h0:k=0
 ·subst h0
  go_enter func71,ntmps71;go_wp2;go_ret;exact⟨⟨_,rfl⟩,bZ⟩
 ·have d0:decide ((k:Int)<=0)=false:=dF
  go_enter func71,ntmps71;go_wp2;go_loopw [0,3] (λf g wr=>∃ (q:Nat) (s:ByteArray),f=int i64 q/\g=.string s/\s.size+q<=1000000000000000/\Below w w wr) (λf _ _=>(intOf f).toNat)
  case atStart=>exact⟨k,_,rfl,rfl,by show 0+k<=_;omega,bZ⟩
  case round =>
   obtain⟨q,s,rfl,rfl,hs,a⟩:=hrel
   by_cases hq:q=0
   ·subst hq
    have b:=run_string_add_sum (P:=prog) (w:=wr) ⟨#[109]⟩ s (by show 1+s.size<=_;omega)
    go_wp2;go_ret;exact⟨⟨_,rfl⟩,a⟩
   ·have dq:decide ((0:Int)<(q:Int))=true:=dT
    have c:(convert 209 9 (some (wr.heap.size,0),1,1)).run prog (wr.alloc (.cells #[.int .u8 (48+(q:Int) % 10)] 5))=.ok (.string (ByteArray.empty.push (UInt8.ofNat (48+(q:Int) % 10).toNat))) (wr.alloc (.cells #[.int .u8 (48+(q:Int) % 10)] 5)):=by
     rw[run_convert_bytes_string _ 209 9 5 _ 1 1 underlying209 underlying5 underlying9];exact run_bytesToString _ _ 1 1 [_] (run_loadCells_list _ _ [_] (λj v d=>by
      cases j with
      |zero=>simp at d;subst d;simp[Addr.add,World.cell?_alloc_mark]
      |succ j=>simp at d))
    have b:=run_string_add_sum (P:=prog) (w:=wr.alloc (.cells #[.int .u8 (48+(q:Int) % 10)] 5)) (ByteArray.empty.push (UInt8.ofNat (48+(q:Int) % 10).toNat)) s (by show 1+s.size<=_;omega)
    go_wp2;refine⟨⟨q / 10,_,by simp,rfl,?_,zd a _⟩,?_⟩
    ·have e:(ByteArray.empty.push (48+UInt8.ofNat (q % 10))++s).size=1+s.size:=by
      rw[ByteArray.size_append];rfl
     rw[e];omega
    ·simp only[intOf];omega
theorem EG (k:Int)(w:World)(a:0<=k)(hk:k<=1000000000000000) :
  Calls prog 71 #[int i64 k] w λe w'=>(∃ s,e=.returned (.string s))/\Below w w w':=by
 obtain⟨q,rfl⟩:=Int.eq_ofNat_of_zero_le a;exact OC q w oM
def rk:Nat->Nat->ByteArray->ByteArray
 |0,_,s=>⟨#[109]⟩++s
 |f+1,q,s=>if q=0 then ⟨#[109]⟩++s else rk f (q / 10) (ByteArray.empty.push (48+UInt8.ofNat (q % 10))++s)
def CK (q:Nat)(s:ByteArray):ByteArray:=rk q q s
theorem rm:∀ (f g q:Nat)(s:ByteArray),q<=f->q<=g->rk f q s=rk g q s
 |0,0,_,_,_,_=>rfl
 |0,g+1,q,s,h,_=>by cases Nat.le_zero.1 h;rfl
 |f+1,0,q,s,_,h=>by cases Nat.le_zero.1 h;rfl
 |f+1,g+1,q,s,h,k=>by
  unfold rk
  by_cases e:q=0
  ·rw[Jf e,Jf e]
  ·rw[Je e,Je e];exact rm f g _ _ (by omega) (by omega)
theorem dd (s:ByteArray):CK 0 s=⟨#[109]⟩++s:=rfl
theorem de {q:Nat}(h:q≠0)(s:ByteArray):CK q s=CK (q / 10) (ByteArray.empty.push (48+UInt8.ofNat (q % 10))++s):=by
 obtain⟨k,rfl⟩:∃ k,q=k+1:=⟨q - 1,by omega⟩
 unfold CK;conv=>lhs;unfold rk
 rw[Je h];exact rm _ _ _ _ (by omega) (by omega)
def BF (k:Nat):ByteArray:=if k=0 then ⟨#[109,48]⟩ else CK k ⟨#[]⟩
theorem IU (k:Nat)(w:World)(hk:k<=1000000000000000) :
  Calls prog 71 #[int i64 k] w λe w'=>e=.returned (.string (BF k))/\Below w w w':=by
 by_cases h0:k=0
 ·subst h0
  go_enter func71,ntmps71;go_wp2;go_ret;exact⟨rfl,bZ⟩
 ·have d0:decide ((k:Int)<=0)=false:=dF
  have h:Hid (BF k=CK k ⟨#[]⟩):=by show _=_;unfold BF;rw[Je h0]
  go_enter func71,ntmps71;go_wp2;go_loopw [0,3] (λg i wr=>∃ (q:Nat) (s:ByteArray),g=int i64 q/\i=.string s/\s.size+q<=1000000000000000/\Hid (CK q s=BF k)/\Below w w wr) (λg _ _=>(intOf g).toNat)
  case atStart=>exact⟨k,_,rfl,rfl,by show 0+k<=_;omega,h.symm,bZ⟩
  case round =>
   obtain⟨q,s,rfl,rfl,hs,b,a⟩:=hrel
   by_cases hq:q=0
   ·subst hq
    have c:=run_string_add_sum (P:=prog) (w:=wr) ⟨#[109]⟩ s (by show 1+s.size<=_;omega)
    go_wp2;go_ret;refine⟨?_,a⟩;rw[← b.out,dd]
    rfl
   ·have dq:decide ((0:Int)<(q:Int))=true:=dT
    have d:(convert 209 9 (some (wr.heap.size,0),1,1)).run prog (wr.alloc (.cells #[.int .u8 (48+(q:Int) % 10)] 5))=.ok (.string (ByteArray.empty.push (UInt8.ofNat (48+(q:Int) % 10).toNat))) (wr.alloc (.cells #[.int .u8 (48+(q:Int) % 10)] 5)):=by
     rw[run_convert_bytes_string _ 209 9 5 _ 1 1 underlying209 underlying5 underlying9];exact run_bytesToString _ _ 1 1 [_] (run_loadCells_list _ _ [_] (λj v f=>by
      cases j with
      |zero=>simp at f;subst f;simp[Addr.add,World.cell?_alloc_mark]
      |succ j=>simp at f))
    have c:=run_string_add_sum (P:=prog) (w:=wr.alloc (.cells #[.int .u8 (48+(q:Int) % 10)] 5)) (ByteArray.empty.push (UInt8.ofNat (48+(q:Int) % 10).toNat)) s (by show 1+s.size<=_;omega)
    go_wp2;refine⟨⟨q / 10,_,by simp,rfl,?_,?_,zd a _⟩,?_⟩
    ·have e:(ByteArray.empty.push (48+UInt8.ofNat (q % 10))++s).size=1+s.size:=by
      rw[ByteArray.size_append];rfl
     rw[e];omega
    ·show _=_
     rw[← b.out,de hq]
    ·simp only[intOf];omega
theorem AL (z:Int)(w:World)(a:0<=z)(hk:z<=1000000000000000) :
  Calls prog 71 #[int i64 z] w λe w'=>e=.returned (.string (BF z.toNat))/\Below w w w':=by
 obtain⟨q,rfl⟩:=Int.eq_ofNat_of_zero_le a;exact IU q w oM
theorem EH (d:Option Addr)(n c base:Nat)(F:Nat->Int)(k0:Int)(w:World)(hn:n<=4194304)(h0:0<=k0)(h1:k0<=1000000000000000)(m:w.ownsRow base 3 1 (d,n,c) n (qp F n)) :
  Calls prog 28 #[(d,n,c),k0] w λe w'=>e=.returned (int i64 (k0+n))/\w'.ownsRow base 3 1 (d,n,c) n (qp (λj=>k0+j) n)/\zl w w' (λb=>∃ g,d=some (g,0)/\b=g):=by
 go_enter func28,ntmps28;go_wp2;go_loopw [1,5] (λq i wr=>∃ t,t<=n/\i=int i64 t/\q=int i64 (k0+t)/\wr.ownsRow base 3 1 (d,n,c) n ((List.range n).map (λj=>int i64 (if j<t then k0+j else F j)))/\zl w wr (λb=>∃ g,d=some (g,0)/\b=g)) (λ_ i _=>n - (intOf i).toNat)
 case atStart=>exact⟨0,Jq _,rfl,by simp,qX m (by intro i _;simp),zl.refl _ _⟩
 case round =>
  obtain⟨t,ht,rfl,rfl,a,f⟩:=hrel
  by_cases hlt:t<n
  ·obtain⟨g,rfl,h,k⟩:=qr a oM
   have hc:=zs a t oM oM;have hf:=a.frozenAt t;go_wp2;go_roundw
   case rel =>
    refine⟨t+1,by omega,by go_num,by go_num,?_,f.set ⟨g,rfl,rfl⟩ _⟩
    refine qX (zI a t _) (λi _=>?_)
    by_cases e:i=t
    ·subst e;simp
    ·simp only[Je e]
     by_cases e2:i<t
     ·rw[Jf e2,Jf oM]
     ·rw[Je e2,Je oM]
   case measure=>simp[intOf];omega
  ·have:t=n:=oM
   subst this;go_wp2;go_ret;exact⟨rfl,qX a (by intro i l;simp[l]),f⟩
theorem OD (a:Option Addr)(n c:Nat)(k0:Int)(w:World)(hn:n<=4194304)(h0:0<=k0)(h1:k0<=1000000000000000)(d:zS w a n (λj=>k0+j)) :
  Calls prog 137 #[(a,n,c),k0] w λe w'=>e=.returned (int i64 (k0+n))/\w'=w:=by
 go_enter func137,ntmps137;go_wp2;go_loop [1,5] (λq i=>∃ t,t<=n/\i=int i64 t/\q=int i64 (k0+t)) (λ_ i=>n - (intOf i).toNat)
 case atStart=>exact⟨0,Jq _,rfl,by simp⟩
 case round =>
  obtain⟨t,ht,rfl,rfl⟩:=hrel
  by_cases hlt:t<n
  ·obtain⟨b,off,rfl,hc⟩:=d t hlt
   go_wp2;go_round
   case rel=>exact⟨t+1,by omega,by go_num,by go_num⟩
   case measure=>simp[intOf];omega
  ·have:t=n:=oM
   subst this;go_wp2;go_ret;exact⟨rfl,rfl⟩
def Cr (w:World)(base t sz b n:Nat)(Q:List Value->Prop):Prop:=∃ xs,Q xs/\w.ownsRow base t sz (some (b,0),n,n) n xs
theorem Nt {j:List Value}(h:w.ownsRow base t sz (some (b,0),n,n) n j):∃ a,w.heap[b]?=some (.cells a t (0,0))/\a.size=n*sz:=by
 rcases h.2 with⟨e,_⟩|⟨g,d,a,c,_,f,_,_,i,_⟩
 ·cases e
 ·simp only[Value.slice.injEq,Option.some.injEq,Addr.mk.injEq] at c
  obtain⟨⟨rfl,_,_⟩,_,rfl⟩:=c;exact⟨a,f,i⟩
theorem Cr.after {j a l:Nat}{Q o:List Value->Prop}(h:Cr w base t sz b n Q)(r:Cr w base j a g l o)(s:zl w w' (λx=>x=g))(y:0<sz)(q:t=j->sz=a)(v:t=j->n=l->Cr w' base t sz g n Q):Cr w' base t sz b n Q:=by
 by_cases e:b=g
 ·subst e
  obtain⟨m,k,f⟩:=h;obtain⟨ys,u,i⟩:=r;obtain⟨c1,p,z⟩:=Nt f;obtain⟨c2,c,A⟩:=Nt i;rw[p] at c;simp only[Option.some.injEq,Obj.cells.injEq] at c;obtain⟨rfl,rfl,_⟩:=c;obtain rfl:=q rfl;exact v rfl (Nat.eq_of_mul_eq_mul_right y (z.symm.trans A))
 ·obtain⟨m,k,f⟩:=h
  exact⟨m,k,s.j1 f (λb' d e'=>by simp only[Value.ownBlock,Option.some.injEq] at d;omega)⟩
theorem Cr.kept {Q:List Value->Prop}{T:Nat->Prop}(h:Cr w base t sz b n Q)(e:zl w w' T)(d:¬ T b):Cr w' base t sz b n Q:=by
 obtain⟨i,g,f⟩:=h;exact⟨i,g,e.j1 f (λb' a c=>by simp only[Value.ownBlock,Option.some.injEq] at a;subst a;exact d c)⟩
def LB (w:World)(base b n:Nat):Prop:=Cr w base 3 1 b n (λa=>∃ F,a=qp F n)
theorem Rq {k:Int}(hn:n<=1048576)(d:0<=k)(h1:k<=1000000000000000)(h:LB w base b n) :
  Calls prog 28 #[.slice (some ⟨b,0,none⟩) n n,int i64 k] w λe w'=>e=.returned (int i64 (k+n))/\LB w' base b n/\zl w w' (λx=>x=b):=by
 obtain⟨_,⟨S,rfl⟩,f⟩:=h;exact(EH _ n n base S k w oM d h1 f).mono λ_ _ ⟨a,b,c⟩=>⟨a,⟨_,⟨_,rfl⟩,b⟩,c.mono (λx i=>by obtain⟨g,e,e2⟩:=i;simp only[Option.some.injEq,Addr.mk.injEq] at e;omega)⟩
theorem ML (g n base:Nat)(f:Nat->Value)(k0:Int)(w:World)(hn:n<=1048576)(h0:0<=k0)(h1:k0<=1000000000000000)(l:w.ownsRow base 223 2 (some (g,0),n,n) n ((List.range (n*2)).map f)) :
  Calls prog 127 #[(some (g,0),n,n),k0] w λe w'=>e=.returned (int i64 (k0+2*n))/\(∃ f,w'.ownsRow base 223 2 (some (g,0),n,n) n ((List.range (n*2)).map f))/\zl w w' (λb=>b=g):=by
 go_enter func127,ntmps127;go_wp2;go_loopw [1,5] (λq i wr=>∃ (t:Nat) (f:_),t<=n/\i=int i64 t/\q=int i64 (k0+2*t)/\wr.ownsRow base 223 2 (some (g,0),n,n) n ((List.range (n*2)).map f)/\zl w wr (λb=>b=g)) (λ_ i _=>n - (intOf i).toNat)
 case atStart=>exact⟨0,f,Jq _,rfl,by simp,l,zl.refl _ _⟩
 case round =>
  obtain⟨t,f,ht,rfl,rfl,a,c⟩:=hrel
  by_cases hlt:t<n
  ·have d:=zs a (t*2) oM rfl
   have h:=zs a (t*2+1) oM rfl;have j:=a.frozenAt (t*2);have k:=a.frozenAt (t*2+1);go_wp2;go_roundw
   case rel=>exact⟨t+1,_,by omega,by go_num,by go_num,zI (zI a _ _) _ _,(c.set rfl _).set rfl _⟩
   case measure=>simp[intOf];omega
  ·obtain rfl:t=n:=by omega
   go_wp2;go_ret;exact⟨rfl,⟨_,a⟩,c⟩
theorem LC (g n base:Nat)(f:Nat->Value)(k0:Int)(w:World)(hn:n<=1048576)(h0:0<=k0)(h1:k0<=1000000000000000)(l:w.ownsRow base 231 2 (some (g,0),n,n) n ((List.range (n*2)).map f)) :
  Calls prog 128 #[(some (g,0),n,n),k0] w λe w'=>e=.returned (int i64 (k0+2*n))/\(∃ f,w'.ownsRow base 231 2 (some (g,0),n,n) n ((List.range (n*2)).map f))/\zl w w' (λb=>b=g):=by
 go_enter func128,ntmps128;go_wp2;go_loopw [1,5] (λq i wr=>∃ (t:Nat) (f:_),t<=n/\i=int i64 t/\q=int i64 (k0+2*t)/\wr.ownsRow base 231 2 (some (g,0),n,n) n ((List.range (n*2)).map f)/\zl w wr (λb=>b=g)) (λ_ i _=>n - (intOf i).toNat)
 case atStart=>exact⟨0,f,Jq _,rfl,by simp,l,zl.refl _ _⟩
 case round =>
  obtain⟨t,f,ht,rfl,rfl,a,c⟩:=hrel
  by_cases hlt:t<n
  ·have d:=zs a (t*2) oM rfl
   have h:=zs a (t*2+1) oM rfl;have j:=a.frozenAt (t*2);have k:=a.frozenAt (t*2+1);go_wp2;go_roundw
   case rel=>exact⟨t+1,_,by omega,by go_num,by go_num,zI (zI a _ _) _ _,(c.set rfl _).set rfl _⟩
   case measure=>simp[intOf];omega
  ·obtain rfl:t=n:=by omega
   go_wp2;go_ret;exact⟨rfl,⟨_,a⟩,c⟩
end Go.Proofs.YtmdnjgihooflfaaGreatDoor
