import Derived.LaidMore
import Derived.Lib.LaidTab
import Derived.Deep.DeepHandedRow
import Derived.Stop.LaidErr
import Derived.LaidHandle
import Derived.Test.YtmdnjgihooflfaaGreatDoorB05
import Derived.Test.YtmdnjgihooflfaaGreatDoorB04
import Derived.Test.YtmdnjgihooflfaaGreatDoorB06
namespace Go.Proofs.YtmdnjgihooflfaaGreatDoor
open Go.RowKit
open Go.Value (int)
open Go.IntKind (i64)
open _root_.Go.Proofs.Tryz
set_option maxHeartbeats 64000000
set_option maxRecDepth 1000000
variable{w W:World}{g t base fuel:Nat}{u0 u1 u2 u3 u4 u5 u6 u7 u8 u9 u10 u11 c d v:Value}{H α:Type}{f e b:Bool}{P:Program}{cs:List Value}
theorem RP {v3:Value}(h:w.heap[g]?=some (.cells #[u0,u1,u2,u3,u4,u5,u6,u7,u8,u9,u10,u11] t (0,0))):(qA w g 3 [v3]).heap[g]?=some (.cells #[u0,u1,u2,v3,u4,u5,u6,u7,u8,u9,u10,u11] t (0,0)):=by
 have:=(zk h 3 v3);simp only[qA]
 simpa using this
theorem Pm {v4 v5 v6 v7 a b:Value}(h:w.heap[g]?=some (.cells #[u0,u1,u2,u3,u4,u5,u6,u7,u8,u9,u10,u11] t (0,0))):(qA w g 4 [v4,v5,v6,v7,c,d,a,b]).heap[g]?=some (.cells #[u0,u1,u2,u3,v4,v5,v6,v7,c,d,a,b] t (0,0)):=by
 have:=(zk (zk (zk (zk (zk (zk (zk (zk h 4 v4) 5 v5) 6 v6) 7 v7) 8 c) 9 d) 10 a) 11 b);simp only[qA]
 simpa using this
theorem Pn {v0 v1 v2 v3 v4 v5 v6 v7 a b:Value}(h:w.heap[g]?=some (.cells #[u0,u1,u2,u3,u4,u5,u6,u7,u8,u9,u10,u11] t (0,0))):(qA w g 0 [v0,v1,v2,v3,v4,v5,v6,v7,c,d,a,b]).heap[g]?=some (.cells #[v0,v1,v2,v3,v4,v5,v6,v7,c,d,a,b] t (0,0)):=by
 have:=(zk (zk (zk (zk (zk (zk (zk (zk (zk (zk (zk (zk h 0 v0) 1 v1) 2 v2) 3 v3) 4 v4) 5 v5) 6 v6) 7 v7) 8 c) 9 d) 10 a) 11 b);simp only[qA]
 simpa using this
theorem fc (kind:Int)(own:ByteArray)(name:Int)(c:Option Addr)(lgn d:Nat)(pe:Int)(len:Int)(hei:Int)(cl:Int)(all:Bool)(be:Int)(unt:Int)(now:Int)(L:Int)(w:World)(h0:0<=L)(hL:L<=1048576)(m:own.size<=1000000000000000)(h:lgn<=1000000000000000) :
  Calls prog 7 #[.agg #[kind,own,name,(c,lgn,d),pe,len,hei,cl,all,be,unt,now],L] w λe w'=>∃ r:Int,e=.returned r/\(r=-1∨(0<=r/\r<=L/\own.size<=1048576/\lgn<=1048576))/\Below w w w':=by
 have f:Below _ w (w.alloc (.cells #[kind,own,name,(c,lgn,d),pe,len,hei,cl,all,be,unt,now] 31)):=zd bZ _;have i:=Qc f
 by_cases gown:(own.size:Int)<=L
 ·have g:decide (L - (own.size:Int)<0)=false:=by simp;omega
  go_enter func7,ntmps7;go_wp2_with fail;refine(Ky c lgn d _ _ oM oM h).mono ?_;rintro e w1 ⟨o,rfl,j,a⟩;have n:=za i a;have b:=zb f a
  rcases j with rfl|⟨k,p,l⟩
  ·go_wp2
   go_ret;exact⟨_,rfl,.inl rfl,b⟩
  ·have d1:decide (o<0)=false:=by simpa using k
   go_wp2;go_ret;exact⟨_,rfl,.inr ⟨by omega,by omega,by omega,l⟩,b⟩
 ·have g:decide (L - (own.size:Int)<0)=true:=by simp;omega
  go_enter func7,ntmps7;go_wp2;go_ret;exact⟨_,rfl,.inl rfl,f⟩
theorem fd (kind:Int)(own:ByteArray)(name:Int)(g:Option Addr)(lgn j:Nat)(lg:Nat->Int)(pe:Int)(len:Int)(hei:Int)(cl:Int)(all:Bool)(be:Int)(unt:Int)(now:Int)(w:World)(Z:lgn<=1048576)(Y:zS w g lgn lg) :
  Calls prog 10 #[.agg #[kind,own,name,(g,lgn,j),pe,len,hei,cl,all,be,unt,now]] w λe w'=>∃ b,e=.returned (.agg #[kind,own,name,(some (b,0),lgn,lgn),pe,len,hei,cl,all,be,unt,now])/\(w.heap.size<=b/\b<w'.heap.size/\w'.rowIs b 3 lgn (λk=>int i64 (lg k)))/\Below w w w':=by
 go_enter func10,ntmps10;go_wp2_with fail;obtain⟨O,l⟩:=nM ((((w.alloc (.cells #[kind,own,name,(g,lgn,j),pe,len,hei,cl,all,be,unt,now] 31)).alloc (.cells #[(),False,(),True,(),(),(),(),.bool false,(),(),()] 47)).alloc (.cells #[kind,own,name,True,(),(),(),(),.bool false,(),(),()] 47)));have P:Below w w O:=by rw[l];exact zd (zd (zd bZ _) _) _
 have A0:O.heap[w.heap.size]?=some (.cells #[kind,own,name,(g,lgn,j),pe,len,hei,cl,all,be,unt,now] 31 (0,0)):=by rw[l];exact zg (zg (Jb w _) _) _
 have R0:O.heap[w.heap.size+1]?=some (.cells #[(),False,(),True,(),(),(),(),.bool false,(),(),()] 47 (0,0)):=by rw[l];exact zg (by simpa using Jb (w.alloc _) _) _
 have Q:O.heap[w.heap.size+1+1]?=some (.cells #[kind,own,name,True,(),(),(),(),.bool false,(),(),()] 47 (0,0)):=by rw[l];simpa using Jb ((w.alloc _).alloc _) _
 rw[← l];clear l;refine(Kx g lgn j lg _ Z (Y.j0 P)).mono ?_;rintro e v0 ⟨b,rfl,E,a,n⟩;have f:=za A0 n;have A:=za R0 n;have p:=za Q n;have y:=zb P n;have b7:w.heap.size+1+1<b:=by have:=zD Q;omega
 have D:w.heap.size<=b:=oM;clear A0 R0 Q P n E;have a0:=bC f 4;have a1:=bC f 5;have a2:=bC f 6;have a3:=bC f 7;have a4:=bC f 8;have a5:=bC f 9;have t:=bC p 3;have R:=zc p 3;go_wp2_with fail;clear a0 a1 a2 a3 a4 a5 R t;obtain⟨x,h⟩:=nM (qA v0 (w.heap.size+1+1) 3 [(some (b,0),lgn,lgn)]);have A1:x.heap[w.heap.size]?=some (.cells #[kind,own,name,(g,lgn,j),pe,len,hei,cl,all,be,unt,now] 31 (0,0)):=by rw[h];exact qk oM _ _ _ f
 have R1:x.heap[w.heap.size+1]?=some (.cells #[(),False,(),True,(),(),(),(),.bool false,(),(),()] 47 (0,0)):=by rw[h];exact qk oM _ _ _ A
 have O1:x.heap[w.heap.size+1+1]?=some (.cells #[kind,own,name,(some (b,0),lgn,lgn),(),(),(),(),.bool false,(),(),()] 47 (0,0)):=by rw[h];exact RP p
 have H1:Below w w x:=by rw[h];exact Zi oM _ _ _ y
 have c:x.rowIs b 3 lgn (λk=>int i64 (lg k)):=by rw[h];exact qJ oM _ _ _ a
 have G:x=(v0.setCell (w.heap.size+1+1,3) (some (b,0),lgn,lgn)):=by rw[h];rfl
 rw[← G];clear h G f A p y a;have a:=c;clear c;refine bM (Ik pe len hei cl all be _) λv1 m=>?_
 have o:=za A1 m;have q:=za R1 m;have d:=za O1 m;have z:=zb H1 m;replace a:=qo a m;clear A1 R1 O1 H1 m;have K:=bC o 10;have L:=bC o 11;obtain⟨a6,a7,a8,t,a9,b0,b1,b2,b3,b4,M,N⟩:=DQ d;have S:=zc d 4;have T:=zc d 5;have U:=zc d 6;have V:=zc d 7;have W:=zc d 8;have X:=zc d 9;have B:=zc d 10;have C:=zc d 11;obtain⟨y0,y1,y2,y3,y4,y5,y6,y7,y8,y9,b5,b6⟩:=DQ q;obtain⟨z0,z1,z2,z3,z4,z5,z6,z7,z8,z9,u,v⟩:=pw q;go_wp2;clear K L S T U V W X B C a6 a7 a8 t a9 b0 b1 b2 b3 b4 M N z0 y0 z1 y1 z2 y2 z3 y3 z4 y4 z5 y5 z6 y6 z7 y7 z8 y8 z9 y9 u b5 v b6;obtain⟨r,i⟩:=nM (qA v1 (w.heap.size+1+1) 4 [pe,len,hei,cl,all,be,unt,now]);have A2:r.heap[w.heap.size]?=some (.cells #[kind,own,name,(g,lgn,j),pe,len,hei,cl,all,be,unt,now] 31 (0,0)):=by rw[i];exact qk oM _ _ _ o
 have R2:r.heap[w.heap.size+1]?=some (.cells #[(),False,(),True,(),(),(),(),.bool false,(),(),()] 47 (0,0)):=by rw[i];exact qk oM _ _ _ q
 have O2:r.heap[w.heap.size+1+1]?=some (.cells #[kind,own,name,(some (b,0),lgn,lgn),pe,len,hei,cl,all,be,unt,now] 47 (0,0)):=by rw[i];exact Pm d
 have H2:Below w w r:=by rw[i];exact Zi oM _ _ _ z
 have c:r.rowIs b 3 lgn (λk=>int i64 (lg k)):=by rw[i];exact qJ oM _ _ _ a
 have H:r=((((((((v1.setCell (w.heap.size+1+1,4) pe).setCell (w.heap.size+1+1,5) len).setCell (w.heap.size+1+1,6) hei).setCell (w.heap.size+1+1,7) cl).setCell (w.heap.size+1+1,8) all).setCell (w.heap.size+1+1,9) be).setCell (w.heap.size+1+1,10) unt).setCell (w.heap.size+1+1,11) now):=by rw[i];rfl
 rw[← H];clear i H o q d z a;have a:=c;clear c;obtain⟨F,J⟩:=nM (qA r (w.heap.size+1) 0 [kind,own,name,(some (b,0),lgn,lgn),pe,len,hei,cl,all,be,unt,now]);have RF:F.heap[w.heap.size+1]?=some (.cells #[kind,own,name,(some (b,0),lgn,lgn),pe,len,hei,cl,all,be,unt,now] 47 (0,0)):=by rw[J];exact Pn R2
 have HF:Below w w F:=by rw[J];exact Zi oM _ _ _ H2
 have s:F.rowIs b 3 lgn (λk=>int i64 (lg k)):=by rw[J];exact qJ oM _ _ _ a
 have I:F=((((((((((((r.setCell (w.heap.size+1,0) kind).setCell (w.heap.size+1,1) own).setCell (w.heap.size+1,2) name).setCell (w.heap.size+1,3) (some (b,0),lgn,lgn)).setCell (w.heap.size+1,4) pe).setCell (w.heap.size+1,5) len).setCell (w.heap.size+1,6) hei).setCell (w.heap.size+1,7) cl).setCell (w.heap.size+1,8) all).setCell (w.heap.size+1,9) be).setCell (w.heap.size+1,10) unt).setCell (w.heap.size+1,11) now):=by rw[J];rfl
 rw[← I];clear J I;obtain⟨z0,z1,z2,z3,z4,z5,z6,z7,z8,z9,u,v⟩:=DQ RF;exact Jj (by simp[results,results10,go_sem,z0,z1,z2,z3,z4,z5,z6,z7,z8,z9,u,v]) rfl ⟨b,rfl,⟨D,s.lt,s⟩,HF⟩
theorem fe (kind:Int)(own:ByteArray)(name:Int)(b:Option Addr)(lgn j:Nat)(lg:Nat->Int)(pe:Int)(len:Int)(hei:Int)(cl:Int)(all:Bool)(be:Int)(unt:Int)(now:Int)(a:Option Addr)(h:Nat)(w:World)(o:lgn<=1048576)(n:zS w b lgn lg)(k:zS w a lgn lg) :
  Calls prog 14 #[.agg #[kind,own,name,(b,lgn,j),pe,len,hei,cl,all,be,unt,now],.agg #[kind,own,name,(a,lgn,h),pe,len,hei,cl,all,be,unt,now]] w λe w'=>e=.returned (.bool true)/\Below w w w':=by
 have i:Below _ w ((w.alloc (.cells #[kind,own,name,(b,lgn,j),pe,len,hei,cl,all,be,unt,now] 47)).alloc (.cells #[kind,own,name,(a,lgn,h),pe,len,hei,cl,all,be,unt,now] 47)):=zd (zd bZ _) _;have l:=Cs i;have m:=Dt i;go_enter func14,ntmps14;go_wp2_with fail;generalize (w.alloc _).alloc _=v at i l m ⊢;refine bM (Ij b _ lgn j _ lg _ o (n.j0 i) (k.j0 i)) λv0 c=>?_
 have f:=za l c;have g:=za m c;have F:=zb i c;clear l m i c;have p:=bC f 4;have x:=bC g 4;have q:=bC f 5;have y:=bC g 5;have r:=bC f 6;have z:=bC g 6;have s:=bC f 7;have A:=bC g 7;have t:=bC f 8;have B:=bC g 8;have u:=bC f 9;have C:=bC g 9;go_wp2_with fail;clear p x q y r z s A t B u C;refine bM (Gv pe len hei cl all be _) λv1 d=>?_
 have D:=za f d;have E:=za g d;have K:=zb F d;clear f g F d;have G:=bC D 10;have I:=bC E 10;have H:=bC D 11;have J:=bC E 11;go_wp2;go_ret;exact⟨rfl,K⟩
theorem ff (cs:List Value)(x:qD)(L:Int)(w:World)(f:0<=L)(g:L<=1048576)(j:qD.Short x 1000000000000000)(h:qD.Is w cs x) :
  Calls prog 7 #[.agg cs.toArray,L] w λe w'=>∃ r:Int,e=.returned r/\(r=-1∨(0<=r/\r<=L/\qD.Short x 1048576))/\Below w w w':=by
 obtain⟨c,d,rfl,i,k⟩:=h;obtain⟨a,b⟩:=j;exact fc _ _ _ _ _ _ _ _ _ _ _ _ _ _ L w f g a b
theorem KG (cs:List Value)(x:qD)(w:World)(k:qD.Short x 1048576)(h:qD.Is w cs x) :
  Calls prog 10 #[.agg cs.toArray] w λe w'=>∃ cs',e=.returned (.agg cs'.toArray)/\qD.In w' w.heap.size w'.heap.size cs' x/\Below w w w':=by
 obtain⟨f,g,rfl,b,l⟩:=h;obtain⟨_,a⟩:=k;refine(fd _ _ _ _ _ _ _ _ _ _ _ _ _ _ _ w a b).mono ?_;rintro e w' ⟨c,j,d,i⟩;exact⟨_,j,⟨c,rfl,d⟩,i⟩
theorem TF (cs g:List Value)(x:qD)(w:World)(m:qD.Short x 1048576)(h:qD.Is w cs x)(l:qD.Is w g x) :
  Calls prog 14 #[.agg cs.toArray,.agg g.toArray] w λe w'=>e=.returned (.bool true)/\Below w w w':=by
 obtain⟨j,k,rfl,c,n⟩:=h;obtain⟨d,f,rfl,a,i⟩:=l;obtain⟨_,b⟩:=m;exact fe _ _ _ _ _ _ _ _ _ _ _ _ _ _ _ _ _ w b c a
theorem Ti (a:Int)(b:ByteArray)(c:Int)(d:Int)(f:Int)(w:World) :
  Calls prog 126 #[.agg #[a,b,c,d,f],.agg #[a,b,c,d,f]] w λe w'=>e=.returned (.bool true)/\Below w w w':=by
 go_enter func126,ntmps126;go_wp2;go_ret;exact⟨rfl,zd (zd bZ _) _⟩
/-- eqRowS at two lists that are one. -/
theorem Rr (p bo:Option Addr)(n c1 c2:Nat)(S:Nat->Ao)(w:World)(hn:n<=2097152)(C:AX w p n S)(D:AX w bo n S) :
  Calls prog 60 #[(p,n,c1),(bo,n,c2)] w λe w'=>e=.returned (.bool true)/\Below w w w':=by
 go_enter func60,ntmps60;go_wp2;go_loopw [5] (λi wr=>∃ k,k<=n/\i=int i64 k/\Below w w wr) (λi _=>n - (intOf i).toNat)
 case atStart=>exact⟨0,Jq _,rfl,bZ⟩
 case round =>
  obtain⟨k,hk,rfl,a⟩:=hrel
  by_cases hlt:k<n
  ·obtain⟨b,off,rfl,o,h1,h2,h3,B⟩:=C k oM
   obtain⟨j,f,rfl,m,x,y,z,A⟩:=D k oM;have l:=Ja w _ o;have g:=Ja w _ m;have q:=tR a o l;have r:=tR a m g;have c1:=tR a h1 l;have s:=tR a x g;have c2:=tR a h2 l;have t:=tR a y g;have c3:=tR a h3 l;have u:=tR a z g;have c4:=tR a B l;have v:=tR a A g;clear o m h1 x h2 y h3 z B A;have h:b<wr.heap.size:=Nat.lt_of_lt_of_le l a.size;have d:j<wr.heap.size:=Nat.lt_of_lt_of_le g a.size;have i1:=n0 k;have i2:(k:Int)<(n:Int):=oM;go_wp2;go_region_held3 (λw'=>w'.cell? (b,off+k*5)=some (S k).k/\w'.cell? (b,off+k*5+1)=some (S k).j1/\w'.cell? (b,off+k*5+2)=some (S k).v/\w'.cell? (b,off+k*5+3)=some (S k).ln/\w'.cell? (b,off+k*5+4)=some (S k).H/\w'.cell? (j,f+k*5)=some (S k).k/\w'.cell? (j,f+k*5+1)=some (S k).j1/\w'.cell? (j,f+k*5+2)=some (S k).v/\w'.cell? (j,f+k*5+3)=some (S k).ln/\w'.cell? (j,f+k*5+4)=some (S k).H)
    (first|exact⟨q,c1,c2,c3,c4,r,s,t,u,v⟩|exact⟨tR c q h,tR c c1 h,tR c c2 h,tR c c3 h,tR c c4 h,tR c r d,tR c s d,tR c t d,tR c u d,tR c v d⟩)
    (first|(go_at_call 126;refine bM (Ti _ _ _ _ _ _) λw2 c=>?_))
   go_wp2;go_roundw
   case rel=>exact⟨k+1,by omega,by go_num,zb a.drew c⟩
   case measure=>simp[intOf];omega
  ·go_wp2
   go_ret;exact⟨rfl,a⟩
theorem GY (z:Int)(w:World)(a:0<=z)(hk:z<=1000000000000000) :
  Calls prog 71 #[z] w λe w'=>e=.returned (BF z.toNat)/\Below w w w':=by
 obtain⟨q,rfl⟩:=Int.eq_ofNat_of_zero_le a;exact IU q w oM
def QW (k0:Nat)(i:Nat):Ao:=⟨(k0:Int)+5*i,BF (k0+5*i+1),(k0:Int)+5*i+2,(k0:Int)+5*i+3,(k0:Int)+5*i+4⟩
theorem OI (o:Option Addr)(n c base k0:Nat)(S:Nat->Ao)(w:World)(hn:n<=2097152)(h1:k0<=100000000000000)(M:w.ownsRow base 203 5 (o,n,c) n (Zh S n)) :
  Calls prog 65 #[.slice o n c,int i64 k0] w λe w'=>e=.returned (int i64 ((k0+5*n:Nat):Int))/\w'.ownsRow base 203 5 (.slice o n c) n (Zh (QW k0) n)/\zl w w' (λb=>(Value.slice o n c).ownBlock=some b):=by
 go_enter func65,ntmps65;go_wp2;go_loopw [1,5] (λq i wr=>∃ (t k:Nat),t<=n/\i=int i64 t/\q=int i64 k/\k=k0+5*t/\wr.ownsRow base 203 5 (o,n,c) n ((List.range (n*5)).map (QS (λi=>if i<t then QW k0 i else S i)))/\zl w wr (λb=>(Value.slice o n c).ownBlock=some b)) (λ_ i _=>n - (intOf i).toNat)
 case atStart=>exact⟨0,k0,Jq _,rfl,rfl,by omega,by simpa [Zh] using M,zl.refl _ _⟩
 case round =>
  obtain⟨t,k,ht,rfl,rfl,p,f,x⟩:=hrel;have l:=hI p;have kb:k<=200000000000000:=oM;clear p
  by_cases hlt:t<n
  ·obtain⟨g,rfl,J,K⟩:=qr f oM
   obtain⟨v0,s⟩:∃ v,_=some v:=⟨_,zs f (t*5) oM rfl⟩;have u:=f.frozenAt (t*5);go_wp2_with fail;refine bM (GY _ _ oM oM) λw2 m=>?_
   have d:=zm m (zI f _ _);have y:=(x.set (a:=⟨g,t*5,_⟩) rfl _).trans (zl.of_below m);clear s u m f x;obtain⟨v1,B⟩:∃ v,_=some v:=⟨_,zs d (t*5+1) oM rfl⟩;have F:=d.frozenAt (t*5+1);obtain⟨v2,C⟩:∃ v,_=some v:=⟨_,zs d (t*5+2) oM rfl⟩;have G:=d.frozenAt (t*5+2);obtain⟨v3,D⟩:∃ v,_=some v:=⟨_,zs d (t*5+3) oM rfl⟩;have H:=d.frozenAt (t*5+3);obtain⟨v4,E⟩:∃ v,_=some v:=⟨_,zs d (t*5+4) oM rfl⟩;have I:=d.frozenAt (t*5+4);have r:((k:Int)+1).toNat=k0+5*t+1:=by have:=l.out;omega
   rw[r];clear r;go_wp2;go_roundw
   case rel =>
    refine⟨t+1,k+5,by omega,by go_num,by go_num,by have:=l.out;omega,qX (zI (zI (zI (zI d _ _) _ _) _ _) _ _) (λj hj=>?_),((((y.set (a:=⟨g,_+1,_⟩) rfl _).set (a:=⟨g,_+2,_⟩) rfl _).set (a:=⟨g,_+3,_⟩) rfl _).set (a:=⟨g,_+4,_⟩) rfl _)⟩
    have e0:(k:Int)=(k0:Int)+5*t:=by have:=l.out;omega
    have A:∀ (S'),(∀ i,i≠t->S' i=(if i<t then QW k0 i else S i))->(S' t=QW k0 t)->QS S' j=QS (λi=>if i<t+1 then QW k0 i else S i) j:=by
     intro S' h1 h2;unfold QS;have:S' (j / 5)=(if j / 5<t+1 then QW k0 (j / 5) else S (j / 5)):=by
      by_cases e:j / 5=t
      ·rw[e,h2,Jf oM]
      ·rw[h1 _ e]
       by_cases e2:j / 5<t
       ·rw[Jf e2,Jf oM]
       ·rw[Je e2,Je oM]
     rw[this]
    rw[← A (λi=>if i=t then QW k0 t else _) (λi h=>Je h) (Jf rfl)]
    by_cases h4:j=t*5+4
    ·subst h4;rw[Jf rfl,Hp,Jf rfl];simp[QW];try omega
    rw[Je h4]
    by_cases h3:j=t*5+3
    ·subst h3;rw[Jf rfl,Ho,Jf rfl];simp[QW];try omega
    rw[Je h3]
    by_cases h2:j=t*5+2
    ·subst h2;rw[Jf rfl,Hn,Jf rfl];simp[QW];try omega
    rw[Je h2]
    by_cases h1:j=t*5+1
    ·subst h1;rw[Jf rfl,Hm,Jf rfl];simp[QW];try omega
    rw[Je h1]
    by_cases h0:j=t*5
    ·subst h0;rw[Jf rfl,Hl,Jf rfl];simp[QW];try omega
    rw[Je h0];have z:j / 5≠t:=oM;unfold QS;simp only[Je z]
   case measure=>simp[intOf];omega
  ·obtain rfl:t=n:=by omega
   go_wp2;go_ret;refine⟨by rw[l.out];rfl,?_,x⟩
   rw[DO (S':=λi=>if i<t then _ else S i) (λi L=>(Jf L).symm)]
   exact f
theorem OJ (u:Option Addr)(n c k0:Nat)(w:World)(hn:n<=2097152)(h1:k0<=100000000000000)(y:AX w u n (QW k0)) :
  Calls prog 69 #[.slice u n c,int i64 k0] w λe w'=>e=.returned (int i64 ((k0+5*n:Nat):Int))/\Below w w w':=by
 have z:=hI y;clear y;go_enter func69,ntmps69;go_wp2;go_loopw [1,5] (λq i wr=>∃ (t k:Nat),t<=n/\i=int i64 t/\q=int i64 k/\k=k0+5*t/\Below w w wr) (λ_ i _=>n - (intOf i).toNat)
 case atStart=>exact⟨0,k0,Jq _,rfl,rfl,by omega,bZ⟩
 case round =>
  obtain⟨t,k,ht,rfl,rfl,o,a⟩:=hrel;have d:=hI o;have kb:k<=200000000000000:=oM;clear o
  by_cases hlt:t<n
  ·obtain⟨b,off,rfl,f,c1,c2,c3,c4⟩:=z t hlt
   simp only[QW] at f c1 c2 c3 c4;have v:(k0:Int)+5*t=(k:Int):=by have:=d.out;omega
   have x:k0+5*t+1=((k:Int)+1).toNat:=by have:=d;omega
   rw[v] at f c2 c3 c4;rw[x] at c1;have j:=Ja w _ f;have i1:=n0 t;have i2:(t:Int)<(n:Int):=oM;obtain⟨s,g⟩:=nM (BF ((k:Int)+1).toNat);rw[← g] at c1;have r:=hI g;have p:Hid (∀ w',Below _ w w'->_/\_/\_/\_/\_):=λw' h =>
    ⟨tR h f j,tR h c1 j,tR h c2 j,tR h c3 j,tR h c4 j⟩
   clear f c1 c2 c3 c4 v x g;obtain⟨f,c1,_,_,_⟩:=p wr a;go_wp2;clear f;go_region_held3 (λw'=>w'.cell? (b,off+t*5+1)=some (.string s))
    ((first|exact c1|exact(p _ (zb a.drew l)).2.1))
    (first|(go_at_call 71;refine bM (GY _ _ oM oM) λA l=>?_;rw[← r.out]))
   all_goals
    have m:=zb a.drew l;obtain⟨_,_,c2,c3,c4⟩:=p A m;have f2:(((k:Int)+2) != (k:Int)+1+1)=false:=by simp;omega
    have f3:(((k:Int)+3) != (k:Int)+1+1+1)=false:=by simp;omega
    have f4:(((k:Int)+4) != (k:Int)+1+1+1+1)=false:=by simp;omega
    go_wp2;go_roundw
    case rel=>exact⟨t+1,k+5,by omega,by go_num,by go_num,by have:=d.out;omega,m⟩
    case measure=>simp[intOf];omega
  ·obtain rfl:t=n:=by omega
   go_wp2;go_ret;exact⟨by rw[d.out];rfl,a⟩
theorem EL (c:Int)(b:Int)(price:Int)(f:Option Addr)(a j:Nat)(rw:Nat->Ao)(d:Option Addr)(h:Nat)(w:World)(p:a<=1048576)(n:AX w f a rw)(k:AX w d a rw) :
  Calls prog 13 #[.agg #[c,b,price,(f,a,j)],.agg #[c,b,price,(d,a,h)]] w λe w'=>e=.returned (.bool true)/\Below w w w':=by
 have i:Below _ w ((w.alloc (.cells #[c,b,price,(f,a,j)] 41)).alloc (.cells #[c,b,price,(d,a,h)] 41)):=zd (zd bZ _) _;have l:=Cs i;have m:=Dt i;go_enter func13,ntmps13;go_wp2_with fail;generalize (w.alloc _).alloc _=v at i l m ⊢;refine bM (Rr f _ a j _ rw _ oM (n.j0 i) (k.j0 i)) λv0 g=>?_
 have A1:=za l g;have B1:=za m g;have o:=zb i g;clear l m i g;go_wp2;go_ret;exact⟨rfl,o⟩
section
open Go.ChangeShapes Go.WideShapes Go.ChangeAt Go.RowKit
theorem Tryz.gForms: Tryz.prog.globalNamed "loop.example/g00084/impl.opForms" = some 9 := by kernel_rfl
theorem Tryz.gFormsType:(Tryz.prog.globals[9]?).map (·.type)=some 264:=kR
theorem Tryz.cellsF10:Tryz.prog.cellsOf 264=70:=kR
theorem Tryz.cellsForm:Tryz.prog.cellsOf 263=7:=kR
theorem Tryz.cellsInt1:Tryz.prog.cellsOf 3=1:=kR
theorem Tryz.cellsBool1:Tryz.prog.cellsOf 4=1:=kR
/-- A form read as its seven fields is those seven cells. -/
theorem Cd {e:TypeId × Value->H}{b:Nat->Bool}{c:Bool}{m:Nat}{l:List Value}{x:DataW H × List MemPlace}{g:Bool}{i:Int}{j k o p:Bool}
  (h:DataW.trod e prog W base b c m 263 l=some x) (I:x.1=.agg [.lit (.bool f),.lit (.bool g),.lit (.int .i64 i),.lit (.bool j),.lit (.bool k),.lit (.bool o),.lit (.bool p)]) :
  l=[.bool f,.bool g,int i64 i,.bool j,.bool k,.bool o,.bool p]:=by
 obtain⟨Q,n,_,rfl,G,d,a⟩:=DataW.trod_struct underlying263 h;rw[Tryz.cellsForm] at G
 match Q,d,l,G with
 |[y0,y1,y2,y3,y4,y5,y6],_,[c0,c1,c2,c3,c4,c5,c6],_ =>
  have y:=a 0 _ rfl;have z:=a 1 _ rfl;have B:=a 2 _ rfl;have C:=a 3 _ rfl;have D:=a 4 _ rfl;have E:=a 5 _ rfl;have F:=a 6 _ rfl;simp[Tryz.cellsInt1,Tryz.cellsBool1] at y z B C D E F;obtain⟨k0,q,J⟩:=DataW.trod_bool underlying4 y;obtain⟨k1,r,K⟩:=DataW.trod_bool underlying4 z;obtain⟨k2,s,L,_⟩:=DataW.trod_int underlying3 B;obtain⟨k3,t,M⟩:=DataW.trod_bool underlying4 C;obtain⟨k4,u,N⟩:=DataW.trod_bool underlying4 D;obtain⟨k5,v,O⟩:=DataW.trod_bool underlying4 E;obtain⟨k6,w,P⟩:=DataW.trod_bool underlying4 F;simp[J,K,L,M,N,O,P] at I;simp at q r s t u v w;obtain⟨rfl,rfl,rfl,rfl,rfl,rfl,rfl⟩:=I;rw[q,r,s,t,u,v,w]
theorem jj {l:List Value}{k j:Nat}(a:j<7)(r:List Value)(h:(l.drop (k*7)).take 7=r):l[k*7+j]?=r[j]?:=by
 rw[← h,List.getElem?_take,Jf a,List.getElem?_drop]
theorem jk {i:TypeId × Value->H}{d:Nat->Bool}{p:List MemPlace}{cs:Array Value}
  (hv : W.var? Tryz.prog "loop.example/g00084/impl.opForms" = some cs)
  (o:DataW.trod i prog W base d e fuel 264 cs.toList=some (Rows.laid_loop_example_g00084_impl_opForms,p)):Ze W:=by
 obtain⟨D,m,_,g,f,s,b⟩:=DataW.trod_array underlying264 o;rw[Tryz.cellsF10] at f;rw[Tryz.cellsForm] at b;have cell:=World.var?_cell Tryz.gForms hv;obtain⟨l⟩:=cs;simp only[Prod.mk.injEq] at g;have g:=g.1
 match D,s with
 |[x0,x1,x2,x3,x4,x5,x6,x7,x8,x9],_ =>
  simp[Rows.laid_loop_example_g00084_impl_opForms] at g;obtain⟨t,u,v,w,x,y,z,A,B,C⟩:=g;intro k hk;have c:∀ r,_->∀ j,_->W.cell? _=r[j]?:=λr h j q=>by
   have:=cell (k*7+j);simp at this;rw[this];exact jj q r h
  have n:k=0∨k=1∨k=2∨k=3∨k=4∨k=5∨k=6∨k=7∨k=8∨k=9:=oM
  rcases n with rfl|rfl|rfl|rfl|rfl|rfl|rfl|rfl|rfl|rfl
  ·have hr:=Cd (b 0 dC) t.symm
   have a:=c _ hr;exact⟨a 0 dC,a 1 dC,a 2 dC,a 3 dC,a 4 dC,a 5 dC,a 6 dC⟩
  ·have hr:=Cd (b 1 dC) u.symm
   have a:=c _ hr;exact⟨a 0 dC,a 1 dC,a 2 dC,a 3 dC,a 4 dC,a 5 dC,a 6 dC⟩
  ·have hr:=Cd (b 2 dC) v.symm
   have a:=c _ hr;exact⟨a 0 dC,a 1 dC,a 2 dC,a 3 dC,a 4 dC,a 5 dC,a 6 dC⟩
  ·have hr:=Cd (b 3 dC) w.symm
   have a:=c _ hr;exact⟨a 0 dC,a 1 dC,a 2 dC,a 3 dC,a 4 dC,a 5 dC,a 6 dC⟩
  ·have hr:=Cd (b 4 dC) x.symm
   have a:=c _ hr;exact⟨a 0 dC,a 1 dC,a 2 dC,a 3 dC,a 4 dC,a 5 dC,a 6 dC⟩
  ·have hr:=Cd (b 5 dC) y.symm
   have a:=c _ hr;exact⟨a 0 dC,a 1 dC,a 2 dC,a 3 dC,a 4 dC,a 5 dC,a 6 dC⟩
  ·have hr:=Cd (b 6 dC) z.symm
   have a:=c _ hr;exact⟨a 0 dC,a 1 dC,a 2 dC,a 3 dC,a 4 dC,a 5 dC,a 6 dC⟩
  ·have hr:=Cd (b 7 dC) A.symm
   have a:=c _ hr;exact⟨a 0 dC,a 1 dC,a 2 dC,a 3 dC,a 4 dC,a 5 dC,a 6 dC⟩
  ·have hr:=Cd (b 8 dC) B.symm
   have a:=c _ hr;exact⟨a 0 dC,a 1 dC,a 2 dC,a 3 dC,a 4 dC,a 5 dC,a 6 dC⟩
  ·have hr:=Cd (b 9 dC) C.symm
   have a:=c _ hr;exact⟨a 0 dC,a 1 dC,a 2 dC,a 3 dC,a 4 dC,a 5 dC,a 6 dC⟩
end
section
open Go.ChangeShapes Go.WideShapes Go.ChangeAt Go.RowKit
theorem Tryz.gBands: Tryz.prog.globalNamed "loop.example/g00084/impl.carBands" = some 11 := by kernel_rfl
theorem Tryz.gBandsType:(Tryz.prog.globals[11]?).map (·.type)=some 390:=kR
theorem Tryz.gFares: Tryz.prog.globalNamed "loop.example/g00084/impl.berthFares" = some 10 := by kernel_rfl
theorem Tryz.gFaresType:(Tryz.prog.globals[10]?).map (·.type)=some 386:=kR
theorem Tryz.cellsB3:Tryz.prog.cellsOf 390=6:=kR
theorem Tryz.cellsBand:Tryz.prog.cellsOf 389=2:=kR
theorem Tryz.cellsI3:Tryz.prog.cellsOf 386=3:=kR
theorem Tryz.cellsI1:Tryz.prog.cellsOf 3=1:=kR
/-- A band read as its two numbers is those two cells. -/
theorem OK {e:TypeId × Value->H}{a:Nat->Bool}{m:Nat}{x:DataW H × List MemPlace}{i j:Int}
  (h:DataW.trod e prog W base a b m 389 [c,d]=some x) (f:x.1=.agg [.lit (.int .i64 i),.lit (.int .i64 j)]):c=.int .i64 i/\d=.int .i64 j:=by
 obtain⟨y0,y1,n,rfl,hl,l,h1⟩:=trod_struct2 underlying389 h;simp only[Tryz.cellsI1] at l h1;obtain⟨k0,g,o,_⟩:=DataW.trod_int underlying3 l;obtain⟨k1,k,p,_⟩:=DataW.trod_int underlying3 h1;simp at g k;rw[o,p] at f;simp at f;obtain⟨rfl,rfl⟩:=f;exact⟨g,k⟩
theorem jl {f:TypeId × Value->H}{d:Nat->Bool}{p:List MemPlace}{cs:Array Value}
  (hv : W.var? Tryz.prog "loop.example/g00084/impl.carBands" = some cs)
  (h:DataW.trod f prog W base d e fuel 390 cs.toList=some (Rows.laid_loop_example_g00084_impl_carBands,p)):Zn W:=by
 obtain⟨j,m,_,c,b,i,a⟩:=DataW.trod_array underlying390 h;rw[Tryz.cellsB3] at b;rw[Tryz.cellsBand] at a;have cell:=World.var?_cell Tryz.gBands hv;obtain⟨l⟩:=cs;simp only[Prod.mk.injEq] at c;have c:=c.1
 match j,i,l,b with
 |[x0,x1,x2],_,[c0,c1,c2,c3,c4,c5],_ =>
  have g:=a 0 dC;have h1:=a 1 dC;have h2:=a 2 dC;simp at g h1 h2;simp[Rows.laid_loop_example_g00084_impl_carBands] at c;obtain⟨rfl,rfl⟩:=OK g c.1.symm;obtain⟨rfl,rfl⟩:=OK h1 c.2.1.symm;obtain⟨rfl,rfl⟩:=OK h2 c.2.2.symm;exact⟨by simpa using cell 0,by simpa using cell 1,by simpa using cell 2,by simpa using cell 3,by simpa using cell 4,by simpa using cell 5⟩
theorem jm {f:TypeId × Value->H}{c:Nat->Bool}{d:Bool}{p:List MemPlace}{cs:Array Value}
  (hv : W.var? Tryz.prog "loop.example/g00084/impl.berthFares" = some cs)
  (q:DataW.trod f prog W base c d fuel 386 cs.toList=some (Rows.laid_loop_example_g00084_impl_berthFares,p)):Zp W:=by
 obtain⟨s,m,_,e,b,r,a⟩:=DataW.trod_array underlying386 q;rw[Tryz.cellsI3] at b;rw[Tryz.cellsI1] at a;have cell:=World.var?_cell Tryz.gFares hv;obtain⟨l⟩:=cs;simp only[Prod.mk.injEq] at e;have e:=e.1
 match s,r,l,b with
 |[x0,x1,x2],_,[c0,c1,c2],_ =>
  have j:=a 0 dC;have h1:=a 1 dC;have h2:=a 2 dC;simp at j h1 h2;obtain⟨k0,g,k,_⟩:=DataW.trod_int underlying3 j;obtain⟨k1,h,n,_⟩:=DataW.trod_int underlying3 h1;obtain⟨k2,i,o,_⟩:=DataW.trod_int underlying3 h2;simp[Rows.laid_loop_example_g00084_impl_berthFares,k,n,o] at e;simp at g h i;obtain⟨rfl,rfl,rfl⟩:=e;subst g h i;exact⟨by simpa using cell 0,by simpa using cell 1,by simpa using cell 2⟩
end
section
open Go.ChangeShapes Go.WideShapes Go.ChangeAt Go.RowKit
theorem Tryz.gE1: Tryz.prog.globalNamed "loop.example/g00084/impl.errForm" = some 1 := by kernel_rfl
theorem Tryz.tE1:(Tryz.prog.globals[1]?).map (·.type)=some 92:=kR
theorem Tryz.gE2: Tryz.prog.globalNamed "loop.example/g00084/impl.errRoute" = some 2 := by kernel_rfl
theorem Tryz.tE2:(Tryz.prog.globals[2]?).map (·.type)=some 92:=kR
theorem Tryz.gE3: Tryz.prog.globalNamed "loop.example/g00084/impl.errNone" = some 3 := by kernel_rfl
theorem Tryz.tE3:(Tryz.prog.globals[3]?).map (·.type)=some 92:=kR
theorem Tryz.gE4: Tryz.prog.globalNamed "loop.example/g00084/impl.errState" = some 4 := by kernel_rfl
theorem Tryz.tE4:(Tryz.prog.globals[4]?).map (·.type)=some 92:=kR
theorem Tryz.gE5: Tryz.prog.globalNamed "loop.example/g00084/impl.errDeck" = some 5 := by kernel_rfl
theorem Tryz.tE5:(Tryz.prog.globals[5]?).map (·.type)=some 92:=kR
theorem Tryz.gE6: Tryz.prog.globalNamed "loop.example/g00084/impl.errCabin" = some 6 := by kernel_rfl
theorem Tryz.tE6:(Tryz.prog.globals[6]?).map (·.type)=some 92:=kR
theorem Tryz.gE7: Tryz.prog.globalNamed "loop.example/g00084/impl.errPeople" = some 7 := by kernel_rfl
theorem Tryz.tE7:(Tryz.prog.globals[7]?).map (·.type)=some 92:=kR
theorem Tryz.gE8: Tryz.prog.globalNamed "loop.example/g00084/impl.errFull" = some 8 := by kernel_rfl
theorem Tryz.tE8:(Tryz.prog.globals[8]?).map (·.type)=some 92:=kR
theorem errStar: "*" ++ "errors.errorString" = "*errors.errorString" := by decide
theorem Tryz.errRow (u : TypeId) (h : Tryz.prog.typeName? 3 u = some "*errors.errorString") : u = 391 :=
 typeName_ptr_named (nm := "errors.errorString") (by rw [errStar]; kernel_rfl) (by kernel_rfl) (by decide) u (by rw [errStar]; exact h)
theorem Tryz.errCells:Tryz.prog.cellsOf 413=1:=kR
theorem Tryz.strCells:Tryz.prog.cellsOf 9=1:=kR
def txOf:DataW Unit->List UInt8
 |.iface _ (.ptr (.agg [.lit (.string s)]))=>s
 |_=>[]
def ng (k:Nat):DataW Unit:=match k with
 |1=>Rows.laid_loop_example_g00084_impl_errForm
 |2=>Rows.laid_loop_example_g00084_impl_errRoute
 |3=>Rows.laid_loop_example_g00084_impl_errNone
 |4=>Rows.laid_loop_example_g00084_impl_errState
 |5=>Rows.laid_loop_example_g00084_impl_errDeck
 |6=>Rows.laid_loop_example_g00084_impl_errCabin
 |7=>Rows.laid_loop_example_g00084_impl_errPeople
 |8=>Rows.laid_loop_example_g00084_impl_errFull
 |_=>.nil
theorem dy:((List.range 9).all λi=>(List.range 9).all λj=>i == 0 || j == 0 || i == j || txOf (ng i) != txOf (ng j))=true:=kR
theorem OL {n nm:String}{d:List UInt8}{r:List (String × DataW Unit)}{E C B D:TypeId}{Q:Array (String × TypeId)}{f:Field}
  (h:laidMet P ((n,.iface nm (.ptr (.agg [.lit (.string d)]))) :: r) W)
  (I:P.globalNamed n=some g) (N:(P.globals[g]?).map (·.type)=some E) (K:P.underlying E=some (.interface Q)) (j:∀ u,P.typeName? 3 u=some nm->u=C)
  (L:P.underlying C=some (.pointer B)) (H:P.underlying B=some (.struct #[f])) (x:f.type=D) (w:f.offset=0) (M:P.underlying D=some .string) (G:P.cellsOf B=1) (p:P.cellsOf D=1) :
  ∃ (a:Addr) (s:ByteArray),W.cell? (g,0)=some (.iface C (.pointer (some a)))/\W.cell? a=some (.string s)/\s.data.toList=d/\∃ cs t,W.heap[a.block]?=some (.cells cs t (0,0)):=by
 obtain⟨ps,⟨g0,t0,m,f0,p0,q0,i,z,k,q,_,F⟩,_,b⟩:=h;obtain rfl:=Option.some.inj (I.symm.trans i);obtain rfl:=Option.some.inj (N.symm.trans z);subst F;obtain⟨O⟩:=m;have A:∀ u v,O=[.iface u v]->Value.okWide P W _ 0 u v:=λu v e=>by
  subst e;exact(b g 0 (by simp[MemPlace.row])).2 u v (by simpa using World.var?_cell i k 0)
 obtain⟨l,R,rfl,o,y,_,rfl⟩:=errorString_of_trod K j L H x w M G p q A;obtain⟨⟨c,t,J⟩,_⟩:=b l.block l.off (by simp[MemPlace.row])
 exact⟨l,R,by simpa using World.var?_cell i k 0,o,y,c,t,J⟩
theorem sentinel_at {n : String}  {d : DataW Unit} {r : List (String × DataW Unit)}  (h : laidMet Tryz.prog ((n, d) :: r) W) (hd : d = .iface "*errors.errorString" (.ptr (.agg [.lit (.string (txOf d))]))) (hg : Tryz.prog.globalNamed n = some g) (ht : (Tryz.prog.globals[g]?).map (·.type) = some 92) :
  ∃ (a:Addr) (s:ByteArray),W.cell? ⟨g,0,none⟩=some (.iface 391 (.pointer (some a)))/\W.cell? a=some (.string s)/\s.data.toList=txOf d/\∃ cs t,W.heap[a.block]?=some (.cells cs t (0,0)):=by
 rw[hd] at h;exact OL h hg ht underlying92 Tryz.errRow underlying391 underlying413 rfl rfl underlying9 Tryz.errCells Tryz.strCells
theorem Tryz.rtypeRow: (Tryz.prog.cutTypes.find? (·.1 == "internal/reflectlite.rtype")).map (·.2) = some 284 := by kernel_rfl
theorem Tryz.errTypeRow:((List.range Tryz.prog.types.size).filter λt=>Tryz.prog.rowNamed t [101,114,114,111,114])=[92]:=kR
theorem Tryz.errHandle:typeHandle prog 92=.pointer (some (12,92)):=kR
theorem Tryz.gErrType: Tryz.prog.globalNamed "errors.errorType" = some 0 := by kernel_rfl
theorem handle_at  {r : List (String × DataW Unit)} (h : handlesMet Tryz.prog (("errors.errorType", Rows.laid_errors_errorType) :: r) W) : W.cell? ⟨0, 0, none⟩ = some (.iface 284 (.agg #[.pointer (some ⟨12, 92, none⟩)])) := by
 obtain⟨name,u,i,c,d,e,f,a⟩:=h _ (List.mem_cons_self ..);have g:=(Option.some.inj c).symm;subst g;obtain rfl:=Option.some.inj (Tryz.rtypeRow.symm.trans d);have b:i ∈ (List.range _).filter λt=>Tryz.prog.rowNamed t _:=List.mem_filter.2 ⟨List.mem_range.2 e,f⟩
 rw[Tryz.errTypeRow] at b;obtain rfl:=List.mem_singleton.1 b;rw[Tryz.errHandle] at a
 simpa using World.var?_cell Tryz.gErrType a 0
def lVars : List (String × DataW Unit) := [("loop.example/g00084/impl.carBands", Rows.laid_loop_example_g00084_impl_carBands), ("loop.example/g00084/impl.berthFares", Rows.laid_loop_example_g00084_impl_berthFares), ("loop.example/g00084/impl.errForm", Rows.laid_loop_example_g00084_impl_errForm), ("loop.example/g00084/impl.errRoute", Rows.laid_loop_example_g00084_impl_errRoute), ("loop.example/g00084/impl.errNone", Rows.laid_loop_example_g00084_impl_errNone), ("loop.example/g00084/impl.errState", Rows.laid_loop_example_g00084_impl_errState), ("loop.example/g00084/impl.errDeck", Rows.laid_loop_example_g00084_impl_errDeck), ("loop.example/g00084/impl.errCabin", Rows.laid_loop_example_g00084_impl_errCabin), ("loop.example/g00084/impl.errPeople", Rows.laid_loop_example_g00084_impl_errPeople), ("loop.example/g00084/impl.errFull", Rows.laid_loop_example_g00084_impl_errFull), ("loop.example/g00084/impl.opForms", Rows.laid_loop_example_g00084_impl_opForms)]
theorem jp (h:laidMet prog lVars W):∃ pe,Ze W/\(Zn W/\Zp W)/\qI W pe:=by
 unfold lVars at h;have K:=h;have L:=K.tail;have M:=L.tail;obtain⟨g,s1,c1,Z,t1,o1⟩:=sentinel_at M rfl Tryz.gE1 Tryz.tE1;have N:=M.tail;obtain⟨l,s2,c2,d2,t2,o2⟩:=sentinel_at N rfl Tryz.gE2 Tryz.tE2;have O:=N.tail;obtain⟨m,s3,c3,d3,t3,o3⟩:=sentinel_at O rfl Tryz.gE3 Tryz.tE3;have P:=O.tail;obtain⟨n,s4,c4,d4,t4,o4⟩:=sentinel_at P rfl Tryz.gE4 Tryz.tE4;have Q:=P.tail;obtain⟨p,s5,c5,d5,t5,o5⟩:=sentinel_at Q rfl Tryz.gE5 Tryz.tE5;have R:=Q.tail;obtain⟨q,s6,c6,d6,t6,o6⟩:=sentinel_at R rfl Tryz.gE6 Tryz.tE6;have S:=R.tail;obtain⟨r,s7,c7,d7,t7,o7⟩:=sentinel_at S rfl Tryz.gE7 Tryz.tE7;have T:=S.tail;obtain⟨u,s8,c8,d8,t8,o8⟩:=sentinel_at T rfl Tryz.gE8 Tryz.tE8;have J:=T.tail;obtain⟨_,⟨g0,u0,V,f0,p0,q0,z,D,G,w,_⟩,_⟩:=K;obtain rfl:=Option.some.inj (Tryz.gBands.symm.trans z);obtain rfl:=Option.some.inj (Tryz.gBandsType.symm.trans D);obtain⟨_,⟨g1,u1,X,f1,p1,q1,A,E,H,x,_⟩,_⟩:=L;obtain rfl:=Option.some.inj (Tryz.gFares.symm.trans A);obtain rfl:=Option.some.inj (Tryz.gFaresType.symm.trans E);obtain⟨_,⟨g2,u2,Y,f2,p2,q2,B,F,I,y,_⟩,_⟩:=J;obtain rfl:=Option.some.inj (Tryz.gForms.symm.trans B);obtain rfl:=Option.some.inj (Tryz.gFormsType.symm.trans F);have d:∀ k,1<=k->k<=8->k=1∨k=2∨k=3∨k=4∨k=5∨k=6∨k=7∨k=8:=λk h1 h2=>by omega
 have jr:∀ k,_->_->∃ a s,a=(match k with|1=>g|2=>l|3=>m|4=>n|5=>p|6=>q|7=>r|_=>u)/\W.cell? a=some (.string s)/\s.data.toList=txOf (ng k)/\∃ cs t,W.heap[a.block]?=some (.cells cs t _):=λk h1 h2=>by
  rcases d k h1 h2 with rfl|rfl|rfl|rfl|rfl|rfl|rfl|rfl
  ·exact⟨g,s1,rfl,Z,t1,o1⟩
  ·exact⟨l,s2,rfl,d2,t2,o2⟩
  ·exact⟨m,s3,rfl,d3,t3,o3⟩
  ·exact⟨n,s4,rfl,d4,t4,o4⟩
  ·exact⟨p,s5,rfl,d5,t5,o5⟩
  ·exact⟨q,s6,rfl,d6,t6,o6⟩
  ·exact⟨r,s7,rfl,d7,t7,o7⟩
  ·exact⟨u,s8,rfl,d8,t8,o8⟩
 refine⟨λk=>match k with|1=>g|2=>l|3=>m|4=>n|5=>p|6=>q|7=>r|_=>u,jk I y,⟨jl G w,jm H x⟩,c1,c2,c3,c4,c5,c6,c7,c8,λk h1 h2=>?_,λi j h1 h2 h3 h4 a0 e=>?_⟩
 ·obtain⟨a,s,rfl,_,_,o⟩:=jr k h1 h2
  exact o
 ·obtain⟨a,s,ea,da,U,_⟩:=jr i h1 h2
  obtain⟨b,s',eb,f,tb,_⟩:=jr j h3 h4;have v:=ea.trans (Eq.trans e eb.symm);subst v;rw[da] at f;have es:s=s':=by injection f with f;injection f
  have c:=dy;simp only[List.all_eq_true,List.mem_range] at c;have C:=c i oM j oM;rw[es,tb] at U;simp[U] at C
  omega
end
section
open Go.ChangeShapes Go.WideShapes Go.ChangeAt Go.RowKit Go.Deep Go.Joins
theorem LF {H:Type}{P:Program}{e:Nat}{x:Nat}:∀ {l:List (DataW H)}{d:DataW H},d ∈ l->x ∈ DataW.weights P e d->x ∈ DataW.weightsAll P e l:=by
 intro l
 induction l with
 |nil=>intro d h;cases h
 |cons a l ih =>
  intro d h b;rw[DataW.weightsAll,List.mem_append]
  rcases List.mem_cons.1 h with rfl|h
  ·exact .inl b
  ·exact .inr (ih h b)
section
variable {H : Type} {enc : TypeId × Value -> H} {P : Program} {w : World} {base : Nat} {held : Bool}
theorem BT {t e fuel sz bytes:Nat}{v:Value}{x:DataW H × List MemPlace}(E:P.underlying t=some (.slice e))(K:P.cellsOf e=sz)(h0:0<sz)(B:P.bytesOf e=bytes)
  (h:DataW.trod enc P w base (λ_=>true) held fuel t [v]=some x) (M:∀ y ∈ DataW.weights P t x.1,y<=reachBytes) :
  ∃ ao n d C,v=.slice ao n d/\Qo w ao n sz C/\n<=d/\(ao=none->n=0/\d=0)/\d*bytes<=reachBytes /\
   ∀ k,k<n->(C k).length=sz/\∃ u z,DataW.trod enc P w base (λ_=>true) held u e (C k)=some z/\∀ y ∈ DataW.weights P e z.1,y<=reachBytes:=by
 rcases open_slice E h with⟨l,G⟩|⟨a,n,d,m,u,D,Pl,l,_,L,hm,s,G,f⟩
 ·simp at l
  subst l;exact⟨_,0,0,λ_=>[],rfl,λk c=>absurd c (Nat.not_lt_zero _),Jr _,λ_=>⟨rfl,rfl⟩,by omega,λk c=>absurd c (Nat.not_lt_zero _)⟩
 ·simp at l
  subst l;rw[Jf rfl] at s;subst s;have q:=by
   have:=M ((n+(m - n))*P.bytesOf e) (by rw[G];simp[DataW.weights,E])
   rw[B,show n+(m - n)=m by omega] at this
   exact this
  by_cases hn0:n=0
  ·subst hn0
   exact⟨_,0,m,λ_=>[],rfl,λk c=>absurd c (Nat.not_lt_zero _),L,(λh=>by cases h),q,λk c=>absurd c (Nat.not_lt_zero _)⟩
  have p:a.spot=none:=by
   obtain⟨cs,i,_⟩:=f 0 oM;rw[K] at i;obtain⟨_,r,o⟩:=World.cells?_some i;have J:=o 0 oM;rw[List.getElem?_eq_getElem oM] at J;have:=World.cell?_spot J
   simpa [Addr.add] using this
  obtain⟨b,off,spot⟩:=a;simp only at p;subst p;have I:∀ k,k<n->∃ cs,(cs.length=sz/\∀ j,j<sz->w.cell? (b,off+k*sz+j)=some (cs.getD j (.bool false)))/\∃ u z,DataW.trod enc P w base (λ_=>true) held u e cs=some z/\∀ y ∈ DataW.weights P e z.1,y<=reachBytes:=by
   intro k c;obtain⟨cs,i,F⟩:=f k oM;rw[K] at i;obtain⟨_,r,o⟩:=World.cells?_some i;refine⟨cs,⟨r,λj N=>?_⟩,_,_,F,λy O=>?_⟩
   ·have g:=o j N
    rw[List.getElem?_eq_getElem oM] at g;rw[List.getD_eq_getElem?_getD,List.getElem?_eq_getElem oM];simp only[Addr.add_lit] at g;exact g
   ·refine M y ?_
    have h1:D k ∈ _:=List.mem_map.2 ⟨k,List.mem_range.2 c,rfl⟩;have h2:=LF h1 O;rw[G];simp[DataW.weights,E,h2]
  obtain⟨C,A⟩:=choose_lt I;exact⟨_,n,m,C,rfl,λk c=>⟨b,off,rfl,(A k c).1.2⟩,L,(λh=>by cases h),q,λk c=>⟨(A k c).1.1,(A k c).2⟩⟩
end
end
section
open Go.ChangeShapes Go.WideShapes Go.ChangeAt Go.RowKit Go.Deep Go.Joins
section
variable {H : Type} {enc : TypeId × Value -> H} {P : Program} {w : World} {base : Nat} {spare : Nat -> Bool} {held : Bool}
theorem LG {t e fuel B bytes:Nat}{C E:Field}{v:Value}{x:DataW H × List MemPlace}(S:P.underlying t=some (.slice e))(U:P.underlying e=some (.struct #[C,E]))(O:P.cellsOf e=2)
  (t0:C.type=B) (t1:E.type=B) (Y:C.offset=0) (Z:E.offset=1)
  (Q:P.underlying B=some (.int .i64)) (J:P.cellsOf B=1) (F:P.bytesOf e=bytes)
  (h:DataW.trod enc P w base (λ_=>true) held fuel t [v]=some x) (W:∀ y ∈ DataW.weights P t x.1,y<=reachBytes) :
  ∃ ao d l,v=.slice ao l.n d/\zJ w ao l/\l.n<=d/\(ao=none->l.n=0/\d=0)/\d*bytes<=reachBytes:=by
 rcases open_slice S h with⟨j,T⟩|⟨a,n,d,m,fl,D,Pl,j,_,R,hm,A,T,g⟩
 ·simp at j
  subst j;exact⟨_,0,⟨0,λ_=>0,λ_=>0⟩,rfl,λk u=>absurd u (Nat.not_lt_zero _),Jr _,λ_=>⟨rfl,rfl⟩,by omega⟩
 ·simp at j
  subst j;rw[Jf rfl] at A;subst A;have r:=by
   have:=W ((n+(m - n))*P.bytesOf e) (by rw[T];simp[DataW.weights,S])
   rw[F,show n+(m - n)=m by omega] at this
   exact this
  by_cases hn0:n=0
  ·subst hn0
   exact⟨_,m,⟨0,λ_=>0,λ_=>0⟩,rfl,λk u=>absurd u (Nat.not_lt_zero _),R,(λh=>by cases h),r⟩
  have o:a.spot=none:=by
   obtain⟨cs,i,_⟩:=g 0 oM;rw[O] at i;obtain⟨_,s,c⟩:=World.cells?_some i;have z:=c 0 oM;rw[List.getElem?_eq_getElem oM] at z;have:=World.cell?_spot z
   simpa [Addr.add] using this
  obtain⟨b,off,spot⟩:=a;simp only at o;subst o;have I:∀ k,k<n->∃ (y:Int × Int),w.cell? (b,off+k*2)=some (int i64 y.1)/\w.cell? (b,off+k*2+1)=some (int i64 y.2):=by
   intro k u;obtain⟨cs,i,G⟩:=g k oM;rw[O] at i;obtain⟨_,s,c⟩:=World.cells?_some i;obtain⟨y0,y1,n',_,_,N,h1⟩:=trod_struct2 U G;rw[t0,Y,J] at N;rw[t1,Z,J] at h1
   match cs,s with
   |[p,q],_ =>
    obtain⟨X,K,_,_⟩:=DataW.trod_int Q N;obtain⟨i1,L,_,_⟩:=DataW.trod_int Q h1;simp at K L;subst K L;have z:=c 0 oM;have M:=c 1 oM;simp only[List.getElem?_cons_zero,List.getElem?_cons_succ,Addr.add_lit,Nat.add_zero] at z M;exact⟨(X,i1),z,M⟩
  obtain⟨f,V⟩:=choose_lt I;exact⟨_,m,⟨n,λk=>_,λk=>_⟩,rfl,λk u=>⟨b,off,rfl,V k u⟩,R,(λh=>by cases h),r⟩
end
theorem Tryz.j1:ownKnob Tryz.prog.godebug=none:=kR
theorem Tryz.laidOut:laidOutB prog=true:=kR
theorem Tryz.j8:Tryz.prog.cellsOf 3=1:=kR
theorem Tryz.cellsBool:Tryz.prog.cellsOf 4=1:=kR
end
section
open Go.ChangeShapes Go.WideShapes Go.ChangeAt Go.RowKit Go.Deep Go.Joins
section
variable {H : Type} {enc : TypeId × Value -> H} {P : Program} {w : World} {base : Nat} {spare : Nat -> Bool} {held : Bool}
theorem OM {t:TypeId}{b c d f3 e f g i:Field}{fuel:Nat}{cs:List Value}{x:DataW H × List MemPlace}(l:P.underlying t=some (.struct #[b,c,d,f3,e,f,g,i]))(h:DataW.trod enc P w base spare held fuel t cs=some x) :
  ∃ y0 y1 y2 y3 y4 y5 y6 y7 n,x.1=.agg [y0.1,y1.1,y2.1,y3.1,y4.1,y5.1,y6.1,y7.1]/\cs.length=P.cellsOf t/\DataW.trod enc P w base spare held n b.type ((cs.drop b.offset).take (P.cellsOf b.type))=some y0 /\
   DataW.trod enc P w base spare held n c.type ((cs.drop c.offset).take (P.cellsOf c.type))=some y1/\DataW.trod enc P w base spare held n d.type ((cs.drop d.offset).take (P.cellsOf d.type))=some y2 /\
   DataW.trod enc P w base spare held n f3.type ((cs.drop f3.offset).take (P.cellsOf f3.type))=some y3/\DataW.trod enc P w base spare held n e.type ((cs.drop e.offset).take (P.cellsOf e.type))=some y4 /\
   DataW.trod enc P w base spare held n f.type ((cs.drop f.offset).take (P.cellsOf f.type))=some y5/\DataW.trod enc P w base spare held n g.type ((cs.drop g.offset).take (P.cellsOf g.type))=some y6 /\
   DataW.trod enc P w base spare held n i.type ((cs.drop i.offset).take (P.cellsOf i.type))=some y7:=by
 obtain⟨m,n,_,rfl,k,j,a⟩:=DataW.trod_struct l h
 match m,j with
 |[y0,y1,y2,y3,y4,y5,y6,y7],_=>exact⟨y0,y1,y2,y3,y4,y5,y6,y7,n,by simp,k,by simpa using a 0 b rfl,by simpa using a 1 c rfl,by simpa using a 2 d rfl,by simpa using a 3 f3 rfl,by simpa using a 4 e rfl,by simpa using a 5 f rfl,by simpa using a 6 g rfl,by simpa using a 7 i rfl⟩
theorem pu {α:Type}{cs:List α}(h:cs.length=8):∃ c0 c1 c2 c3 c4 c5 c6 c7,cs=[c0,c1,c2,c3,c4,c5,c6,c7]:=by
 match cs,h with
 |[c0,c1,c2,c3,c4,c5,c6,c7],_=>exact⟨c0,c1,c2,c3,c4,c5,c6,c7,rfl⟩
end
theorem Tryz.cellsSailing:Tryz.prog.cellsOf 126=8:=kR
theorem Tryz.cellsLane:Tryz.prog.cellsOf 308=2:=kR
theorem Tryz.cellsLaneS:Tryz.prog.cellsOf 123=1:=kR
theorem Tryz.cellsCabin:Tryz.prog.cellsOf 310=2:=kR
theorem Tryz.cellsCabinS:Tryz.prog.cellsOf 124=1:=kR
theorem Tryz.cellsStr:Tryz.prog.cellsOf 9=1:=kR
theorem Tryz.bytesLane:Tryz.prog.bytesOf 308=16:=kR
theorem Tryz.bytesCabin:Tryz.prog.bytesOf 310=16:=kR
/-- The cells of a sailing that came in. -/
theorem ee {H:Type}{g:TypeId × Value->H}{W:World}{base fuel:Nat}{b:Bool}{cs:List Value}{x:DataW H × List MemPlace}
  (h:DataW.trod g prog W base (λ_=>true) b fuel 126 cs=some x) (c:∀ y ∈ DataW.weights prog 126 x.1,y<=reachBytes) :
  ∃ (s:qe) (la:Option Addr) (f:Nat) (ca:Option Addr) (e:Nat),cs=[int i64 s.S,.string s.U,.string s.dst,int i64 s.O,int i64 s.T,.slice la s.la.n f,.slice ca s.M.n e,int i64 s.N] /\
   zJ W la s.la/\zJ W ca s.M/\qm la s.la.n f/\qm ca s.M.n e/\Ks s 1000000000000000:=by
 obtain⟨y0,y1,y2,y3,y4,y5,y6,y7,n,d,z,r,h1,h2,h3,t,u,v,w⟩:=OM underlying126 h;rw[d] at c;rw[Tryz.cellsSailing] at z;obtain⟨c0,c1,c2,c3,c4,c5,c6,c7,rfl⟩:=pu z;simp only[Tryz.j8,Tryz.cellsStr,Tryz.cellsLaneS,Tryz.cellsCabinS,List.drop,List.take] at r h1 h2 h3 t u v w;obtain⟨L,k,_,_⟩:=DataW.trod_int underlying3 r;obtain⟨i,l,R,_⟩:=DataW.trod_string underlying9 h1;obtain⟨j,m,S,_⟩:=DataW.trod_string underlying9 h2;obtain⟨M,o,_,_⟩:=DataW.trod_int underlying3 h3;obtain⟨N,p,_,_⟩:=DataW.trod_int underlying3 t;obtain⟨O,q,_,_⟩:=DataW.trod_int underlying3 w;obtain⟨la,f,A,rfl,C,D,E,F⟩:=LG underlying123 underlying308 Tryz.cellsLane rfl rfl rfl rfl underlying3 Tryz.j8 Tryz.bytesLane u (λx d=>c x (by simp[DataW.weights,DataW.weightsEach,underlying126,d]))
 obtain⟨ca,e,B,rfl,G,I,J,K⟩:=LG underlying124 underlying310 Tryz.cellsCabin rfl rfl rfl rfl underlying3 Tryz.j8 Tryz.bytesCabin v (λx d=>c x (by simp[DataW.weights,DataW.weightsEach,underlying126,d]))
 have P:=c i.size (by rw[R];simp[DataW.weights,DataW.weightsEach,underlying126])
 have Q:=c j.size (by rw[S];simp[DataW.weights,DataW.weightsEach,underlying126])
 simp at k l m o p q;subst k l m o p q;unfold reachBytes at F K P Q;exact⟨⟨L,i,j,M,N,A,B,O⟩,la,f,ca,e,rfl,C,G,⟨D,by omega,E⟩,⟨I,by omega,J⟩,⟨by show i.size<=_;omega,by show j.size<=_;omega,by show A.n<=_;omega,by show B.n<=_;omega⟩⟩
end
section
open Go.ChangeShapes Go.WideShapes Go.ChangeAt Go.RowKit Go.Deep Go.Joins
theorem Tryz.bytesSailing:Tryz.prog.bytesOf 126=112:=kR
end
section
open Go.ChangeShapes Go.WideShapes Go.ChangeAt Go.RowKit Go.Deep Go.Joins
theorem Tj {l:TypeId × Value->H}{j:Bool}{x:DataW H × List MemPlace}
  (h:DataW.trod l prog W base (λ_=>true) j fuel 22 [v]=some x) (D:∀ y ∈ DataW.weights prog 22 x.1,y<=reachBytes) :
  ∃ i n c S,v=.slice i n c/\qy W i n S/\qm i n c/\Qz n S 1000000000000000/\n<=1000000000000000:=by
 obtain⟨i,n,c,C,rfl,hr,w,A,q,u⟩:=BT underlying22 Tryz.cellsSailing oM Tryz.bytesSailing h D;have o:∀ k,k<n->∃ s,Ks s 1000000000000000/\∃ (la:_) (g:Nat) (ca:_) (f:Nat),C k=[int i64 s.S,.string s.U,.string s.dst,int i64 s.O,int i64 s.T,.slice la s.la.n g,.slice ca s.M.n f,int i64 s.N] /\
   zJ W la s.la/\zJ W ca s.M/\qm la s.la.n g/\qm ca s.M.n f:=by
  intro k a;obtain⟨_,fl,z,B,E⟩:=u k a;obtain⟨s,la,g,ca,f,e,h1,h2,h3,m,t⟩:=ee B E;exact⟨s,t,la,g,ca,f,e,h1,h2,h3,m⟩
 obtain⟨S,p⟩:=choose_lt o;refine⟨i,n,c,S,rfl,λk a=>?_,⟨w,by unfold reachBytes at q;omega,A⟩,λk a=>(p k a).1,by unfold reachBytes at q;omega⟩
 obtain⟨b,off,e,d⟩:=hr k a;obtain⟨_,la,g,ca,f,r,h1,h2,h3,m⟩:=p k a;rw[r] at d;exact⟨b,off,la,g,ca,f,e,d 0 oM,d 1 oM,d 2 oM,d 3 oM,d 4 oM,d 5 oM,d 6 oM,d 7 oM,h1,h2,h3,m⟩
end
section
open Go.ChangeShapes Go.WideShapes Go.ChangeAt Go.RowKit Go.Deep Go.Joins
theorem Tryz.cellsStay:Tryz.prog.cellsOf 312=4:=kR
theorem Tryz.bytesStay:Tryz.prog.bytesOf 312=32:=kR
theorem Ic {c:TypeId × Value->H}{a:Nat->Bool}{t:TypeId}{d e f f3:Field}{x:DataW H × List MemPlace}(j:P.underlying t=some (.struct #[d,e,f,f3]))(h:DataW.trod c P w base a b fuel t cs=some x) :
  ∃ y0 y1 y2 y3 n,DataW.trod c P w base a b n d.type ((cs.drop d.offset).take (P.cellsOf d.type))=some y0/\DataW.trod c P w base a b n e.type ((cs.drop e.offset).take (P.cellsOf e.type))=some y1/\DataW.trod c P w base a b n f.type ((cs.drop f.offset).take (P.cellsOf f.type))=some y2/\DataW.trod c P w base a b n f3.type ((cs.drop f3.offset).take (P.cellsOf f3.type))=some y3:=by
 obtain⟨k,n,_,rfl,hl,g,i⟩:=DataW.trod_struct j h
 match k,g with
 |[y0,y1,y2,y3],_=>exact⟨y0,y1,y2,y3,n,by simpa using i 0 d rfl,by simpa using i 1 e rfl,by simpa using i 2 f rfl,by simpa using i 3 f3 rfl⟩
end
section
open Go.ChangeShapes Go.WideShapes Go.ChangeAt Go.RowKit Go.Deep Go.Joins
theorem Tryz.cellsRoom:Tryz.prog.cellsOf 314=4:=kR
theorem Tryz.bytesRoom:Tryz.prog.bytesOf 314=32:=kR
theorem Ie {c:TypeId × Value->H}{a:Nat->Bool}{t:TypeId}{d e f f3:Field}{x:DataW H × List MemPlace}(j:P.underlying t=some (.struct #[d,e,f,f3]))(h:DataW.trod c P w base a b fuel t cs=some x) :
  ∃ y0 y1 y2 y3 n,DataW.trod c P w base a b n d.type ((cs.drop d.offset).take (P.cellsOf d.type))=some y0/\DataW.trod c P w base a b n e.type ((cs.drop e.offset).take (P.cellsOf e.type))=some y1/\DataW.trod c P w base a b n f.type ((cs.drop f.offset).take (P.cellsOf f.type))=some y2/\DataW.trod c P w base a b n f3.type ((cs.drop f3.offset).take (P.cellsOf f3.type))=some y3:=by
 obtain⟨k,n,_,rfl,hl,g,i⟩:=DataW.trod_struct j h
 match k,g with
 |[y0,y1,y2,y3],_=>exact⟨y0,y1,y2,y3,n,by simpa using i 0 d rfl,by simpa using i 1 e rfl,by simpa using i 2 f rfl,by simpa using i 3 f3 rfl⟩
end
section
open Go.ChangeShapes Go.WideShapes Go.ChangeAt Go.RowKit Go.Deep Go.Joins
theorem Tryz.cellsSeat:Tryz.prog.cellsOf 316=2:=kR
theorem Tryz.bytesSeat:Tryz.prog.bytesOf 316=16:=kR
theorem If {c:TypeId × Value->H}{a:Nat->Bool}{t:TypeId}{d e:Field}{x:DataW H × List MemPlace}(i:P.underlying t=some (.struct #[d,e]))(h:DataW.trod c P w base a b fuel t cs=some x) :
  ∃ y0 y1 n,DataW.trod c P w base a b n d.type ((cs.drop d.offset).take (P.cellsOf d.type))=some y0/\DataW.trod c P w base a b n e.type ((cs.drop e.offset).take (P.cellsOf e.type))=some y1:=by
 obtain⟨j,n,_,rfl,hl,f,g⟩:=DataW.trod_struct i h
 match j,f with
 |[y0,y1],_=>exact⟨y0,y1,n,by simpa using g 0 d rfl,by simpa using g 1 e rfl⟩
end
section
open Go.ChangeShapes Go.WideShapes Go.ChangeAt Go.RowKit Go.Deep Go.Joins
theorem Tk {j:TypeId × Value->H}{g:Bool}{x:DataW H × List MemPlace}
  (h:DataW.trod j prog W base (λ_=>true) g fuel 128 [v]=some x) (F:∀ y ∈ DataW.weights prog 128 x.1,y<=reachBytes) :
  ∃ d n a S,v=.slice d n a/\qx W d n S/\qm d n a/\n<=1000000000000000:=by
 obtain⟨d,n,a,C,rfl,hr,B,D,u,A⟩:=BT underlying128 Tryz.cellsStay oM Tryz.bytesStay h F;have o:∀ k,k<n->∃ y:ql,C k=[int i64 y.e,int i64 y.ln,int i64 y.f,int i64 y.j]:=by
  intro k c;obtain⟨i,fl,z,E,_⟩:=A k c;obtain⟨y0,y1,y2,y3,m,t,h1,h2,h3⟩:=Ic underlying312 E;simp only[Tryz.j8] at t h1 h2 h3;generalize C k=l at *
  match l,i with
  |[p0,p1,p2,p3],_ =>
   obtain⟨G,p,_,_⟩:=DataW.trod_int underlying3 t;obtain⟨i1,q,_,_⟩:=DataW.trod_int underlying3 h1;obtain⟨i2,r,_,_⟩:=DataW.trod_int underlying3 h2;obtain⟨I,s,_,_⟩:=DataW.trod_int underlying3 h3;simp at p q r s;subst p q r s;exact⟨⟨G,i1,i2,I⟩,rfl⟩
 obtain⟨S,w⟩:=choose_lt o;refine⟨d,n,a,S,rfl,λk c=>?_,⟨B,by unfold reachBytes at u;omega,D⟩,by unfold reachBytes at u;omega⟩
 obtain⟨b,off,e,f⟩:=hr k c;rw[w k c] at f;exact⟨b,off,e,f 0 oM,f 1 oM,f 2 oM,f 3 oM⟩
theorem Tl {j:TypeId × Value->H}{g:Bool}{x:DataW H × List MemPlace}
  (h:DataW.trod j prog W base (λ_=>true) g fuel 129 [v]=some x) (F:∀ y ∈ DataW.weights prog 129 x.1,y<=reachBytes) :
  ∃ d n a S,v=.slice d n a/\qn W d n S/\qm d n a/\n<=1000000000000000:=by
 obtain⟨d,n,a,C,rfl,hr,B,D,u,A⟩:=BT underlying129 Tryz.cellsRoom oM Tryz.bytesRoom h F;have o:∀ k,k<n->∃ y:zU,C k=[int i64 y.e,int i64 y.H,int i64 y.z,.bool y.h]:=by
  intro k c;obtain⟨i,fl,z,E,_⟩:=A k c;obtain⟨y0,y1,y2,y3,m,t,h1,h2,h3⟩:=Ie underlying314 E;simp only[Tryz.j8,Tryz.cellsBool] at t h1 h2 h3;generalize C k=l at *
  match l,i with
  |[p0,p1,p2,p3],_ =>
   obtain⟨G,p,_,_⟩:=DataW.trod_int underlying3 t;obtain⟨i1,q,_,_⟩:=DataW.trod_int underlying3 h1;obtain⟨i2,r,_,_⟩:=DataW.trod_int underlying3 h2;obtain⟨I,s,_⟩:=DataW.trod_bool underlying4 h3;simp at p q r s;subst p q r s;exact⟨⟨G,i1,i2,I⟩,rfl⟩
 obtain⟨S,w⟩:=choose_lt o;refine⟨d,n,a,S,rfl,λk c=>?_,⟨B,by unfold reachBytes at u;omega,D⟩,by unfold reachBytes at u;omega⟩
 obtain⟨b,off,e,f⟩:=hr k c;rw[w k c] at f;exact⟨b,off,e,f 0 oM,f 1 oM,f 2 oM,f 3 oM⟩
theorem Tm {i:TypeId × Value->H}{x:DataW H × List MemPlace}
  (h:DataW.trod i prog W base (λ_=>true) f fuel 130 [v]=some x) (D:∀ y ∈ DataW.weights prog 130 x.1,y<=reachBytes) :
  ∃ d n a S,v=.slice d n a/\qC W d n S/\qm d n a/\n<=1000000000000000:=by
 obtain⟨d,n,a,C,rfl,hr,w,A,s,u⟩:=BT underlying130 Tryz.cellsSeat oM Tryz.bytesSeat h D;have o:∀ k,k<n->∃ y:qO,C k=[int i64 y.e,int i64 y.z]:=by
  intro k c;obtain⟨g,fl,z,B,_⟩:=u k c;obtain⟨y0,y1,m,r,h1⟩:=If underlying316 B;simp only[Tryz.j8] at r h1;generalize C k=l at *
  match l,g with
  |[p0,p1],_ =>
   obtain⟨E,p,_,_⟩:=DataW.trod_int underlying3 r;obtain⟨i1,q,_,_⟩:=DataW.trod_int underlying3 h1;simp at p q;subst p q;exact⟨⟨E,i1⟩,rfl⟩
 obtain⟨S,t⟩:=choose_lt o;refine⟨d,n,a,S,rfl,λk c=>?_,⟨w,by unfold reachBytes at s;omega,A⟩,by unfold reachBytes at s;omega⟩
 obtain⟨b,off,e,j⟩:=hr k c;rw[t k c] at j;exact⟨b,off,e,j 0 oM,j 1 oM⟩
end
section
open Go.ChangeShapes Go.WideShapes Go.ChangeAt Go.RowKit Go.Deep Go.Joins
theorem Tryz.cellsLoad:Tryz.prog.cellsOf 132=3:=kR
theorem Tryz.cellsRoomSLoad:Tryz.prog.cellsOf 129=1:=kR
theorem Tryz.cellsSeatSLoad:Tryz.prog.cellsOf 130=1:=kR
theorem Tryz.cellsStaySLoad:Tryz.prog.cellsOf 128=1:=kR
theorem Tryz.bytesLoad:Tryz.prog.bytesOf 132=72:=kR
theorem Ig {c:TypeId × Value->H}{a:Nat->Bool}{t:TypeId}{d e f:Field}{x:DataW H × List MemPlace}(k:P.underlying t=some (.struct #[d,e,f]))(h:DataW.trod c P w base a b fuel t cs=some x) :
  ∃ y0 y1 y2 n,x.1=.agg [y0.1,y1.1,y2.1]/\cs.length=P.cellsOf t/\DataW.trod c P w base a b n d.type ((cs.drop d.offset).take (P.cellsOf d.type))=some y0/\DataW.trod c P w base a b n e.type ((cs.drop e.offset).take (P.cellsOf e.type))=some y1/\DataW.trod c P w base a b n f.type ((cs.drop f.offset).take (P.cellsOf f.type))=some y2:=by
 obtain⟨l,n,_,rfl,j,g,i⟩:=DataW.trod_struct k h
 match l,g with
 |[y0,y1,y2],_=>exact⟨y0,y1,y2,n,by simp,j,by simpa using i 0 d rfl,by simpa using i 1 e rfl,by simpa using i 2 f rfl⟩
theorem eh {cs:List α}(h:cs.length=3):∃ c0 c1 c2,cs=[c0,c1,c2]:=by
 match cs,h with
 |[c0,c1,c2],_=>exact⟨c0,c1,c2,rfl⟩
/-- The cells of a sailing's load that came in. -/
theorem ep {l:TypeId × Value->H}{c:Bool}{x:DataW H × List MemPlace}
  (h:DataW.trod l prog W base (λ_=>true) c fuel 132 cs=some x) (d:∀ y ∈ DataW.weights prog 132 x.1,y<=reachBytes) :
  ∃ s:zw,zw.Is W cs s/\zw.Short s 1000000000000000:=by
 obtain⟨y0,y1,y2,n,b,G,F,h1,h2⟩:=Ig underlying132 h;rw[b] at d;rw[Tryz.cellsLoad] at G;obtain⟨c0,c1,c2,rfl⟩:=eh G;simp only[Tryz.cellsRoomSLoad,Tryz.cellsSeatSLoad,Tryz.cellsStaySLoad,List.drop,List.take] at F h1 h2;obtain⟨g,w,k,t,I,p,E,B⟩:=Tk F (λx b=>d x (by simp[DataW.weights,DataW.weightsEach,underlying132,b]))
 obtain⟨e,u,i,q,J,m,C,z⟩:=Tl h1 (λx b=>d x (by simp[DataW.weights,DataW.weightsEach,underlying132,b]))
 obtain⟨f,v,j,r,K,o,D,A⟩:=Tm h2 (λx b=>d x (by simp[DataW.weights,DataW.weightsEach,underlying132,b]))
 subst I J K;exact⟨⟨w,t,u,q,v,r⟩,⟨g,k,e,i,f,j,rfl,p,E,m,C,o,D⟩,⟨(show _ from B),(show _ from z),(show _ from A)⟩⟩
instance:Inhabited zw:=⟨⟨0,λ_=>ql.zero,0,λ_=>zU.zero,0,λ_=>qO.zero⟩⟩
theorem Tn {e:TypeId × Value->H}{d:Bool}{x:DataW H × List MemPlace}
  (h:DataW.trod e prog W base (λ_=>true) d fuel 23 [v]=some x) (p:∀ y ∈ DataW.weights prog 23 x.1,y<=reachBytes) :
  ∃ c n b S,v=.slice c n b/\ZA W c n S/\qm c n b/\Zy n S 1000000000000000/\n<=1000000000000000:=by
 obtain⟨c,n,b,C,rfl,hr,l,m,i,j⟩:=BT underlying23 Tryz.cellsLoad oM Tryz.bytesLoad h p;have f:∀ k,k<n->∃ s,zw.Is W (C k) s/\zw.Short s 1000000000000000:=by
  intro k a;obtain⟨_,fl,z,o,q⟩:=j k a;exact ep o q
 obtain⟨S,g⟩:=choose_lt f;exact⟨c,n,b,S,rfl,⟨C,hr,λk a=>(g k a).1⟩,⟨l,by unfold reachBytes at i;omega,m⟩,λk a=>(g k a).2,by unfold reachBytes at i;omega⟩
end
section
open Go.ChangeShapes Go.WideShapes Go.ChangeAt Go.RowKit Go.Deep Go.Joins
theorem Tryz.bytesInt:Tryz.prog.bytesOf 3=8:=kR
end
section
open Go.ChangeShapes Go.WideShapes Go.ChangeAt Go.RowKit Go.Deep Go.Joins
theorem LH {j:TypeId × Value->H}{x:DataW H × List MemPlace}
  (h:DataW.trod j prog W base (λ_=>true) f fuel 27 [v]=some x) (w:∀ y ∈ DataW.weights prog 27 x.1,y<=reachBytes) :
  ∃ d n a S,v=.slice d n a/\zS W d n S/\qm d n a/\n<=1000000000000000:=by
 obtain⟨d,n,a,C,rfl,hr,s,t,m,r⟩:=BT underlying27 Tryz.j8 oM Tryz.bytesInt h w;have l:∀ k,k<n->∃ y:Int,C k=[int i64 y]:=by
  intro k c;obtain⟨o,fl,z,u,_⟩:=r k c;obtain⟨i,e,_,_⟩:=DataW.trod_int underlying3 u;exact⟨i,e⟩
 obtain⟨S,p⟩:=choose_lt l;refine⟨d,n,a,S,rfl,λk c=>?_,⟨s,by unfold reachBytes at m;omega,t⟩,by unfold reachBytes at m;omega⟩
 obtain⟨b,off,e,q⟩:=hr k c;have g:=q 0 oM;rw[p k c,Nat.mul_one] at g;exact⟨b,off,e,g⟩
end
section
open Go.ChangeShapes Go.WideShapes Go.ChangeAt Go.RowKit Go.Deep Go.Joins
theorem Tryz.cellsParty:Tryz.prog.cellsOf 29=6:=kR
theorem GZ {c:TypeId × Value->H}{a:Nat->Bool}{t:TypeId}{e f g f3 i j:Field}{x:DataW H × List MemPlace}(m:P.underlying t=some (.struct #[e,f,g,f3,i,j]))(h:DataW.trod c P w base a b fuel t cs=some x) :
  ∃ y0 y1 y2 y3 y4 y5 n,cs.length=P.cellsOf t/\DataW.trod c P w base a b n e.type ((cs.drop e.offset).take (P.cellsOf e.type))=some y0/\DataW.trod c P w base a b n f.type ((cs.drop f.offset).take (P.cellsOf f.type))=some y1/\DataW.trod c P w base a b n g.type ((cs.drop g.offset).take (P.cellsOf g.type))=some y2/\DataW.trod c P w base a b n f3.type ((cs.drop f3.offset).take (P.cellsOf f3.type))=some y3/\DataW.trod c P w base a b n i.type ((cs.drop i.offset).take (P.cellsOf i.type))=some y4/\DataW.trod c P w base a b n j.type ((cs.drop j.offset).take (P.cellsOf j.type))=some y5:=by
 obtain⟨o,n,_,rfl,l,k,d⟩:=DataW.trod_struct m h
 match o,k with
 |[y0,y1,y2,y3,y4,y5],_=>exact⟨y0,y1,y2,y3,y4,y5,n,l,by simpa using d 0 e rfl,by simpa using d 1 f rfl,by simpa using d 2 g rfl,by simpa using d 3 f3 rfl,by simpa using d 4 i rfl,by simpa using d 5 j rfl⟩
end
section
open Go.ChangeShapes Go.WideShapes Go.ChangeAt Go.RowKit Go.Deep Go.Joins
theorem Tryz.cellsBooking:Tryz.prog.cellsOf 135=13:=kR
theorem Tryz.cellsIntSBooking:Tryz.prog.cellsOf 27=1:=kR
theorem Tryz.bytesBooking:Tryz.prog.bytesOf 135=128:=kR
theorem Tryz.cellsStrBooking:Tryz.prog.cellsOf 9=1:=kR
theorem FL {c:TypeId × Value->H}{a:Nat->Bool}{t:TypeId}{e f g f3 i j k l:Field}{x:DataW H × List MemPlace}(p:P.underlying t=some (.struct #[e,f,g,f3,i,j,k,l]))(h:DataW.trod c P w base a b fuel t cs=some x) :
  ∃ y0 y1 y2 y3 y4 y5 y6 y7 n,x.1=.agg [y0.1,y1.1,y2.1,y3.1,y4.1,y5.1,y6.1,y7.1]/\cs.length=P.cellsOf t/\DataW.trod c P w base a b n e.type ((cs.drop e.offset).take (P.cellsOf e.type))=some y0/\DataW.trod c P w base a b n f.type ((cs.drop f.offset).take (P.cellsOf f.type))=some y1/\DataW.trod c P w base a b n g.type ((cs.drop g.offset).take (P.cellsOf g.type))=some y2/\DataW.trod c P w base a b n f3.type ((cs.drop f3.offset).take (P.cellsOf f3.type))=some y3/\DataW.trod c P w base a b n i.type ((cs.drop i.offset).take (P.cellsOf i.type))=some y4/\DataW.trod c P w base a b n j.type ((cs.drop j.offset).take (P.cellsOf j.type))=some y5/\DataW.trod c P w base a b n k.type ((cs.drop k.offset).take (P.cellsOf k.type))=some y6/\DataW.trod c P w base a b n l.type ((cs.drop l.offset).take (P.cellsOf l.type))=some y7:=by
 obtain⟨q,n,_,rfl,o,m,d⟩:=DataW.trod_struct p h
 match q,m with
 |[y0,y1,y2,y3,y4,y5,y6,y7],_=>exact⟨y0,y1,y2,y3,y4,y5,y6,y7,n,by simp,o,by simpa using d 0 e rfl,by simpa using d 1 f rfl,by simpa using d 2 g rfl,by simpa using d 3 f3 rfl,by simpa using d 4 i rfl,by simpa using d 5 j rfl,by simpa using d 6 k rfl,by simpa using d 7 l rfl⟩
theorem ON {cs:List α}(h:cs.length=13):∃ c0 c1 c2 c3 c4 c5 c6 c7 c8 c9 c10 c11 c12,cs=[c0,c1,c2,c3,c4,c5,c6,c7,c8,c9,c10,c11,c12]:=by
 match cs,h with
 |[c0,c1,c2,c3,c4,c5,c6,c7,c8,c9,c10,c11,c12],_=>exact⟨c0,c1,c2,c3,c4,c5,c6,c7,c8,c9,c10,c11,c12,rfl⟩
/-- The cells of a booking that came in. -/
theorem OO {k:TypeId × Value->H}{x:DataW H × List MemPlace}
  (h:DataW.trod k prog W base (λ_=>true) e fuel 135 cs=some x) (o:∀ y ∈ DataW.weights prog 135 x.1,y<=reachBytes) :
  ∃ s:zA,zA.Is W cs s/\zA.Short s 1000000000000000:=by
 obtain⟨y0,y1,y2,y3,y4,y5,y6,y7,n,p,N,I,h1,h2,h3,J,K,L,M⟩:=FL underlying135 h;rw[p] at o;rw[Tryz.cellsBooking] at N;obtain⟨c0,c1,c2,c3,c4,c5,c6,c7,c8,c9,T,U,V,rfl⟩:=ON N;simp only[Tryz.j8,Tryz.cellsStrBooking,Tryz.cellsIntSBooking,Tryz.cellsParty,List.drop,List.take] at I h1 h2 h3 J K L M;obtain⟨v0,w,_,_⟩:=DataW.trod_int underlying3 I;obtain⟨v1,z,_,_⟩:=DataW.trod_int underlying3 h1;obtain⟨v2,A,x2,_⟩:=DataW.trod_string underlying9 h2;have w2:=o v2.size (by rw[x2];simp[DataW.weights,DataW.weightsEach,underlying135])
 unfold reachBytes at w2;obtain⟨i,f,j,q,X,l,r,g⟩:=LH h3 (λx p=>o x (by simp[DataW.weights,DataW.weightsEach,underlying135,p]))
 obtain⟨p0,p1,p2,p3,p4,p5,m,_,k0,O,P,Q,R,S⟩:=GZ underlying29 J;simp only[Tryz.j8,Tryz.cellsBool,List.drop,List.take] at k0 O P Q R S;obtain⟨v4,B,_,_⟩:=DataW.trod_int underlying3 k0;obtain⟨v5,C,_,_⟩:=DataW.trod_int underlying3 O;obtain⟨v6,D,_,_⟩:=DataW.trod_int underlying3 P;obtain⟨v7,E,_,_⟩:=DataW.trod_int underlying3 Q;obtain⟨Y,F,_⟩:=DataW.trod_bool underlying4 R;obtain⟨Z,G,_,_⟩:=DataW.trod_int underlying3 S;obtain⟨t,b,_,_⟩:=DataW.trod_int underlying3 K;obtain⟨u,c,_,_⟩:=DataW.trod_int underlying3 L;obtain⟨v,d,_,_⟩:=DataW.trod_int underlying3 M;simp at w z A B C D E F G b c d;subst w z A B C D E F G b c d;subst X;exact⟨⟨v0,v1,v2,f,q,v4,v5,v6,v7,Y,Z,t,u,v⟩,⟨i,j,rfl,l,r⟩,⟨(show v2.size<=_ by omega),(show f<=_ from g)⟩⟩
instance:Inhabited zA:=⟨⟨0,0,⟨#[]⟩,0,λ_=>0,0,0,0,0,false,0,0,0,0⟩⟩
theorem MN {e:TypeId × Value->H}{d:Bool}{x:DataW H × List MemPlace}
  (h:DataW.trod e prog W base (λ_=>true) d fuel 24 [v]=some x) (p:∀ y ∈ DataW.weights prog 24 x.1,y<=reachBytes) :
  ∃ c n b S,v=.slice c n b/\qL W c n S/\qm c n b/\ZY n S 1000000000000000/\n<=1000000000000000:=by
 obtain⟨c,n,b,C,rfl,hr,l,m,i,j⟩:=BT underlying24 Tryz.cellsBooking oM Tryz.bytesBooking h p;have f:∀ k,k<n->∃ s,zA.Is W (C k) s/\zA.Short s 1000000000000000:=by
  intro k a;obtain⟨_,fl,z,o,q⟩:=j k a;exact OO o q
 obtain⟨S,g⟩:=choose_lt f;exact⟨c,n,b,S,rfl,⟨C,hr,λk a=>(g k a).1⟩,⟨l,by unfold reachBytes at i;omega,m⟩,λk a=>(g k a).2,by unfold reachBytes at i;omega⟩
end
section
open Go.ChangeShapes Go.WideShapes Go.ChangeAt Go.RowKit Go.Deep Go.Joins
theorem Tryz.cellsOp:Tryz.prog.cellsOf 31=12:=kR
theorem Tryz.cellsIntSOp:Tryz.prog.cellsOf 27=1:=kR
theorem Tryz.cellsStrOp:Tryz.prog.cellsOf 9=1:=kR
theorem LI {c:TypeId × Value->H}{a:Nat->Bool}{t:TypeId}{e f g f3 i j k:Field}{x:DataW H × List MemPlace}(o:P.underlying t=some (.struct #[e,f,g,f3,i,j,k]))(h:DataW.trod c P w base a b fuel t cs=some x) :
  ∃ y0 y1 y2 y3 y4 y5 y6 n,x.1=.agg [y0.1,y1.1,y2.1,y3.1,y4.1,y5.1,y6.1]/\cs.length=P.cellsOf t/\DataW.trod c P w base a b n e.type ((cs.drop e.offset).take (P.cellsOf e.type))=some y0/\DataW.trod c P w base a b n f.type ((cs.drop f.offset).take (P.cellsOf f.type))=some y1/\DataW.trod c P w base a b n g.type ((cs.drop g.offset).take (P.cellsOf g.type))=some y2/\DataW.trod c P w base a b n f3.type ((cs.drop f3.offset).take (P.cellsOf f3.type))=some y3/\DataW.trod c P w base a b n i.type ((cs.drop i.offset).take (P.cellsOf i.type))=some y4/\DataW.trod c P w base a b n j.type ((cs.drop j.offset).take (P.cellsOf j.type))=some y5/\DataW.trod c P w base a b n k.type ((cs.drop k.offset).take (P.cellsOf k.type))=some y6:=by
 obtain⟨p,n,_,rfl,m,l,d⟩:=DataW.trod_struct o h
 match p,l with
 |[y0,y1,y2,y3,y4,y5,y6],_=>exact⟨y0,y1,y2,y3,y4,y5,y6,n,by simp,m,by simpa using d 0 e rfl,by simpa using d 1 f rfl,by simpa using d 2 g rfl,by simpa using d 3 f3 rfl,by simpa using d 4 i rfl,by simpa using d 5 j rfl,by simpa using d 6 k rfl⟩
theorem lp {cs:List α}(h:cs.length=12):∃ c0 c1 c2 c3 c4 c5 c6 c7 c8 c9 c10 c11,cs=[c0,c1,c2,c3,c4,c5,c6,c7,c8,c9,c10,c11]:=by
 match cs,h with
 |[c0,c1,c2,c3,c4,c5,c6,c7,c8,c9,c10,c11],_=>exact⟨c0,c1,c2,c3,c4,c5,c6,c7,c8,c9,c10,c11,rfl⟩
/-- The cells of an operation that came in. -/
theorem lq {i:TypeId × Value->H}{c:Bool}{x:DataW H × List MemPlace}
  (h:DataW.trod i prog W base (λ_=>true) c fuel 31 cs=some x) (k:∀ y ∈ DataW.weights prog 31 x.1,y<=reachBytes) :
  ∃ s:qD,qD.Is W cs s/\qD.Short s 1000000000000000:=by
 obtain⟨y0,y1,y2,y3,y4,y5,y6,n,l,J,E,h1,h2,h3,F,G,I⟩:=LI underlying31 h;rw[l] at k;rw[Tryz.cellsOp] at J;obtain⟨c0,c1,c2,c3,c4,c5,c6,c7,c8,c9,P,Q,rfl⟩:=lp J;simp only[Tryz.j8,Tryz.cellsStrOp,Tryz.cellsIntSOp,Tryz.cellsParty,List.drop,List.take] at E h1 h2 h3 F G I;obtain⟨v0,t,_,_⟩:=DataW.trod_int underlying3 E;obtain⟨v1,u,V,_⟩:=DataW.trod_string underlying9 h1;have U:=k v1.size (by rw[V];simp[DataW.weights,DataW.weightsEach,underlying31])
 unfold reachBytes at U;obtain⟨v2,v,_,_⟩:=DataW.trod_int underlying3 h2;obtain⟨f,d,g,o,R,j,p,e⟩:=LH h3 (λx l=>k x (by simp[DataW.weights,DataW.weightsEach,underlying31,l]))
 obtain⟨p0,p1,p2,p3,p4,p5,m,_,k0,K,L,M,N,O⟩:=GZ underlying29 F;simp only[Tryz.j8,Tryz.cellsBool,List.drop,List.take] at k0 K L M N O;obtain⟨v4,w,_,_⟩:=DataW.trod_int underlying3 k0;obtain⟨v5,z,_,_⟩:=DataW.trod_int underlying3 K;obtain⟨v6,A,_,_⟩:=DataW.trod_int underlying3 L;obtain⟨v7,B,_,_⟩:=DataW.trod_int underlying3 M;obtain⟨S,C,_⟩:=DataW.trod_bool underlying4 N;obtain⟨T,D,_,_⟩:=DataW.trod_int underlying3 O;obtain⟨q,a,_,_⟩:=DataW.trod_int underlying3 G;obtain⟨r,b,_,_⟩:=DataW.trod_int underlying3 I;simp at t u v w z A B C D a b;subst t u v w z A B C D a b;subst R;exact⟨⟨v0,v1,v2,d,o,v4,v5,v6,v7,S,T,q,r⟩,⟨f,g,rfl,j,p⟩,⟨(show v1.size<=_ by omega),(show d<=_ from e)⟩⟩
/-- By value. -/
theorem lr {a:TypeId × Value->H}{d:DataW H}{p:List MemPlace}(c:Value.okWide prog W .any base 31 v)
  (h:DataW.Trod a prog W 0 (λ_=>true) true 31 v d p) (e:∀ x ∈ DataW.weights prog 31 d,x<=reachBytes) :
  ∃ (cs:List Value) (s:qD),v=.agg cs.toArray/\qD.Is W cs s/\qD.Short s 1000000000000000:=by
 obtain⟨cs,rfl,_⟩:=okWide_struct underlying31 c;obtain⟨fuel,b⟩:=h;obtain⟨s,h1,h2⟩:=lq b e;exact⟨cs.toList,s,by simp,by simpa [Value.cells] using h1,h2⟩
end
end Go.Proofs.YtmdnjgihooflfaaGreatDoor
