/-
  OWN TEXT: KitOp, LOp, InI, AsksI, CarW, ClassI, WishI.
-/
import Derived.Deep.RegionHeld3
import Derived.Deep.DeepCutAuto
import Derived.Test.YtmdnjgihooflfaaGreatDoorKitCo
import Derived.Test.YtmdnjgihooflfaaGreatDoorRows
import Derived.Deep.LoopGhost
import Derived.Test.YtmdnjgihooflfaaGreatDoorB04
namespace Go.Proofs.YtmdnjgihooflfaaGreatDoor
open Go.RowKit
open Go.Value (int)
open Go.IntKind (i64)
open Tryz
set_option maxHeartbeats 64000000
set_option maxRecDepth 100000
section
open Go.RowKit
variable{w w':World}{cs:List Value}{x:OpD}{lo:Nat}
structure OpD where
 kind:Int
 own:ByteArray
 name:Int
 lgn:Nat
 lg:Nat->Int
 pe:Int
 len:Int
 hei:Int
 cl:Int
 all:Bool
 be:Int
 unt:Int
 now:Int
def OpD.Is (w:World)(cs:List Value)(x:OpD):Prop :=
 ∃ alg clg,cs=[int i64 x.kind,.string x.own,int i64 x.name,.slice alg x.lgn clg,int i64 x.pe,int i64 x.len,int i64 x.hei,int i64 x.cl,.bool x.all,int i64 x.be,int i64 x.unt,int i64 x.now]/\zT w alg x.lgn x.lg/\qj alg x.lgn clg
theorem OpD.Is.below (h:OpD.Is w cs x)(f:Below w.heap.size w w'):OpD.Is w' cs x:=by
 obtain⟨a,b,e,c,d⟩:=h;exact⟨a,b,e,c.below f,d⟩
def OpD.Short (x:OpD)(B:Nat):Prop:=x.own.size<=B/\x.lgn<=B
def OpD.In (w:World)(lo a:Nat)(cs:List Value)(x:OpD):Prop :=
 ∃ llg,cs=[int i64 x.kind,.string x.own,int i64 x.name,ZY llg x.lgn,int i64 x.pe,int i64 x.len,int i64 x.hei,int i64 x.cl,.bool x.all,int i64 x.be,int i64 x.unt,int i64 x.now]/\(lo<=llg/\llg<a/\w.rowIs llg 3 x.lgn (λk=>int i64 (x.lg k)))
theorem OpD.In.below {c:Nat}(h:OpD.In w lo c cs x)(d:Below w.heap.size w w'):OpD.In w' lo c cs x:=by
 obtain⟨b,e,a⟩:=h;exact⟨b,e,⟨a.1,a.2.1,qo a.2.2 d⟩⟩
theorem OpD.In.kept {c:Nat}{S:Nat->Prop}(h:OpD.In w lo c cs x)(g:zx w w' S)(f:∀ b,S b->b<lo∨c<=b):OpD.In w' lo c cs x:=by
 obtain⟨d,e,a⟩:=h;exact⟨d,e,⟨a.1,a.2.1,a.2.2.of_block (g.block _ a.2.2.lt (λs=>by have:=f _ s;omega))⟩⟩
theorem OpD.In.is {b:Nat}(h:OpD.In w lo b cs x)(c:OpD.Short x 1048576):OpD.Is w cs x:=by
 obtain⟨d,e,a⟩:=h;obtain⟨_,f⟩:=c;exact⟨_,_,e,zT.of_row a.2.2,⟨Jr _,by omega,λh=>by cases h⟩⟩
end
section
open Go.RowKit
variable{w:World}{g t:Nat}{u0 u1 u2 u3 u4 u5 u6 u7 u8 u9 u10 u11:Value}
theorem znc {v3:Value}(h:w.heap[g]?=some (.cells #[u0,u1,u2,u3,u4,u5,u6,u7,u8,u9,u10,u11] t (0,0))):(qH w g 3 [v3]).heap[g]?=some (.cells #[u0,u1,u2,v3,u4,u5,u6,u7,u8,u9,u10,u11] t (0,0)):=by
 have:=(zm h 3 v3);simp only[qH]
 simpa using this
theorem zlC {v4 v5 v6 v7 c d a b:Value}(h:w.heap[g]?=some (.cells #[u0,u1,u2,u3,u4,u5,u6,u7,u8,u9,u10,u11] t (0,0))):(qH w g 4 [v4,v5,v6,v7,c,d,a,b]).heap[g]?=some (.cells #[u0,u1,u2,u3,v4,v5,v6,v7,c,d,a,b] t (0,0)):=by
 have:=(zm (zm (zm (zm (zm (zm (zm (zm h 4 v4) 5 v5) 6 v6) 7 v7) 8 c) 9 d) 10 a) 11 b);simp only[qH]
 simpa using this
theorem zlD {v0 v1 v2 v3 v4 v5 v6 v7 c d a b:Value}(h:w.heap[g]?=some (.cells #[u0,u1,u2,u3,u4,u5,u6,u7,u8,u9,u10,u11] t (0,0))):(qH w g 0 [v0,v1,v2,v3,v4,v5,v6,v7,c,d,a,b]).heap[g]?=some (.cells #[v0,v1,v2,v3,v4,v5,v6,v7,c,d,a,b] t (0,0)):=by
 have:=(zm (zm (zm (zm (zm (zm (zm (zm (zm (zm (zm (zm h 0 v0) 1 v1) 2 v2) 3 v3) 4 v4) 5 v5) 6 v6) 7 v7) 8 c) 9 d) 10 a) 11 b);simp only[qH]
 simpa using this
theorem szOp_raw (kind:Int)(own:ByteArray)(name:Int)(a:Option Addr)(lgn b:Nat)(pe:Int)(len:Int)(hei:Int)(cl:Int)(all:Bool)(be:Int)(unt:Int)(now:Int)(L:Int)(w:World)(h0:0<=L)(hL:L<=1048576)(m:own.size<=1000000000000000)(h:lgn<=1000000000000000) :
  Calls prog 7 #[.agg #[kind,own,name,(a,lgn,b),pe,len,hei,cl,all,be,unt,now],L] w λe w'=>∃ r:Int,e=.returned r/\(r=-1∨(0<=r/\r<=L/\own.size<=1048576/\lgn<=1048576))/\Below w.heap.size w w':=by
 have g:Below _ w (w.alloc (.cells #[kind,own,name,(a,lgn,b),pe,len,hei,cl,all,be,unt,now] 31)):=zk bZ _;have i:=Jb w (.cells #[kind,own,name,(a,lgn,b),pe,len,hei,cl,all,be,unt,now] 31)
 by_cases gown:(own.size:Int)<=L
 ·have f:decide (L - (own.size:Int)<0)=false:=by simp;omega
  go_enter func7,ntmps7;go_wp2_with fail;refine(zhN a lgn b _ _ (by omega) (by omega) h).mono ?_
  rintro e w1 ⟨o,rfl,j,c⟩;have n:=zb i c;have d:=ze g c
  rcases j with rfl|⟨k,p,l⟩
  ·go_wp2
   go_ret;exact⟨_,rfl,.inl rfl,d⟩
  ·have d1:decide (o<0)=false:=by simpa using k
   go_wp2;go_ret;exact⟨_,rfl,.inr ⟨by omega,by omega,by omega,l⟩,d⟩
 ·have f:decide (L - (own.size:Int)<0)=true:=by simp;omega
  go_enter func7,ntmps7;go_wp2;go_ret;exact⟨_,rfl,.inl rfl,g⟩
theorem toOp_raw (kind:Int)(own:ByteArray)(name:Int)(g:Option Addr)(lgn l:Nat)(lg:Nat->Int)(pe:Int)(len:Int)(hei:Int)(cl:Int)(all:Bool)(be:Int)(unt:Int)(now:Int)(w:World)(a1:lgn<=1048576)(a0:zT w g lgn lg) :
  Calls prog 10 #[.agg #[kind,own,name,(g,lgn,l),pe,len,hei,cl,all,be,unt,now]] w λe w'=>∃ b,e=.returned (.agg #[kind,own,name,(some (b,0),lgn,lgn),pe,len,hei,cl,all,be,unt,now])/\(w.heap.size<=b/\b<w'.heap.size/\w'.rowIs b 3 lgn (λk=>int i64 (lg k)))/\Below w.heap.size w w':=by
 go_enter func10,ntmps10;go_wp2_with fail;obtain⟨P,m⟩:∃ W,W=(((w.alloc (.cells #[kind,own,name,(g,lgn,l),pe,len,hei,cl,all,be,unt,now] 31)).alloc (.cells #[(),False,(),True,(),(),(),(),.bool false,(),(),()] 47)).alloc (.cells #[kind,own,name,True,(),(),(),(),.bool false,(),(),()] 47)):=⟨_,rfl⟩;have Q:Below w.heap.size w P:=by rw[m];exact zk (zk (zk bZ _) _) _
 have A0:P.heap[w.heap.size]?=some (.cells #[kind,own,name,(g,lgn,l),pe,len,hei,cl,all,be,unt,now] 31 (0,0)):=by rw[m];exact zd (zd (Jb w _) _) _
 have R0:P.heap[w.heap.size+1]?=some (.cells #[(),False,(),True,(),(),(),(),.bool false,(),(),()] 47 (0,0)):=by rw[m];exact zd (by simpa using Jb (w.alloc _) _) _
 have R:P.heap[w.heap.size+1+1]?=some (.cells #[kind,own,name,True,(),(),(),(),.bool false,(),(),()] 47 (0,0)):=by rw[m];simpa using Jb ((w.alloc _).alloc _) _
 rw[← m];clear m;refine(zhM g lgn l lg _ a1 (a0.below Q)).mono ?_;rintro e v0 ⟨b,rfl,G,a,o⟩;have f:=zb A0 o;have B:=zb R0 o;have q:=zb R o;have z:=ze Q o;have b9:w.heap.size+1+1<b:=by have:=zM R;omega
 have E:w.heap.size<=b:=by omega
 clear A0 R0 R Q o G;have a2:=za f 4 _ rfl;have a3:=za f 5 _ rfl;have a4:=za f 6 _ rfl;have a5:=za f 7 _ rfl;have a6:=za f 8 _ rfl;have a7:=za f 9 _ rfl;have u:=za q 3 _ rfl;have S:=zg q 3;go_wp2_with fail;clear a2 a3 a4 a5 a6 a7 S u;obtain⟨y,h⟩:∃ W,W=qH v0 (w.heap.size+1+1) 3 [(some (b,0),lgn,lgn)]:=⟨_,rfl⟩;have A1:y.heap[w.heap.size]?=some (.cells #[kind,own,name,(g,lgn,l),pe,len,hei,cl,all,be,unt,now] 31 (0,0)):=by rw[h];exact qe (by omega) _ _ _ f
 have R1:y.heap[w.heap.size+1]?=some (.cells #[(),False,(),True,(),(),(),(),.bool false,(),(),()] 47 (0,0)):=by rw[h];exact qe (by omega) _ _ _ B
 have O1:y.heap[w.heap.size+1+1]?=some (.cells #[kind,own,name,(some (b,0),lgn,lgn),(),(),(),(),.bool false,(),(),()] 47 (0,0)):=by rw[h];exact znc q
 have H1:Below w.heap.size w y:=by rw[h];exact qZ (by omega) _ _ _ z
 have c:y.rowIs b 3 lgn (λk=>int i64 (lg k)):=by rw[h];exact qD (by omega) _ _ _ a
 have H:y=(v0.setCell (w.heap.size+1+1,3) (some (b,0),lgn,lgn)):=by rw[h];rfl
 rw[← H];clear h H f B q z a;have a:=c;clear c;refine(zgl pe len hei cl all be _).mono ?_;rintro e v1 ⟨rfl,n⟩;have p:=zb A1 n;have r:=zb R1 n;have d:=zb O1 n;have A:=ze H1 n;have j:=qo a n;clear A1 R1 O1 H1 n a;have a:=j;clear j;have L:=za p 10 _ rfl;have M:=za p 11 _ rfl;obtain⟨a8,a9,b0,u,b1,b2,b3,b4,b5,b6,N,O⟩:=zeW d;have T:=zg d 4;have U:=zg d 5;have V:=zg d 6;have X:=zg d 7;have Y:=zg d 8;have Z:=zg d 9;have C:=zg d 10;have D:=zg d 11;obtain⟨y0,y1,y2,y3,y4,y5,y6,y7,y8,y9,b7,b8⟩:=zeW r;obtain⟨z0,z1,z2,z3,z4,z5,z6,z7,z8,z9,v,x⟩:=fe12 r;go_wp2;clear L M T U V X Y Z C D a8 a9 b0 u b1 b2 b3 b4 b5 b6 N O z0 y0 z1 y1 z2 y2 z3 y3 z4 y4 z5 y5 z6 y6 z7 y7 z8 y8 z9 y9 v b7 x b8;obtain⟨s,i⟩:∃ W,W=qH v1 (w.heap.size+1+1) 4 [pe,len,hei,cl,all,be,unt,now]:=⟨_,rfl⟩;have A2:s.heap[w.heap.size]?=some (.cells #[kind,own,name,(g,lgn,l),pe,len,hei,cl,all,be,unt,now] 31 (0,0)):=by rw[i];exact qe (by omega) _ _ _ p
 have R2:s.heap[w.heap.size+1]?=some (.cells #[(),False,(),True,(),(),(),(),.bool false,(),(),()] 47 (0,0)):=by rw[i];exact qe (by omega) _ _ _ r
 have O2:s.heap[w.heap.size+1+1]?=some (.cells #[kind,own,name,(some (b,0),lgn,lgn),pe,len,hei,cl,all,be,unt,now] 47 (0,0)):=by rw[i];exact zlC d
 have H2:Below w.heap.size w s:=by rw[i];exact qZ (by omega) _ _ _ A
 have c:s.rowIs b 3 lgn (λk=>int i64 (lg k)):=by rw[i];exact qD (by omega) _ _ _ a
 have I:s=((((((((v1.setCell (w.heap.size+1+1,4) pe).setCell (w.heap.size+1+1,5) len).setCell (w.heap.size+1+1,6) hei).setCell (w.heap.size+1+1,7) cl).setCell (w.heap.size+1+1,8) all).setCell (w.heap.size+1+1,9) be).setCell (w.heap.size+1+1,10) unt).setCell (w.heap.size+1+1,11) now):=by rw[i];rfl
 rw[← I];clear i I p r d A a;have a:=c;clear c;obtain⟨F,K⟩:∃ F,F=qH s (w.heap.size+1) 0 [kind,own,name,(some (b,0),lgn,lgn),pe,len,hei,cl,all,be,unt,now]:=⟨_,rfl⟩;have RF:F.heap[w.heap.size+1]?=some (.cells #[kind,own,name,(some (b,0),lgn,lgn),pe,len,hei,cl,all,be,unt,now] 47 (0,0)):=by rw[K];exact zlD R2
 have HF:Below w.heap.size w F:=by rw[K];exact qZ (by omega) _ _ _ H2
 have t:F.rowIs b 3 lgn (λk=>int i64 (lg k)):=by rw[K];exact qD (by omega) _ _ _ a
 have J:F=((((((((((((s.setCell (w.heap.size+1,0) kind).setCell (w.heap.size+1,1) own).setCell (w.heap.size+1,2) name).setCell (w.heap.size+1,3) (some (b,0),lgn,lgn)).setCell (w.heap.size+1,4) pe).setCell (w.heap.size+1,5) len).setCell (w.heap.size+1,6) hei).setCell (w.heap.size+1,7) cl).setCell (w.heap.size+1,8) all).setCell (w.heap.size+1,9) be).setCell (w.heap.size+1,10) unt).setCell (w.heap.size+1,11) now):=by rw[K];rfl
 rw[← J];clear K J;obtain⟨z0,z1,z2,z3,z4,z5,z6,z7,z8,z9,v,x⟩:=zeW RF;exact Jj (by simp[results,results10,go_sem,z0,z1,z2,z3,z4,z5,z6,z7,z8,z9,v,x]) rfl ⟨b,rfl,⟨E,t.lt,t⟩,HF⟩
theorem eqOp_raw (kind:Int)(own:ByteArray)(name:Int)(c:Option Addr)(lgn d:Nat)(lg:Nat->Int)(pe:Int)(len:Int)(hei:Int)(cl:Int)(all:Bool)(be:Int)(unt:Int)(now:Int)(a:Option Addr)(b:Nat)(w:World)(o:lgn<=1048576)(n:zT w c lgn lg)(k:zT w a lgn lg) :
  Calls prog 14 #[.agg #[kind,own,name,(c,lgn,d),pe,len,hei,cl,all,be,unt,now],.agg #[kind,own,name,(a,lgn,b),pe,len,hei,cl,all,be,unt,now]] w λe w'=>e=.returned (.bool true)/\Below w.heap.size w w':=by
 have j:Below _ w ((w.alloc (.cells #[kind,own,name,(c,lgn,d),pe,len,hei,cl,all,be,unt,now] 47)).alloc (.cells #[kind,own,name,(a,lgn,b),pe,len,hei,cl,all,be,unt,now] 47)):=zk (zk bZ _) _;have l:((w.alloc _).alloc (.cells #[kind,own,name,(a,lgn,b),pe,len,hei,cl,all,be,unt,now] 47)).heap[w.heap.size]?=some (.cells #[kind,own,name,(c,lgn,d),pe,len,hei,cl,all,be,unt,now] 47 (0,0)):=zd (Jb w _) _;have m:((w.alloc (.cells #[kind,own,name,(c,lgn,d),pe,len,hei,cl,all,be,unt,now] 47)).alloc (.cells #[kind,own,name,(a,lgn,b),pe,len,hei,cl,all,be,unt,now] 47)).heap[w.heap.size+1]?=some (.cells #[kind,own,name,(a,lgn,b),pe,len,hei,cl,all,be,unt,now] 47 (0,0)):=by simpa using Jb (w.alloc _) _
 go_enter func14,ntmps14;go_wp2_with fail;generalize (w.alloc _).alloc _=v at j l m ⊢;refine(zgj c _ lgn d _ lg _ o (n.below j) (k.below j)).mono ?_;rintro e v0 ⟨rfl,f⟩;have h:=zb l f;have i:=zb m f;have F:=ze j f;clear l m j f;have p:=za h 4 _ rfl;have x:=za i 4 _ rfl;have q:=za h 5 _ rfl;have y:=za i 5 _ rfl;have r:=za h 6 _ rfl;have z:=za i 6 _ rfl;have s:=za h 7 _ rfl;have A:=za i 7 _ rfl;have t:=za h 8 _ rfl;have B:=za i 8 _ rfl;have u:=za h 9 _ rfl;have C:=za i 9 _ rfl;go_wp2_with fail;clear p x q y r z s A t B u C;refine(zfC pe len hei cl all be _).mono ?_;rintro e v1 ⟨rfl,g⟩;have D:=zb h g;have E:=zb i g;have K:=ze F g;clear h i F g;have G:=za D 10 _ rfl;have I:=za E 10 _ rfl;have H:=za D 11 _ rfl;have J:=za E 11 _ rfl;go_wp2;go_ret;exact⟨rfl,K⟩
theorem szOp_any (cs:List Value)(x:OpD)(L:Int)(w:World)(f:0<=L)(g:L<=1048576)(j:OpD.Short x 1000000000000000)(h:OpD.Is w cs x) :
  Calls prog 7 #[.agg cs.toArray,L] w λe w'=>∃ r:Int,e=.returned r/\(r=-1∨(0<=r/\r<=L/\OpD.Short x 1048576))/\Below w.heap.size w w':=by
 obtain⟨c,d,rfl,i,k⟩:=h;obtain⟨a,b⟩:=j;exact szOp_raw _ _ _ _ _ _ _ _ _ _ _ _ _ _ L w f g a b
theorem ziu (cs:List Value)(x:OpD)(w:World)(k:OpD.Short x 1048576)(h:OpD.Is w cs x) :
  Calls prog 10 #[.agg cs.toArray] w λe w'=>∃ cs',e=.returned (.agg cs'.toArray)/\OpD.In w' w.heap.size w'.heap.size cs' x/\Below w.heap.size w w':=by
 obtain⟨f,g,rfl,b,l⟩:=h;obtain⟨_,a⟩:=k;refine(toOp_raw _ _ _ _ _ _ _ _ _ _ _ _ _ _ _ w a b).mono ?_;rintro e w' ⟨c,j,d,i⟩;exact⟨_,j,⟨c,rfl,d⟩,i⟩
theorem eqOp_same (cs g:List Value)(x:OpD)(w:World)(m:OpD.Short x 1048576)(h:OpD.Is w cs x)(l:OpD.Is w g x) :
  Calls prog 14 #[.agg cs.toArray,.agg g.toArray] w λe w'=>e=.returned (.bool true)/\Below w.heap.size w w':=by
 obtain⟨j,k,rfl,c,n⟩:=h;obtain⟨d,f,rfl,a,i⟩:=l;obtain⟨_,b⟩:=m;exact eqOp_raw _ _ _ _ _ _ _ _ _ _ _ _ _ _ _ _ _ w b c a
end
theorem znd (x lo a:Int)(w:World)(h:In x lo a) :
  Calls prog 191 #[x,lo,a] w λe w'=>e=.returned (.bool true)/\w'=w:=by
 have e1:decide (lo<=x)=true:=by simpa using h.1
 have e2:decide (x<=a)=true:=by simpa using h.2
 clear h;go_enter func191,ntmps191;go_wp2;go_ret;exact⟨rfl,rfl⟩
theorem within_no (x lo a:Int)(w:World)(h:¬ In x lo a) :
  Calls prog 191 #[x,lo,a] w λe w'=>e=.returned (.bool false)/\w'=w:=by
 by_cases h1:lo<=x
 ·have b:decide (lo<=x)=true:=by simpa using h1
  have e2:decide (x<=a)=false:=by simp;exact Int.not_le.1 (λh2=>h ⟨h1,h2⟩)
  clear h h1;go_enter func191,ntmps191;go_wp2;go_ret;exact⟨rfl,rfl⟩
 ·have b:decide (lo<=x)=false:=by simpa using h1
  clear h h1;go_enter func191,ntmps191;go_wp2;go_ret;exact⟨rfl,rfl⟩
theorem zz (x lo a:Int)(w:World) :
  Calls prog 191 #[x,lo,a] w λe w'=>e=.returned (.bool (decide (In x lo a)))/\w'=w:=by
 by_cases h:In x lo a
 ·rw[Jd h];exact znd x lo a w h
 ·rw[Jc h];exact within_no x lo a w h
theorem zcE (pe len hei cl:Int)(all:Bool)(be:Int)(w:World) :
  Calls prog 182 #[.agg #[pe,len,hei,cl,all,be]] w λe w'=>e=.returned (.bool (decide (¬ (len=0/\hei=0))))/\Below w.heap.size w w':=by
 obtain⟨c,d⟩:∃ c,c=decide (¬ (len=0/\hei=0)):=⟨_,rfl⟩;rw[← d];have a:=hI d;clear d
 by_cases h1:len=0
 ·subst h1
  by_cases h2:hei=0
  ·subst h2
   go_enter func182,ntmps182;go_wp2;go_ret;exact⟨by rw[a.out];rfl,zk bZ _⟩
  ·have e2:(hei != 0)=true:=by simpa using h2
   have b:Hid (c=true):=by rw[a.out];exact Jd (λh=>h2 h.2)
   clear h2;go_enter func182,ntmps182;go_wp2;go_ret;exact⟨by rw[b.out];rfl,zk bZ _⟩
 ·have e1:(len != 0)=true:=by simpa using h1
  have b:Hid (c=true):=by rw[a.out];exact Jd (λh=>h1 h.1)
  clear h1;go_enter func182,ntmps182;go_wp2;go_ret;exact⟨by rw[b.out];rfl,zk bZ _⟩
theorem Q7 (pe len hei cl:Int)(all:Bool)(be:Int)(w:World) :
  Calls prog 183 #[.agg #[pe,len,hei,cl,all,be]] w λe w'=>e=.returned (.bool (decide (¬ (cl=0/\all=false/\be=0))))/\Below w.heap.size w w':=by
 obtain⟨c,d⟩:∃ c,c=decide (¬ (cl=0/\all=false/\be=0)):=⟨_,rfl⟩;rw[← d];have b:=hI d;clear d
 by_cases h1:cl=0
 ·subst h1
  cases all with
  | true =>
   have a:Hid (c=true):=by rw[b.out];exact Jd (λh=>by cases h.2.1)
   go_enter func183,ntmps183;go_wp2;go_ret;exact⟨by rw[a.out];rfl,zk bZ _⟩
  | false =>
   by_cases h2:be=0
   ·subst h2
    go_enter func183,ntmps183;go_wp2;go_ret;exact⟨by rw[b.out];rfl,zk bZ _⟩
   ·have e2:(be != 0)=true:=by simpa using h2
    have a:Hid (c=true):=by rw[b.out];exact Jd (λh=>h2 h.2.2)
    clear h2;go_enter func183,ntmps183;go_wp2;go_ret;exact⟨by rw[a.out];rfl,zk bZ _⟩
 ·have e1:(cl != 0)=true:=by simpa using h1
  have a:Hid (c=true):=by rw[b.out];exact Jd (λh=>h1 h.1)
  clear h1;go_enter func183,ntmps183;go_wp2;go_ret;exact⟨by rw[a.out];rfl,zk bZ _⟩
theorem zbq (x y:Int)(w:World) :
  Calls prog 267 #[x,y] w λe w'=>e=.returned (.bool (decide (In x 1 2000/\In y 1 500)))/\w'=w:=by
 obtain⟨c,f⟩:∃ c,c=decide (In x 1 2000/\In y 1 500):=⟨_,rfl⟩;rw[← f];have d:=hI f;clear f
 by_cases h1:In x 1 2000
 ·have g:=Jd h1
  have a:=hI h1;clear h1
  by_cases h2:In y 1 500
  ·have i:=Jd h2
   have b:=hI h2;clear h2;go_enter func267,ntmps267;go_wp2_with (first|(go_at_call 191;refine sC (zz _ _ _ _) ?_))
   go_ret;exact⟨by rw[d.out,Jd ⟨a.out,b.out⟩];rfl,rfl⟩
  ·have i:=Jc h2
   have b:=hI h2;clear h2;go_enter func267,ntmps267;go_wp2_with (first|(go_at_call 191;refine sC (zz _ _ _ _) ?_))
   go_ret;exact⟨by rw[d.out,Jc (λh=>b.out h.2)];rfl,rfl⟩
 ·have g:=Jc h1
  have a:=hI h1;clear h1;go_enter func267,ntmps267;go_wp2_with (first|(go_at_call 191;refine sC (zz _ _ _ _) ?_))
  go_ret;exact⟨by rw[d.out,Jc (λh=>a.out h.1)];rfl,rfl⟩
theorem zbr (x:Int)(w:World) :
  Calls prog 262 #[int i64 x] w λe w'=>e=.returned (.bool (decide (In x 1 3)))/\w'=w:=by
 go_enter func262,ntmps262;go_wp2_with (first|(go_at_call 191;refine sC (zz _ _ _ _) ?_))
 go_ret;exact⟨rfl,rfl⟩
theorem zdj (x:Int)(w:World) :
  Calls prog 263 #[int i64 x] w λe w'=>e=.returned (.bool (decide (In x 1 4)))/\w'=w:=by
 go_enter func263,ntmps263;go_wp2_with (first|(go_at_call 191;refine sC (zz _ _ _ _) ?_))
 go_ret;exact⟨rfl,rfl⟩
theorem zcF (cl:Int)(all:Bool)(be:Int)(w:World) :
  Calls prog 268 #[cl,all,be] w λe w'=>e=.returned (.bool (decide (zfN cl all be)))/\w'=w:=by
 obtain⟨c,f⟩:∃ c,c=decide (zfN cl all be):=⟨_,rfl⟩;rw[← f];have a:=hI f;clear f
 by_cases h1:In cl 1 3
 ·have i:=Jd h1
  have b:=hI h1;clear h1
  cases all with
  | true =>
   by_cases h2:be=0
   ·subst h2
    go_enter func268,ntmps268;go_wp2_with (first|(go_at_call 262;refine sC (zbr _ _) ?_))
    go_ret;exact⟨by rw[a.out,Jd ⟨b.out,.inl ⟨rfl,rfl⟩⟩];rfl,rfl⟩
   ·have g:(be == 0)=false:=by simpa using h2
    have d:=hI h2;clear h2;go_enter func268,ntmps268;go_wp2_with (first|(go_at_call 262;refine sC (zbr _ _) ?_))
    go_ret;exact⟨by rw[a.out,Jc (λh=>by rcases h.2 with h|h;exact d.out h.2;cases h.1)];rfl,rfl⟩
  | false =>
   by_cases h2:In be 1 4
   ·have g:=Jd h2
    have d:=hI h2;clear h2;go_enter func268,ntmps268;go_wp2_with (first|(go_at_call 262;refine sC (zbr _ _) ?_)|(go_at_call 263;refine sC (zdj _ _) ?_))
    go_ret;exact⟨by rw[a.out,Jd ⟨b.out,.inr ⟨rfl,d.out⟩⟩];rfl,rfl⟩
   ·have g:=Jc h2
    have d:=hI h2;clear h2;go_enter func268,ntmps268;go_wp2_with (first|(go_at_call 262;refine sC (zbr _ _) ?_)|(go_at_call 263;refine sC (zdj _ _) ?_))
    go_ret;exact⟨by rw[a.out,Jc (λh=>by rcases h.2 with h|h;cases h.1;exact d.out h.2)];rfl,rfl⟩
 ·have i:=Jc h1
  have b:=hI h1;clear h1
  cases all with
  | true =>
   go_enter func268,ntmps268;go_wp2_with (first|(go_at_call 262;refine sC (zbr _ _) ?_))
   go_ret;exact⟨by rw[a.out,Jc (λh=>b.out h.1)];rfl,rfl⟩
  | false =>
   go_enter func268,ntmps268;go_wp2_with (first|(go_at_call 262;refine sC (zbr _ _) ?_))
   go_ret;exact⟨by rw[a.out,Jc (λh=>b.out h.1)];rfl,rfl⟩
end Go.Proofs.YtmdnjgihooflfaaGreatDoor
