import Derived.Great.Walk
import Derived.Test.YtmdnjgihooflfaaGreatDoorB05
import Derived.Test.YtmdnjgihooflfaaGreatDoorB04
import Derived.Test.YtmdnjgihooflfaaGreatDoorB06
import Derived.Test.YtmdnjgihooflfaaGreatDoorB03
namespace Go.Proofs.YtmdnjgihooflfaaGreatDoor
open Go.RowKit
open Go.Value (int)
open Go.IntKind (i64)
open _root_.Go.Proofs.Tryz
set_option maxHeartbeats 64000000
set_option maxRecDepth 1000000
variable{w w':World}{g t k0 i N base b n:Nat}{u0 u1 u2 u3 u4 u5 u6 u7 u8 u9 u10 u11 u12:Value}{k:Int}
theorem IX {v3:Value}(h:w.heap[g]?=some (.cells #[u0,u1,u2,u3,u4,u5,u6,u7,u8,u9,u10,u11,u12] t (0,0))):(qA w g 3 [v3]).heap[g]?=some (.cells #[u0,u1,u2,v3,u4,u5,u6,u7,u8,u9,u10,u11,u12] t (0,0)):=by
 have:=(zk h 3 v3);simp only[qA]
 simpa using this
theorem Hb {v4 v5 v6 v7 d e a b c:Value}(h:w.heap[g]?=some (.cells #[u0,u1,u2,u3,u4,u5,u6,u7,u8,u9,u10,u11,u12] t (0,0))):(qA w g 4 [v4,v5,v6,v7,d,e,a,b,c]).heap[g]?=some (.cells #[u0,u1,u2,u3,v4,v5,v6,v7,d,e,a,b,c] t (0,0)):=by
 have:=(zk (zk (zk (zk (zk (zk (zk (zk (zk h 4 v4) 5 v5) 6 v6) 7 v7) 8 d) 9 e) 10 a) 11 b) 12 c);simp only[qA]
 simpa using this
theorem Hc {v0 v1 v2 v3 v4 v5 v6 v7 d e a b c:Value}(h:w.heap[g]?=some (.cells #[u0,u1,u2,u3,u4,u5,u6,u7,u8,u9,u10,u11,u12] t (0,0))):(qA w g 0 [v0,v1,v2,v3,v4,v5,v6,v7,d,e,a,b,c]).heap[g]?=some (.cells #[v0,v1,v2,v3,v4,v5,v6,v7,d,e,a,b,c] t (0,0)):=by
 have:=(zk (zk (zk (zk (zk (zk (zk (zk (zk (zk (zk (zk (zk h 0 v0) 1 v1) 2 v2) 3 v3) 4 v4) 5 v5) 6 v6) 7 v7) 8 d) 9 e) 10 a) 11 b) 12 c);simp only[qA]
 simpa using this
theorem LO (name:Int)(who:Int)(own:ByteArray)(c:Option Addr)(lgn d:Nat)(pe:Int)(len:Int)(hei:Int)(cl:Int)(all:Bool)(be:Int)(state:Int)(unt:Int)(price:Int)(L:Int)(w:World)(h0:0<=L)(hL:L<=1048576)(m:own.size<=1000000000000000)(h:lgn<=1000000000000000) :
  Calls prog 80 #[.agg #[name,who,own,(c,lgn,d),pe,len,hei,cl,all,be,state,unt,price],L] w λe w'=>∃ r:Int,e=.returned r/\(r=-1∨(0<=r/\r<=L/\own.size<=1048576/\lgn<=1048576))/\Below w w w':=by
 have f:Below _ w (w.alloc (.cells #[name,who,own,(c,lgn,d),pe,len,hei,cl,all,be,state,unt,price] 135)):=zd bZ _;have i:=Qc f
 by_cases gown:(own.size:Int)<=L
 ·have g:decide (L - (own.size:Int)<0)=false:=by simp;omega
  go_enter func80,ntmps80;go_wp2_with fail;refine(Ky c lgn d _ _ oM oM h).mono ?_;rintro e w1 ⟨o,rfl,j,a⟩;have n:=za i a;have b:=zb f a
  rcases j with rfl|⟨k,p,l⟩
  ·go_wp2
   go_ret;exact⟨_,rfl,.inl rfl,b⟩
  ·have d1:decide (o<0)=false:=by simpa using k
   go_wp2;go_ret;exact⟨_,rfl,.inr ⟨by omega,by omega,by omega,l⟩,b⟩
 ·have g:decide (L - (own.size:Int)<0)=true:=by simp;omega
  go_enter func80,ntmps80;go_wp2;go_ret;exact⟨_,rfl,.inl rfl,f⟩
theorem LP (name:Int)(who:Int)(own:ByteArray)(g:Option Addr)(lgn j:Nat)(lg:Nat->Int)(pe:Int)(len:Int)(hei:Int)(cl:Int)(all:Bool)(be:Int)(state:Int)(unt:Int)(price:Int)(w:World)(a3:lgn<=1048576)(a2:zS w g lgn lg) :
  Calls prog 96 #[.agg #[name,who,own,(g,lgn,j),pe,len,hei,cl,all,be,state,unt,price]] w λe w'=>∃ b,e=.returned (.agg #[name,who,own,(some (b,0),lgn,lgn),pe,len,hei,cl,all,be,state,unt,price])/\(w.heap.size<=b/\b<w'.heap.size/\w'.rowIs b 3 lgn (λk=>int i64 (lg k)))/\Below w w w':=by
 go_enter func96,ntmps96;go_wp2_with fail;obtain⟨S,l⟩:=nM ((((w.alloc (.cells #[name,who,own,(g,lgn,j),pe,len,hei,cl,all,be,state,unt,price] 135)).alloc (.cells #[(),(),False,True,(),(),(),(),.bool false,(),(),(),()] 150)).alloc (.cells #[name,who,own,True,(),(),(),(),.bool false,(),(),(),()] 150)));have T:Below w w S:=by rw[l];exact zd (zd (zd bZ _) _) _
 have A0:S.heap[w.heap.size]?=some (.cells #[name,who,own,(g,lgn,j),pe,len,hei,cl,all,be,state,unt,price] 135 (0,0)):=by rw[l];exact zg (zg (Jb w _) _) _
 have R0:S.heap[w.heap.size+1]?=some (.cells #[(),(),False,True,(),(),(),(),.bool false,(),(),(),()] 150 (0,0)):=by rw[l];exact zg (by simpa using Jb (w.alloc _) _) _
 have U:S.heap[w.heap.size+1+1]?=some (.cells #[name,who,own,True,(),(),(),(),.bool false,(),(),(),()] 150 (0,0)):=by rw[l];simpa using Jb ((w.alloc _).alloc _) _
 rw[← l];clear l;refine(Kx g lgn j lg _ a3 (a2.j0 T)).mono ?_;rintro e v0 ⟨b,rfl,H,a,o⟩;have f:=za A0 o;have B:=za R0 o;have p:=za U o;have z:=zb T o;have d0:w.heap.size+1+1<b:=by have:=zD U;omega
 have G:w.heap.size<=b:=oM;clear A0 R0 U T o H;have a4:=bC f 4;have a5:=bC f 5;have a6:=bC f 6;have a7:=bC f 7;have a8:=bC f 8;have a9:=bC f 9;have t:=bC p 3;have V:=zc p 3;go_wp2_with fail;clear a4 a5 a6 a7 a8 a9 V t;obtain⟨y,h⟩:=nM (qA v0 (w.heap.size+1+1) 3 [(some (b,0),lgn,lgn)]);have A1:y.heap[w.heap.size]?=some (.cells #[name,who,own,(g,lgn,j),pe,len,hei,cl,all,be,state,unt,price] 135 (0,0)):=by rw[h];exact qk oM _ _ _ f
 have R1:y.heap[w.heap.size+1]?=some (.cells #[(),(),False,True,(),(),(),(),.bool false,(),(),(),()] 150 (0,0)):=by rw[h];exact qk oM _ _ _ B
 have O1:y.heap[w.heap.size+1+1]?=some (.cells #[name,who,own,(some (b,0),lgn,lgn),(),(),(),(),.bool false,(),(),(),()] 150 (0,0)):=by rw[h];exact IX p
 have H1:Below w w y:=by rw[h];exact Zi oM _ _ _ z
 have c:y.rowIs b 3 lgn (λk=>int i64 (lg k)):=by rw[h];exact qJ oM _ _ _ a
 have I:y=(v0.setCell (w.heap.size+1+1,3) (some (b,0),lgn,lgn)):=by rw[h];rfl
 rw[← I];clear h I f B p z a;have a:=c;clear c;refine bM (Ik pe len hei cl all be _) λv1 m=>?_
 have n:=za A1 m;have q:=za R1 m;have d:=za O1 m;have A:=zb H1 m;replace a:=qo a m;clear A1 R1 O1 H1 m;have M:=bC n 10;have N:=bC n 11;have O:=bC n 12;obtain⟨b0,b1,b2,t,b3,b4,b5,b6,b7,b8,P,Q,R⟩:=Cl d;have W:=zc d 4;have X:=zc d 5;have Y:=zc d 6;have Z:=zc d 7;have a0:=zc d 8;have a1:=zc d 9;have C:=zc d 10;have D:=zc d 11;have E:=zc d 12;obtain⟨y0,y1,y2,y3,y4,y5,y6,y7,y8,y9,b9,c0,c9⟩:=Cl q;obtain⟨z0,z1,z2,z3,z4,z5,z6,z7,z8,z9,u,v,x⟩:=jv q;go_wp2;clear M N O W X Y Z a0 a1 C D E b0 b1 b2 t b3 b4 b5 b6 b7 b8 P Q R z0 y0 z1 y1 z2 y2 z3 y3 z4 y4 z5 y5 z6 y6 z7 y7 z8 y8 z9 y9 u b9 v c0 x c9;obtain⟨r,i⟩:=nM (qA v1 (w.heap.size+1+1) 4 [pe,len,hei,cl,all,be,state,unt,price]);have A2:r.heap[w.heap.size]?=some (.cells #[name,who,own,(g,lgn,j),pe,len,hei,cl,all,be,state,unt,price] 135 (0,0)):=by rw[i];exact qk oM _ _ _ n
 have R2:r.heap[w.heap.size+1]?=some (.cells #[(),(),False,True,(),(),(),(),.bool false,(),(),(),()] 150 (0,0)):=by rw[i];exact qk oM _ _ _ q
 have O2:r.heap[w.heap.size+1+1]?=some (.cells #[name,who,own,(some (b,0),lgn,lgn),pe,len,hei,cl,all,be,state,unt,price] 150 (0,0)):=by rw[i];exact Hb d
 have H2:Below w w r:=by rw[i];exact Zi oM _ _ _ A
 have c:r.rowIs b 3 lgn (λk=>int i64 (lg k)):=by rw[i];exact qJ oM _ _ _ a
 have J:r=(((((((((v1.setCell (w.heap.size+1+1,4) pe).setCell (w.heap.size+1+1,5) len).setCell (w.heap.size+1+1,6) hei).setCell (w.heap.size+1+1,7) cl).setCell (w.heap.size+1+1,8) all).setCell (w.heap.size+1+1,9) be).setCell (w.heap.size+1+1,10) state).setCell (w.heap.size+1+1,11) unt).setCell (w.heap.size+1+1,12) price):=by rw[i];rfl
 rw[← J];clear i J n q d A a;have a:=c;clear c;obtain⟨F,L⟩:=nM (qA r (w.heap.size+1) 0 [name,who,own,(some (b,0),lgn,lgn),pe,len,hei,cl,all,be,state,unt,price]);have RF:F.heap[w.heap.size+1]?=some (.cells #[name,who,own,(some (b,0),lgn,lgn),pe,len,hei,cl,all,be,state,unt,price] 150 (0,0)):=by rw[L];exact Hc R2
 have HF:Below w w F:=by rw[L];exact Zi oM _ _ _ H2
 have s:F.rowIs b 3 lgn (λk=>int i64 (lg k)):=by rw[L];exact qJ oM _ _ _ a
 have K:F=(((((((((((((r.setCell (w.heap.size+1,0) name).setCell (w.heap.size+1,1) who).setCell (w.heap.size+1,2) own).setCell (w.heap.size+1,3) (some (b,0),lgn,lgn)).setCell (w.heap.size+1,4) pe).setCell (w.heap.size+1,5) len).setCell (w.heap.size+1,6) hei).setCell (w.heap.size+1,7) cl).setCell (w.heap.size+1,8) all).setCell (w.heap.size+1,9) be).setCell (w.heap.size+1,10) state).setCell (w.heap.size+1,11) unt).setCell (w.heap.size+1,12) price):=by rw[L];rfl
 rw[← K];clear L K;obtain⟨z0,z1,z2,z3,z4,z5,z6,z7,z8,z9,u,v,x⟩:=Cl RF;exact Jj (by simp[results,results96,go_sem,z0,z1,z2,z3,z4,z5,z6,z7,z8,z9,u,v,x]) rfl ⟨b,rfl,⟨G,s.lt,s⟩,HF⟩
theorem LQ (name:Int)(who:Int)(own:ByteArray)(b:Option Addr)(lgn j:Nat)(lg:Nat->Int)(pe:Int)(len:Int)(hei:Int)(cl:Int)(all:Bool)(be:Int)(state:Int)(unt:Int)(price:Int)(a:Option Addr)(h:Nat)(w:World)(q:lgn<=1048576)(p:zS w b lgn lg)(k:zS w a lgn lg) :
  Calls prog 125 #[.agg #[name,who,own,(b,lgn,j),pe,len,hei,cl,all,be,state,unt,price],.agg #[name,who,own,(a,lgn,h),pe,len,hei,cl,all,be,state,unt,price]] w λe w'=>e=.returned (.bool true)/\Below w w w':=by
 have i:Below _ w ((w.alloc (.cells #[name,who,own,(b,lgn,j),pe,len,hei,cl,all,be,state,unt,price] 150)).alloc (.cells #[name,who,own,(a,lgn,h),pe,len,hei,cl,all,be,state,unt,price] 150)):=zd (zd bZ _) _;have l:=Cs i;have n:=Dt i;go_enter func125,ntmps125;go_wp2_with fail;generalize (w.alloc _).alloc _=v at i l n ⊢;refine bM (Ij b _ lgn j _ lg _ q (p.j0 i) (k.j0 i)) λv0 c=>?_
 have f:=za l c;have g:=za n c;have F:=zb i c;clear l n i c;have r:=bC f 4;have z:=bC g 4;have s:=bC f 5;have A:=bC g 5;have t:=bC f 6;have B:=bC g 6;have u:=bC f 7;have C:=bC g 7;have x:=bC f 8;have D:=bC g 8;have y:=bC f 9;have E:=bC g 9;go_wp2_with fail;clear r z s A t B u C x D y E;refine bM (Gv pe len hei cl all be _) λv1 d=>?_
 have m:=za f d;have o:=za g d;have M:=zb F d;clear f g F d;have G:=bC m 10;have J:=bC o 10;have H:=bC m 11;have K:=bC o 11;have I:=bC m 12;have L:=bC o 12;go_wp2;go_ret;exact⟨rfl,M⟩
theorem LR (cs:List Value)(x:zA)(L:Int)(w:World)(f:0<=L)(g:L<=1048576)(j:zA.Short x 1000000000000000)(h:zA.Is w cs x) :
  Calls prog 80 #[.agg cs.toArray,L] w λe w'=>∃ r:Int,e=.returned r/\(r=-1∨(0<=r/\r<=L/\zA.Short x 1048576))/\Below w w w':=by
 obtain⟨c,d,rfl,i,k⟩:=h;obtain⟨a,b⟩:=j;exact LO _ _ _ _ _ _ _ _ _ _ _ _ _ _ _ L w f g a b
theorem LS (cs:List Value)(x:zA)(w:World)(k:zA.Short x 1048576)(h:zA.Is w cs x) :
  Calls prog 96 #[.agg cs.toArray] w λe w'=>∃ cs',e=.returned (.agg cs'.toArray)/\zA.In w' w.heap.size w'.heap.size cs' x/\Below w w w':=by
 obtain⟨f,g,rfl,b,l⟩:=h;obtain⟨_,a⟩:=k;refine(LP _ _ _ _ _ _ _ _ _ _ _ _ _ _ _ _ w a b).mono ?_;rintro e w' ⟨c,j,d,i⟩;exact⟨_,j,⟨c,rfl,d⟩,i⟩
theorem KA (cs g:List Value)(x:zA)(w:World)(m:zA.Short x 1048576)(h:zA.Is w cs x)(l:zA.Is w g x) :
  Calls prog 125 #[.agg cs.toArray,.agg g.toArray] w λe w'=>e=.returned (.bool true)/\Below w w w':=by
 obtain⟨j,k,rfl,c,n⟩:=h;obtain⟨d,f,rfl,a,i⟩:=l;obtain⟨_,b⟩:=m;exact LQ _ _ _ _ _ _ _ _ _ _ _ _ _ _ _ _ _ _ w b c a
theorem KC (y:Option Addr)(N c:Nat)(S:Nat->zA)(h:Int)(w:World)(h0:0<=h)(M:h<=1048576)(hN:N<=1000000000000000)(B:ZY N S 1000000000000000)(D:qL w y N S) :
  Calls prog 40 #[(y,N,c),h] w λe w'=>∃ r:Int,e=.returned r/\(r=-1∨(0<=r/\r<=h/\N<=1048576/\ZY N S 1048576))/\Below w w w':=by
 have G:=hI B;have H:=hI D;clear B D
 by_cases hf:(N:Int)<=h
 ·have z:decide (h - (N:Int)<0)=false:=by simp;omega
  go_enter func40,ntmps40;go_wp2;go_loopw [1,5] (λl i wr=>∃ (k:Nat) (L:Int),k<=N/\i=int i64 k/\l=int i64 L/\0<=L/\L<=h/\ZY k S 1048576/\Below w w wr) (λ_ i _=>N - (intOf i).toNat)
  case atStart=>exact⟨0,_,Jq _,rfl,rfl,by omega,by omega,λi O=>by omega,bZ⟩
  case round =>
   obtain⟨k,L,hk,rfl,rfl,E,P,q,a⟩:=hrel;have x:=hI q;clear q z
   by_cases hlt:k<N
   ·obtain⟨C,A,hI⟩:=H
    obtain⟨b,off,rfl,g⟩:=A k hlt;have j:Hid (zA.Is w _ _):=hI k hlt;obtain⟨m,n,f,u,v⟩:=hI k hlt;have d:b<w.heap.size:=Ja w _ (g 0 dC);have c0:wr.cell? _=some (.int _ _):=(a.cell (p:=⟨b,off+_,_⟩) d).trans (rC f (g 0 dC));have c1:wr.cell? _=some (.int _ _):=(a.cell d).trans (rC f (g 1 dC));have c2:wr.cell? _=some (.string _):=(a.cell d).trans (rC f (g 2 dC));have c3:wr.cell? _=some (.slice m _ n):=(a.cell d).trans (rC f (g 3 dC));have c4:wr.cell? _=some (.int _ _):=(a.cell d).trans (rC f (g 4 dC));have c5:wr.cell? _=some (.int _ _):=(a.cell d).trans (rC f (g 5 dC));have c6:wr.cell? _=some (.int _ _):=(a.cell d).trans (rC f (g 6 dC));have c7:wr.cell? _=some (.int _ _):=(a.cell d).trans (rC f (g 7 dC));have c8:wr.cell? _=some (.bool _):=(a.cell d).trans (rC f (g 8 dC));have c9:wr.cell? _=some (.int _ _):=(a.cell d).trans (rC f (g 9 dC));have I:wr.cell? _=some (.int _ _):=(a.cell d).trans (rC f (g 10 dC));have J:wr.cell? _=some (.int _ _):=(a.cell d).trans (rC f (g 11 dC));have K:wr.cell? _=some (.int _ _):=(a.cell d).trans (rC f (g 12 dC));have s:Hid (zA.Is wr [(S k).k,(S k).e,(S k).j1,(m,(S k).c,n),(S k).v,(S k).f,(S k).j,(S k).w,(S k).h,(S k).x,(S k).C,(S k).y,(S k).j2] (S k)):=by show zA.Is wr _ _;rw[← f];exact j.j0 a
    have t:Hid (zA.Short _ 1000000000000000):=G k hlt;clear A hI g f j u v;go_wp2_with fail;refine(LR _ _ L _ E oM t s).mono ?_;rintro e w2 ⟨r,rfl,hr,o⟩
    rcases hr with rfl|⟨F,r1,Q⟩
    ·go_wp2
     go_ret;exact⟨_,rfl,.inl rfl,zb a o⟩
    ·have d1:decide (r<0)=false:=by simpa using F
     go_wp2;go_roundw
     case rel =>
      refine⟨k+1,r,by omega,by go_num,rfl,F,by omega,λi O=>?_,zb a o⟩
      by_cases e:i=k
      ·subst e;exact Q
      ·exact x i oM
     case measure=>simp[intOf];omega
   ·obtain rfl:k=N:=by omega
    go_wp2;go_ret;exact⟨_,rfl,.inr ⟨E,P,by omega,x⟩,a⟩
 ·have z:decide (h - (N:Int)<0)=true:=by simp;omega
  go_enter func40,ntmps40;go_wp2;go_ret;exact⟨_,rfl,.inl rfl,bZ⟩
/-- toBookingS: a copy, its lists in new memory behind its own row. -/
theorem KE (ao:Option Addr)(N P:Nat)(S:Nat->zA)(w:World)(hN:N<=1048576)(hs:ZY N S 1048576)(hz:qL w ao N S) :
  Calls prog 47 #[(ao,N,P)] w λe w'=>∃ g C,e=.returned (some (g,0),N,N)/\Ah w' N w.heap.size w'.heap.size g N S C/\Below w w w':=by
 obtain⟨i0,U,X,Y,Z⟩:=info_parts Tryz.infoBooking;have HS:=hI hs;have HX:=hI hz;clear hs hz;go_enter func47,ntmps47;go_wp2_with (first|(at_make;refine wpList_make_full _ rfl _ _ 36 rfl _ 150 i0 _ 13 underlying36 U X Y _ _ _ _ N rfl rfl rfl rfl (by rw[Z];omega) (by unfold maxLen;omega) (Jr _) ?_;intro w1 n o))
 go_loopw [4] (λi wr=>∃ (k:Nat) (C:_),k<=N/\i=int i64 k/\Ah wr k w.heap.size wr.heap.size w.heap.size N S C/\Below w w wr)
  (λi _=>N - (intOf i).toNat)
 case atStart=>exact⟨0,λ_=>[],Jq _,rfl,⟨(ZW n).congr (λj hj=>(Ft (z:=#[_,_,_,_,_,_,_,_,_,_,_,_,_]) (sz:=13) rfl N j hj).trans (by unfold qd;rw[BU _ _ oM])),Jr _,(ZW n).lt,λi U=>by omega⟩,bZ.grown o (Jr _) sM⟩
 case round =>
  obtain⟨k,C,hk,rfl,q,d⟩:=hrel;clear n o
  by_cases hlt:k<N
  ·obtain⟨E,hE,hI⟩:=HX
   obtain⟨b,off,rfl,m⟩:=hE k hlt;have y:Hid (zA.Is w _ _):=hI k hlt;obtain⟨A,B,l,V,a3⟩:=hI k hlt;have f:b<w.heap.size:=Ja w _ (m 0 dC);have c0:wr.cell? _=some (.int _ _):=(d.cell (p:=⟨b,off+_,_⟩) f).trans (rC l (m 0 dC));have c1:wr.cell? _=some (.int _ _):=(d.cell f).trans (rC l (m 1 dC));have c2:wr.cell? _=some (.string _):=(d.cell f).trans (rC l (m 2 dC));have c3:wr.cell? _=some (.slice A _ B):=(d.cell f).trans (rC l (m 3 dC));have c4:wr.cell? _=some (.int _ _):=(d.cell f).trans (rC l (m 4 dC));have c5:wr.cell? _=some (.int _ _):=(d.cell f).trans (rC l (m 5 dC));have c6:wr.cell? _=some (.int _ _):=(d.cell f).trans (rC l (m 6 dC));have c7:wr.cell? _=some (.int _ _):=(d.cell f).trans (rC l (m 7 dC));have c8:wr.cell? _=some (.bool _):=(d.cell f).trans (rC l (m 8 dC));have c9:wr.cell? _=some (.int _ _):=(d.cell f).trans (rC l (m 9 dC));have L:wr.cell? _=some (.int _ _):=(d.cell f).trans (rC l (m 10 dC));have M:wr.cell? _=some (.int _ _):=(d.cell f).trans (rC l (m 11 dC));have O:wr.cell? _=some (.int _ _):=(d.cell f).trans (rC l (m 12 dC));have J:Hid (zA.Is wr [(S k).k,(S k).e,(S k).j1,(A,(S k).c,B),(S k).v,(S k).f,(S k).j,(S k).w,(S k).h,(S k).x,(S k).C,(S k).y,(S k).j2] (S k)):=by show zA.Is wr _ _;rw[← l];exact y.j0 d
   have K:Hid (zA.Short _ 1048576):=HS k hlt;have r:Hid _:=q;clear hE hI m l y q V a3;go_wp2_with fail;refine(LS _ _ _ K J).mono ?_;rintro e H ⟨cs',rfl,F,u⟩;have I:=hI F;obtain⟨v,rfl,_⟩:=F;unfold Zw;have c:=(r.j0 u).wide (Jr _) u.size;have a4:=r.ghi;clear c0 c1 c2 c3 c4 c5 c6 c7 c8 c9 L M O;have o0:=c.row.cell (i:=k*13) oM;have f0:=c.row.frozen (k*13);have o1:=c.row.cell (i:=k*13+1) oM;have f1:=c.row.frozen (k*13+1);have o2:=c.row.cell (i:=k*13+2) oM;have f2:=c.row.frozen (k*13+2);have o3:=c.row.cell (i:=k*13+3) oM;have f3:=c.row.frozen (k*13+3);have o4:=c.row.cell (i:=k*13+4) oM;have f4:=c.row.frozen (k*13+4);have o5:=c.row.cell (i:=k*13+5) oM;have f5:=c.row.frozen (k*13+5);have o6:=c.row.cell (i:=k*13+6) oM;have f6:=c.row.frozen (k*13+6);have o7:=c.row.cell (i:=k*13+7) oM;have f7:=c.row.frozen (k*13+7);have o8:=c.row.cell (i:=k*13+8) oM;have f8:=c.row.frozen (k*13+8);have o9:=c.row.cell (i:=k*13+9) oM;have f9:=c.row.frozen (k*13+9);have a0:=c.row.cell (i:=k*13+10) oM;have Q:=c.row.frozen (k*13+10);have a1:=c.row.cell (i:=k*13+11) oM;have R:=c.row.frozen (k*13+11);have a2:=c.row.cell (i:=k*13+12) oM;have T:=c.row.frozen (k*13+12);have t:=hI c;clear c;go_wp2;go_roundw
   case rel =>
    clear o0 f0 o1 f1 o2 f2 o3 f3 o4 f4 o5 f5 o6 f6 o7 f7 o8 f8 o9 f9 a0 Q a1 R a2 T;obtain⟨W,D⟩:=nM (qA H w.heap.size (k*13) [(S k).k,(S k).e,(S k).j1,(some (v,0),(S k).c,(S k).c),(S k).v,(S k).f,(S k).j,(S k).w,(S k).h,(S k).x,(S k).C,(S k).y,(S k).j2]);have hC:W=(((((((((((((H.setCell (w.heap.size,k*13) (S k).k).setCell (w.heap.size,k*13+1) (S k).e).setCell (w.heap.size,k*13+2) (S k).j1).setCell (w.heap.size,k*13+3) (some (v,0),(S k).c,(S k).c)).setCell (w.heap.size,k*13+4) (S k).v).setCell (w.heap.size,k*13+5) (S k).f).setCell (w.heap.size,k*13+6) (S k).j).setCell (w.heap.size,k*13+7) (S k).w).setCell (w.heap.size,k*13+8) (S k).h).setCell (w.heap.size,k*13+9) (S k).x).setCell (w.heap.size,k*13+10) (S k).C).setCell (w.heap.size,k*13+11) (S k).y).setCell (w.heap.size,k*13+12) (S k).j2):=by rw[D];rfl
    rw[← hC];clear hC;have G:zl H W (λx=>x=w.heap.size):=by rw[D];exact Ei (S:=λx=>x=w.heap.size) rfl _ _ _ (zl.refl _ _)
    have s:W.heap.size=H.heap.size:=by rw[D,Ej]
    refine⟨k+1,λi=>if i=k then [(S k).k,(S k).e,(S k).j1,(some (v,0),(S k).c,(S k).c),(S k).v,(S k).f,(S k).j,(S k).w,(S k).h,(S k).x,(S k).C,(S k).y,(S k).j2] else C i,by omega,by go_num,⟨?_,Jr _,by rw[s];exact t.ghi,λi U=>?_⟩,by rw[D];exact Zi (Jr _) _ _ _ (zb d u)⟩
    ·rw[D]
     refine To t.row rfl dC (λi e=>?_) ?_
     ·rw[QJ _ _ _ _ e];unfold QM;by_cases h:i<k
      ·rw[Jf h,Jf h];exact Je e
      ·rw[Je h,Je h]
     ·rw[qi _ _ (Nat.lt_succ_self k)];exact Jf rfl
    ·rw[s]
     by_cases e:i=k
     ·subst e
      rw[Jf rfl];exact(I.wide oM (Jr _)).kept G (λb h=>by left;omega)
     ·rw[Je e]
      exact(t.each i oM).kept G (λb h=>by left;omega)
   case measure=>simp[intOf];omega
  ·obtain rfl:k=N:=by omega
   go_wp2;go_ret;exact⟨_,C,rfl,q,d⟩
/-- eqBookingS at two lists that are one. -/
theorem IY (K bo:Option Addr)(N c1 c2:Nat)(S:Nat->zA)(w:World)(hN:N<=1048576)(Q:ZY N S 1048576)(R:qL w K N S)(T:qL w bo N S) :
  Calls prog 59 #[(K,N,c1),(bo,N,c2)] w λe w'=>e=.returned (.bool true)/\Below w.heap.size w w':=by
 have U:=hI Q;have V:=hI R;have W:=hI T;clear Q R T;go_enter func59,ntmps59;go_wp2;go_loopw [5] (λi wr=>∃ k,k<=N/\i=int i64 k/\Below w.heap.size w wr) (λi _=>N - (intOf i).toNat)
 case atStart=>exact⟨0,Jq _,rfl,bZ⟩
 case round =>
  obtain⟨k,hk,rfl,a⟩:=hrel
  by_cases hlt:k<N
  ·obtain⟨C,O,hI⟩:=V
   obtain⟨D,P,x⟩:=W;obtain⟨b,off,rfl,f⟩:=O k hlt;obtain⟨L,q,rfl,h⟩:=P k hlt;have m:Hid (zA.Is w _ _):=hI k hlt;have n:Hid (zA.Is w _ _):=x k hlt;obtain⟨t,u,c,z,A⟩:=hI k hlt;obtain⟨J,M,d,o,r⟩:=x k hlt;have j:b<w.heap.size:=Ja w _ (f 0 (by decide))
   have l:L<w.heap.size:=Ja w _ (h 0 (by decide))
   have i1:(0:Int)<=(k:Int):=by omega
   have i2:(k:Int)<(N:Int):=by omega
   have z0:∀ g:zy wr,g.val.cell? _=some (.int _ _):=λg=>((a.trans (g.o.mono a.size)).cell (p:=⟨b,off+_,_⟩) j).trans (by have:=f 0 (by decide);rw[c] at this;exact this)
   have Z:∀ g:zy wr,g.val.cell? _=some (.int _ _):=λg=>((a.trans (g.o.mono a.size)).cell (p:=⟨L,q+_,_⟩) l).trans (by have:=h 0 (by decide);rw[d] at this;exact this)
   have z1:∀ g:zy wr,g.val.cell? _=some (.int _ _):=λg=>((a.trans (g.o.mono a.size)).cell j).trans (by have:=f 1 (by decide);rw[c] at this;exact this)
   have y1:∀ g:zy wr,g.val.cell? _=some (.int _ _):=λg=>((a.trans (g.o.mono a.size)).cell l).trans (by have:=h 1 (by decide);rw[d] at this;exact this)
   have z2:∀ g:zy wr,g.val.cell? _=some (.string _):=λg=>((a.trans (g.o.mono a.size)).cell j).trans (by have:=f 2 (by decide);rw[c] at this;exact this)
   have y2:∀ g:zy wr,g.val.cell? _=some (.string _):=λg=>((a.trans (g.o.mono a.size)).cell l).trans (by have:=h 2 (by decide);rw[d] at this;exact this)
   have z3:∀ g:zy wr,g.val.cell? _=some (.slice t _ u):=λg=>((a.trans (g.o.mono a.size)).cell j).trans (by have:=f 3 (by decide);rw[c] at this;exact this)
   have y3:∀ g:zy wr,g.val.cell? _=some (.slice _ _ _):=λg=>((a.trans (g.o.mono a.size)).cell l).trans (by have:=h 3 (by decide);rw[d] at this;exact this)
   have z4:∀ g:zy wr,g.val.cell? _=some (.int _ _):=λg=>((a.trans (g.o.mono a.size)).cell j).trans (by have:=f 4 (by decide);rw[c] at this;exact this)
   have y4:∀ g:zy wr,g.val.cell? _=some (.int _ _):=λg=>((a.trans (g.o.mono a.size)).cell l).trans (by have:=h 4 (by decide);rw[d] at this;exact this)
   have z5:∀ g:zy wr,g.val.cell? _=some (.int _ _):=λg=>((a.trans (g.o.mono a.size)).cell j).trans (by have:=f 5 (by decide);rw[c] at this;exact this)
   have y5:∀ g:zy wr,g.val.cell? _=some (.int _ _):=λg=>((a.trans (g.o.mono a.size)).cell l).trans (by have:=h 5 (by decide);rw[d] at this;exact this)
   have z6:∀ g:zy wr,g.val.cell? _=some (.int _ _):=λg=>((a.trans (g.o.mono a.size)).cell j).trans (by have:=f 6 (by decide);rw[c] at this;exact this)
   have y6:∀ g:zy wr,g.val.cell? _=some (.int _ _):=λg=>((a.trans (g.o.mono a.size)).cell l).trans (by have:=h 6 (by decide);rw[d] at this;exact this)
   have z7:∀ g:zy wr,g.val.cell? _=some (.int _ _):=λg=>((a.trans (g.o.mono a.size)).cell j).trans (by have:=f 7 (by decide);rw[c] at this;exact this)
   have y7:∀ g:zy wr,g.val.cell? _=some (.int _ _):=λg=>((a.trans (g.o.mono a.size)).cell l).trans (by have:=h 7 (by decide);rw[d] at this;exact this)
   have z8:∀ g:zy wr,g.val.cell? _=some (.bool _):=λg=>((a.trans (g.o.mono a.size)).cell j).trans (by have:=f 8 (by decide);rw[c] at this;exact this)
   have y8:∀ g:zy wr,g.val.cell? _=some (.bool _):=λg=>((a.trans (g.o.mono a.size)).cell l).trans (by have:=h 8 (by decide);rw[d] at this;exact this)
   have z9:∀ g:zy wr,g.val.cell? _=some (.int _ _):=λg=>((a.trans (g.o.mono a.size)).cell j).trans (by have:=f 9 (by decide);rw[c] at this;exact this)
   have y9:∀ g:zy wr,g.val.cell? _=some (.int _ _):=λg=>((a.trans (g.o.mono a.size)).cell l).trans (by have:=h 9 (by decide);rw[d] at this;exact this)
   have G:∀ g:zy wr,g.val.cell? _=some (.int _ _):=λg=>((a.trans (g.o.mono a.size)).cell j).trans (by have:=f 10 (by decide);rw[c] at this;exact this)
   have B:∀ g:zy wr,g.val.cell? _=some (.int _ _):=λg=>((a.trans (g.o.mono a.size)).cell l).trans (by have:=h 10 (by decide);rw[d] at this;exact this)
   have H:∀ g:zy wr,g.val.cell? _=some (.int _ _):=λg=>((a.trans (g.o.mono a.size)).cell j).trans (by have:=f 11 (by decide);rw[c] at this;exact this)
   have E:∀ g:zy wr,g.val.cell? _=some (.int _ _):=λg=>((a.trans (g.o.mono a.size)).cell l).trans (by have:=h 11 (by decide);rw[d] at this;exact this)
   have I:∀ g:zy wr,g.val.cell? _=some (.int _ _):=λg=>((a.trans (g.o.mono a.size)).cell j).trans (by have:=f 12 (by decide);rw[c] at this;exact this)
   have F:∀ g:zy wr,g.val.cell? _=some (.int _ _):=λg=>((a.trans (g.o.mono a.size)).cell l).trans (by have:=h 12 (by decide);rw[d] at this;exact this)
   have X:Hid (∀ g:zy wr,zA.Is _ [_,_,_,_,_,_,_,_,_,_,_,_,_] _):=λg=>by rw[← c];exact(m.j0 a).j0 g.o
   have Y:Hid (∀ g:zy wr,zA.Is _ [_,_,_,_,_,_,_,_,_,_,_,_,_] _):=λg=>by rw[← d];exact(n.j0 a).j0 g.o
   have s:Hid (zA.Short _ 1048576):=U k hlt;clear O hI P x f h c d m n z A o r;go_upto_region 6 with fail;refine ze (by kernel_rfl) (by kernel_rfl) ?_
   repeat(first|go_big_quiet_skip|(go_big_quiet_want;go_big_quiet_op;first|go_big_quiet_on|(apply Jg;refine⟨λg=>?_,?_⟩;(focus(first|(go_at_call 125;refine zr (v:=.bool true) ((KA _ _ _ _ s (X g) (Y g)).mono ?_);rintro e w2 ⟨rfl,y⟩;exact⟨rfl,y⟩)));go_big_quiet_on)))
   refine Jl ?_;rintro _ ⟨g,rfl⟩;clear z0 Z z1 y1 z2 y2 z3 y3 z4 y4 z5 y5 z6 y6 z7 y7 z8 y8 z9 y9 G B H E I F;go_wp2;go_roundw
   case rel=>exact⟨k+1,by omega,by go_num,zb a g.o⟩
   case measure=>simp[intOf];omega
  ·go_wp2
   go_ret;exact⟨rfl,a⟩
theorem NI (cs:List Value)(x:zY)(w:World)(D:zY.Short x 1000000000000000)(h:zY.Is w cs x) :
  Calls prog 6 #[.agg cs.toArray,int i64 1048576] w λe w'=>∃ r:Int,e=.returned r/\(r=-1∨(0<=r/\r<=1048576/\zY.Short x 1048576))/\Below w w w':=by
 obtain⟨j,m,i,l,g,k,rfl,h1,L,h2,M,h3,N⟩:=h;obtain⟨⟨A,O⟩,⟨B,P⟩,⟨C,Q⟩⟩:=D;have b:Below _ w (w.alloc (.cells #[(j,x.i,m),(i,x.l,l),(g,x.g,k)] 26)):=zd bZ _;have n:=Qc b;clear L M N;go_enter func6,ntmps6;go_wp2_with fail;refine(LN j _ m _ _ A O (h1.j0 b)).mono ?_;rintro e v1 ⟨y,rfl,s,a⟩;have f:=za n a;have c:=zb b a;clear n b a
 rcases s with rfl|⟨v,F,G,H⟩
 ·go_wp2
  go_ret;exact⟨_,rfl,.inl rfl,c⟩
 ·have d1:decide (y<0)=false:=by simpa using v
  have p:=bC f 1;go_wp2_with fail;refine(Pj i _ l _ y _ v F B P (h2.j0 c)).mono ?_;rintro e v2 ⟨z,rfl,t,a⟩;have q:=za f a;have d:=zb c a;clear f c a p
  rcases t with rfl|⟨p,q2,I,J⟩
  ·go_wp2
   go_ret;exact⟨_,rfl,.inl rfl,d⟩
  ·have d2:decide (z<0)=false:=by simpa using p
   have E:=bC q 2;go_wp2_with fail;refine(KC g _ k _ z _ p oM C Q (h3.j0 d)).mono ?_;rintro e v3 ⟨K,rfl,u,a⟩;have o:=zb d a;clear d a E
   rcases u with rfl|⟨u1,u2,u3,u4⟩
   ·go_wp2
    go_ret;exact⟨_,rfl,.inl rfl,o⟩
   ·have d3:decide (K<0)=false:=by simpa using u1
    go_wp2;go_ret;exact⟨_,rfl,.inr ⟨u1,by omega,⟨G,H⟩,⟨I,J⟩,⟨u3,u4⟩⟩,o⟩
theorem MR {v0:Value}(h:w.heap[g]?=some (.cells #[u0,u1,u2] t (0,0))):(w.setCell (g,0) v0).heap[g]?=some (.cells #[v0,u1,u2] t (0,0)):=by
 simpa using zk h 0 v0
theorem MS {v1:Value}(h:w.heap[g]?=some (.cells #[u0,u1,u2] t (0,0))):(w.setCell (g,1) v1).heap[g]?=some (.cells #[u0,v1,u2] t (0,0)):=by
 simpa using zk h 1 v1
theorem MT {v2:Value}(h:w.heap[g]?=some (.cells #[u0,u1,u2] t (0,0))):(w.setCell (g,2) v2).heap[g]?=some (.cells #[u0,u1,v2] t (0,0)):=by
 simpa using zk h 2 v2
theorem KF (w:World)(g i:Nat)(v:Value):zl w (w.setCell (g,i) v) (λb=>b=g):=(zl.refl w (λb=>b=g)).set (a:=(g,i)) rfl v
theorem El (cs:List Value)(x:zY)(w:World)(hs:zY.Short x 1048576)(h:zY.Is w cs x) :
  Calls prog 9 #[.agg cs.toArray] w λe w'=>∃ cs',e=.returned (.agg cs'.toArray)/\zY.In w' w.heap.size w'.heap.size cs' x/\Below w w w':=by
 obtain⟨B,H,A,G,z,D,rfl,h1,s1,h2,s2,h3,s3⟩:=h;obtain⟨⟨b1,t1⟩,⟨b2,t2⟩,⟨b3,t3⟩⟩:=hs;clear s1 s2 s3;go_enter func9,ntmps9;go_wp2_with fail;obtain⟨P,n⟩:=nM ((((w.alloc (.cells #[(B,x.i,H),(A,x.l,G),(z,x.g,D)] 26)).alloc (.cells #[True,True,True] 38)).alloc (.cells #[True,True,True] 38)));have Q:Below w w P:=by rw[n];exact zd (zd (zd bZ _) _) _
 have A0:P.heap[w.heap.size]?=some (.cells #[(B,x.i,H),(A,x.l,G),(z,x.g,D)] 26 (0,0)):=by rw[n];exact zg (zg (Jb w _) _) _
 have R0:P.heap[w.heap.size+1]?=some (.cells #[True,True,True] 38 (0,0)):=by rw[n];exact zg (by simpa using Jb (w.alloc _) _) _
 have T:P.heap[w.heap.size+1+1]?=some (.cells #[True,True,True] 38 (0,0)):=by rw[n];simpa using Jb ((w.alloc _).alloc _) _
 rw[← n];clear n;have gO:=zD T;refine(Ku B _ H _ _ b1 t1 (h1.j0 Q)).mono ?_;rintro e v0 ⟨k,ls,cc,rfl,m0,c⟩;have l:=m0.high;have p:=za A0 c;have r:=za R0 c;have j:=za T c;have s:=zb Q c;have X:=c.size;clear A0 R0 T Q c m0;have U:=bC p 1;have I:=bC j 0;have N:=zc j 0;go_wp2_with fail;clear N I U;obtain⟨K,f⟩:=nM (v0.setCell (w.heap.size+1+1,0) (some (k,0),x.i,x.i));have d:zl v0 K (λb=>b=w.heap.size+1+1):=by rw[f];exact KF _ _ _ _
 have A1:=d.blk p oM;have R1:=d.blk r oM;have O1:K.heap[w.heap.size+1+1]?=some (.cells #[(some (k,0),x.i,x.i),True,True] 38 (0,0)):=by rw[f];exact MR j
 have R:Below w w K:=by rw[f];exact s.setCell (by show w.heap.size<=_+1;omega) _
 have u:K.heap.size=v0.heap.size:=by rw[f,World.size_setCell]
 have g:=l.kept d (λb h=>by left;omega)
 rw[← f];rw[← u] at g X;clear f d p r j s l;have l:=g;clear g;clear u;refine(Pk A _ G _ _ b2 t2 (h2.j0 R)).mono ?_;rintro e v1 ⟨m,C,rfl,q,c⟩;have p:=za A1 c;have r:=za R1 c;have j:=za O1 c;have s:=zb R c;have Y:=c.size;replace l:=l.j0 c;clear A1 R1 O1 R c;have V:=bC p 2;have J:=bC j 1;have N:=zc j 1;go_wp2_with fail;clear N J V;obtain⟨L,f⟩:=nM (v1.setCell (w.heap.size+1+1,1) (some (m,0),x.l,x.l));have d:zl v1 L (λb=>b=w.heap.size+1+1):=by rw[f];exact KF _ _ _ _
 have A2:=d.blk p oM;have R2:=d.blk r oM;have O2:L.heap[w.heap.size+1+1]?=some (.cells #[(some (k,0),x.i,x.i),(some (m,0),x.l,x.l),True] 38 (0,0)):=by rw[f];exact MS j
 have S:Below w w L:=by rw[f];exact s.setCell (by show w.heap.size<=_+1;omega) _
 have u:L.heap.size=v1.heap.size:=by rw[f,World.size_setCell]
 have g:=l.kept d (λb h=>by left;omega)
 have i:=q.kept d (λb h=>by left;omega)
 rw[← f];rw[← u] at i Y;clear f d p r j s l q;have l:=g;clear g;have q:=i;clear i;clear u;refine(KE z _ D _ _ b3 t3 (h3.j0 S)).mono ?_;rintro e v2 ⟨o,E,rfl,O,c⟩;have p:=za A2 c;have r:=za R2 c;have j:=za O2 c;have s:=zb S c;have Z:=c.size;replace l:=l.j0 c;have i:=q.j0 c;clear A2 R2 O2 S c q;have q:=i;clear i;have W:=bC j 2;have I:=bC j 0;have J:=bC j 1;have N:=zc j 2;obtain⟨y0,y1,y2⟩:=ZE r;obtain⟨z0,z1,z2⟩:=FM r;go_wp2;clear N I J W z0 y0 z1 y1 z2 y2;obtain⟨t,f⟩:=nM (v2.setCell (w.heap.size+1+1,2) (some (o,0),x.g,x.g));have d:zl v2 t (λb=>b=w.heap.size+1+1):=by rw[f];exact KF _ _ _ _
 have A3:=d.blk p oM;have R3:=d.blk r oM;have O3:t.heap[w.heap.size+1+1]?=some (.cells #[(some (k,0),x.i,x.i),(some (m,0),x.l,x.l),(some (o,0),x.g,x.g)] 38 (0,0)):=by rw[f];exact MT j
 have H3:Below w w t:=by rw[f];exact s.setCell (by show w.heap.size<=_+1;omega) _
 have u:t.heap.size=v2.heap.size:=by rw[f,World.size_setCell]
 have g:=l.kept d (λb h=>by left;omega)
 have i:=q.kept d (λb h=>by left;omega)
 have y:=O.kept d (λb h=>by left;omega)
 rw[← f];rw[← u] at y Z;clear f d p r j s l q O;have l:=g;clear g;have q:=i;clear i;have O:=y;clear y;obtain⟨F,M⟩:=nM (((t.setCell (w.heap.size+1,0) (some (k,0),x.i,x.i)).setCell (w.heap.size+1,1) (some (m,0),x.l,x.l)).setCell (w.heap.size+1,2) (some (o,0),x.g,x.g));have d:zl t F (λb=>b=w.heap.size+1):=by rw[M];exact(((zl.refl t (λb=>b=_)).set (a:=⟨_,0,_⟩) rfl _).set (a:=⟨_,1,_⟩) rfl _).set (a:=⟨_,2,_⟩) rfl _
 have RF:F.heap[w.heap.size+1]?=some (.cells #[(some (k,0),x.i,x.i),(some (m,0),x.l,x.l),(some (o,0),x.g,x.g)] 38 (0,0)):=by rw[M];exact MT (MS (MR R3))
 have HF:Below w w F:=by rw[M];exact((H3.setCell (by show w.heap.size<=w.heap.size+1;omega) _).setCell (by show w.heap.size<=w.heap.size+1;omega) _).setCell (by show w.heap.size<=w.heap.size+1;omega) _
 have u:F.heap.size=t.heap.size:=by rw[M,World.size_setCell,World.size_setCell,World.size_setCell]
 rw[← M];clear M;obtain⟨z0,z1,z2⟩:=ZE RF;have N0:=(l.kept d (λb h=>by left;omega)).wide (lo':=w.heap.size) (hi':=K.heap.size) oM oM
 have N1:=(q.kept d (λb h=>by left;omega)).wide (lo':=K.heap.size) (hi':=L.heap.size) oM oM
 have N2:=(O.kept d (λb h=>by left;omega)).wide (lo':=L.heap.size) (hi':=F.heap.size) oM oM
 exact Jj (v:=.agg #[.slice _ _ _,.slice _ _ _,.slice _ _ _]) (by simp[results,results9,go_sem,z0,z1,z2]) rfl ⟨_,rfl,⟨_,_,k,ls,cc,m,C,o,E,rfl,⟨by omega,by omega,by omega⟩,N0,N1,N2⟩,HF⟩
theorem BV (cs D:List Value)(x:zY)(w:World)(J:zY.Short x 1048576)(h:zY.Is w cs x)(I:zY.Is w D x) :
  Calls prog 12 #[.agg cs.toArray,.agg D.toArray] w λe w'=>e=.returned (.bool true)/\Below w w w':=by
 obtain⟨i,o,g,n,d,l,rfl,h1,N,h2,O,h3,P⟩:=h;obtain⟨j,p,f,m,c,k,rfl,K,u1,L,u2,M,u3⟩:=I;obtain⟨⟨F,Q⟩,⟨G,R⟩,⟨H,S⟩⟩:=J;clear N O P u1 u2 u3;have b:Below _ w ((w.alloc (.cells #[(i,x.i,o),(g,x.l,n),(d,x.g,l)] 38)).alloc (.cells #[(j,x.i,p),(f,x.l,m),(c,x.g,k)] 38)):=zd (zd bZ _) _;have s:=Cs b;have y:=Dt b;go_enter func12,ntmps12;go_wp2_with fail;generalize (w.alloc _).alloc _=v at b s y ⊢;refine bM (IW i j _ o p _ _ F Q (h1.j0 b) (K.j0 b)) λv0 a=>?_
 have t:=za s a;have z:=za y a;have q:=zb b a;clear s y b a;have B:=bC t 1;have C:=bC z 1;go_wp2_with fail;clear B C;refine bM (NH g f _ n m _ _ G R (h2.j0 q) (L.j0 q)) λv1 a=>?_
 have u:=za t a;have A:=za z a;have r:=zb q a;clear t z q a;have B:=bC u 2;have C:=bC A 2;go_wp2_with fail;clear B C;refine bM (IY d c _ l k _ _ H S (h3.j0 r) (M.j0 r)) λv2 a=>?_
 have A3:=za u a;have B3:=za A a;have E:=zb r a;clear u A r a;go_wp2;go_ret;exact⟨rfl,E⟩
theorem kz (g base N R M K p t m:Nat)(J I H l:Option Addr)(z:Int)(y:qD)(x:zY)(L C A B D E:Nat->Value)(w:World)(hq:w.heap[g]?=some (.cells #[(J,N,M),(I,N,K),(H,R,p)] 38 (0,0)))(S:zz w base (J,N,M) (I,N,K) (H,R,p) N N R x L C A B D E)(b5:x.g=R)(a8:base<=w.heap.size)(P:y.d=7)(d3:In y.v 0 20)(e9:y.c<=3)(b0:zS w l y.c y.J)(b4:qm l y.c t)(b1:0<y.c->∀ a,l=some a->a.block<base)(b2:y.k=(m:Int)+1)(hm:m<R)(d:R<=1048576) :
  Calls prog 93 #[.pointer (some (g,0)),z,.agg (y,l,t)] w λe w'=>Ct g base N M K J I (λb=>b=g∨(Value.slice H R p).ownBlock=some b) { x with u:=Qq x.u m (Zd (x.u m) z y) } 0 y.k (0) (λ_ v=>v=.slice none 0 0) L C A B D w e w':=by
 rw[P,b2];have HO:=hI S;have HQ:=hI hq;have b9:=hI P;have c0:=hI b5;have d9:=hI a8;have e5:=hI b0;have e8:=hI b4;have e6:=hI b1;obtain⟨gb,rfl,a7,d1⟩:=qr S.u.row oM;obtain⟨cs,a9⟩:=zC S.u.row gb rfl;obtain⟨d0,c9,eE,q1,q2,q3⟩:=zn (S.u.j4 m hm);obtain⟨b,O⟩:=nM (x.u m);have d7:=hI O;have U:=hI a9;have b6:Hid (∀ V,Below _ w V->∀ j v,(AM _ E m)[j]?=some v->V.cell? _=some v):=λV hV j v hv=>by
  have hj:j<13:=by
   have h:=(List.getElem?_eq_some_iff.1 hv).1;exact h
  have h:=zs S.u.row (m*13+j) oM rfl;rw[zO 13 _ m j hj,List.getD_eq_getElem?_getD,hv] at h;exact tR hV h d1
 have e4:Hid (E m=.slice d0 b.c c9):=by rw[O];exact eE
 have i1:=n0 m;have i2:(m:Int)<(R:Int):=oM;have f0:IntKind.i64.wrap ((m:Int)+1 - 1)=(m:Int):=by rw[Jk];omega
 have HM:=hI hm;have d8:=hI a7;clear a9 eE q1 q2 q3 O a7;clear S hq P b5 a8 b0 b4 b1 b2 hm;obtain⟨pr,Q⟩:=nM (zP ⟨y.v,y.f,y.j,y.w,y.h,y.x⟩ (y.c:Int));have e7:=hI Q;have c:Below _ w ((w.alloc (.cells #[int i64 7,y.j1,int i64 ((m:Int)+1),(l,y.c,t),y.v,y.f,y.j,y.w,y.h,y.x,y.y,y.D] 47)).alloc (.cells #[(),(),(),True] 41)):=zd (zd bZ _) _;have o:=zg (Jb w (.cells #[int i64 7,y.j1,int i64 ((m:Int)+1),(l,y.c,t),y.v,y.f,y.j,y.w,y.h,y.x,y.y,y.D] 47)) (.cells #[(),(),(),True] 41);have s:=EB w (.cells #[int i64 7,y.j1,int i64 ((m:Int)+1),(l,y.c,t),y.v,y.f,y.j,y.w,y.h,y.x,y.y,y.D] 47) (.cells #[(),(),(),True] 41);go_enter func93,ntmps93;go_wp2_with fail;generalize ((w.alloc _).alloc _)=W at c o s ⊢;refine bM (Z6 _ _ _ _ _ _ _ _ d3 (by unfold In;omega)) λV F=>?_
 rw[← Q];clear Q;replace c:=zb c F;replace o:=za o F;replace s:=za s F;clear F W;have o0:=bC o 0;have n2:∀ G:zy V,G.val.cell? _=some (.slice _ R p):=λG=>bC (za HQ (zb c G.o)) 2
 have m2:∀ G:zy V,G.val.cell? _=some (.int _ _):=λG=>bC (za o G.o) 2
 go_upto_region 17 with fail;refine ze kR kR ?_
 repeat(first|go_big_quiet_skip|(go_big_quiet_want;go_big_quiet_op;first|go_big_quiet_on|fail))
 refine Jl ?_;rintro _ ⟨G,rfl⟩;replace c:=zb c G.o;replace o:=za o G.o;replace s:=za s G.o;have d4:=zD s;have o2:=bC o 2;clear o0 n2 m2;have o0:=aC o 0;go_upto_region 20 with fail;replace c:=zd c (.cells #[(),int i64 ((m:Int)+1),(),True] 41);replace o:=zg o (.cells #[(),int i64 ((m:Int)+1),(),True] 41);replace s:=zg s (.cells #[(),int i64 ((m:Int)+1),(),True] 41);have bT:=Jb G.val (.cells #[(),int i64 ((m:Int)+1),(),True] 41);generalize G.val.alloc _=X at c o s bT ⊢;generalize G.val.heap.size=tb at bT d4 ⊢;clear o0 o2 G V;have a4:=za U c;have k2:=b6 X c 2 _ rfl;have f2:=zc a4 (m*13+2);obtain⟨t0,t1,t2,t3⟩:=Qk bT;have d5:=bC o 1;go_upto_region 38 with fail;have a0:Hid (Zd (x.u m) z y={ x.u m with j1:=y.j1 }):=by show _=_;simp[Zd,b9.out]
 have n:zl X (X.setCell _ y.j1) _:=((zl.refl X (λb=>b=gb)).set (a:=(gb,m*13+2)) rfl _)
 have q:Hid ((X.setCell (gb,m*13+2) y.j1).ownsRow base 150 13 (some (gb,0),R,p) R (AQ (Qq x.u m (Zd (x.u m) z y)) (AP E m (E m)) R)):=by
  refine qX (zI ((HO.j0 c).u.row) _ _) (λj _=>Fu 13 dC (k:=m) (C:=AM x.u E) (f:=λi=>if i=_ then _ else _) (λr hr=>?_) (λj hj=>?_) (λi hi=>?_) j)
  ·have d:=zO 13 (AM x.u E) m r hr
   unfold AM;rw[ZS,qg,a0.out];unfold AM at d;have b3:r=0∨r=1∨r=2∨r=3∨r=4∨r=5∨r=6∨r=7∨r=8∨r=9∨r=10∨r=11∨r=12:=oM
   rcases b3 with rfl|rfl|rfl|rfl|rfl|rfl|rfl|rfl|rfl|rfl|rfl|rfl|rfl
   ·rw[Je oM,d];rfl
   ·rw[Je oM,d];rfl
   ·rw[Jf rfl];rfl
   ·rw[Je oM,d];rfl
   ·rw[Je oM,d];rfl
   ·rw[Je oM,d];rfl
   ·rw[Je oM,d];rfl
   ·rw[Je oM,d];rfl
   ·rw[Je oM,d];rfl
   ·rw[Je oM,d];rfl
   ·rw[Je oM,d];rfl
   ·rw[Je oM,d];rfl
   ·rw[Je oM,d];rfl
  ·rw[Je oM]
  ·unfold AM
   rw[Au _ _ _ hi,zV _ _ _ _ hi]
 have a2:=hI ((HO.j0 c).k4 n q (by rw[a0.out];exact(HO.j0 c).u.j4 m HM) (HO.u.far_same HM))
 have d2:g≠gb:=λe=>by have h:=U.out;rw[← e,HQ.out] at h;simp at h
 have a3:=hI (n.blk (za HQ c) d2);have a5:=n.blk bT (by show _;omega)
 have u:=n.blk s (by show _;omega)
 have Z:Hid (zl w _ (λb=>b=g∨(Value.slice (some (gb,0)) R p).ownBlock=some b)):=(zl.of_below c).trans (n.mono (λb e=>.inr (by rw[show _ from e];rfl)))
 generalize (X.setCell _ _)=Z1 at n q a2 a3 a5 u Z ⊢;clear n q bT s d5 o a4 t0 t1 t2 t3 k2 f2;have d6:w.heap.size+1≠tb:=oM;obtain⟨a1,a6,Y,bF⟩:=BY Z a2 a3 u oM () (int i64 ((m:Int)+1)) () True rfl;obtain⟨t0,t1,t2,t3⟩:=Qk a5;obtain⟨v0,v1,v2,v3⟩:=Qk u;obtain⟨e0,e1,e2,e3⟩:=EV u;have T:=hI a1;have b8:=hI a6;have b7:=hI Y;clear a1 a6 Y;go_wp2;obtain⟨x0,x1,x2,x3⟩:=Qk bF;refine Jj (v:=.agg #[int i64 0,int i64 ((m:Int)+1),int i64 (0),.slice none 0 0]) (by simp[results,results93,go_sem,x0,x1,x2,x3]) rfl ?_
 have d:=c0;subst d;exact⟨_,_,_,_,rfl,rfl,T,b8,b7⟩
theorem le (g base N R M K p t m:Nat)(J I H l:Option Addr)(z:Int)(y:qD)(x:zY)(L C A B D E:Nat->Value)(w:World)(hq:w.heap[g]?=some (.cells #[(J,N,M),(I,N,K),(H,R,p)] 38 (0,0)))(S:zz w base (J,N,M) (I,N,K) (H,R,p) N N R x L C A B D E)(b5:x.g=R)(a8:base<=w.heap.size)(P:y.d=8)(d4:In y.v 0 20)(f0:y.c<=3)(b0:zS w l y.c y.J)(b4:qm l y.c t)(b1:0<y.c->∀ a,l=some a->a.block<base)(b2:y.k=(m:Int)+1)(hm:m<R)(d:R<=1048576) :
  Calls prog 93 #[.pointer (some (g,0)),z,.agg (y,l,t)] w λe w'=>Ct g base N M K J I (λb=>b=g∨(Value.slice H R p).ownBlock=some b) { x with u:=Qq x.u m (Zd (x.u m) z y) } 0 y.k (0) (λ_ v=>v=.slice none 0 0) L C A B D w e w':=by
 rw[P,b2];have HO:=hI S;have HQ:=hI hq;have b9:=hI P;have c0:=hI b5;have e4:=hI a8;have e6:=hI b0;have e9:=hI b4;have e7:=hI b1;obtain⟨gb,rfl,a7,d2⟩:=qr S.u.row oM;obtain⟨cs,a9⟩:=zC S.u.row gb rfl;obtain⟨d0,c9,eE,q1,q2,q3⟩:=zn (S.u.j4 m hm);obtain⟨b,O⟩:=nM (x.u m);have d8:=hI O;have U:=hI a9;have b6:Hid (∀ V,Below _ w V->∀ j v,(AM _ E m)[j]?=some v->V.cell? _=some v):=λV hV j v hv=>by
  have hj:j<13:=by
   have h:=(List.getElem?_eq_some_iff.1 hv).1;exact h
  have h:=zs S.u.row (m*13+j) oM rfl;rw[zO 13 _ m j hj,List.getD_eq_getElem?_getD,hv] at h;exact tR hV h d2
 have e5:Hid (E m=.slice d0 b.c c9):=by rw[O];exact eE
 have i1:=n0 m;have i2:(m:Int)<(R:Int):=oM;have f1:IntKind.i64.wrap ((m:Int)+1 - 1)=(m:Int):=by rw[Jk];omega
 have HM:=hI hm;have d9:=hI a7;clear a9 eE q1 q2 q3 O a7;clear S hq P b5 a8 b0 b4 b1 b2 hm;obtain⟨pr,Q⟩:=nM (zP ⟨y.v,y.f,y.j,y.w,y.h,y.x⟩ (y.c:Int));have e8:=hI Q;have c:Below _ w ((w.alloc (.cells #[int i64 8,y.j1,int i64 ((m:Int)+1),(l,y.c,t),y.v,y.f,y.j,y.w,y.h,y.x,y.y,y.D] 47)).alloc (.cells #[(),(),(),True] 41)):=zd (zd bZ _) _;have o:=zg (Jb w (.cells #[int i64 8,y.j1,int i64 ((m:Int)+1),(l,y.c,t),y.v,y.f,y.j,y.w,y.h,y.x,y.y,y.D] 47)) (.cells #[(),(),(),True] 41);have s:=EB w (.cells #[int i64 8,y.j1,int i64 ((m:Int)+1),(l,y.c,t),y.v,y.f,y.j,y.w,y.h,y.x,y.y,y.D] 47) (.cells #[(),(),(),True] 41);go_enter func93,ntmps93;go_wp2_with fail;generalize ((w.alloc _).alloc _)=W at c o s ⊢;refine bM (Z6 _ _ _ _ _ _ _ _ d4 (by unfold In;omega)) λV F=>?_
 rw[← Q];clear Q;replace c:=zb c F;replace o:=za o F;replace s:=za s F;clear F W;have o0:=bC o 0;have n2:∀ G:zy V,G.val.cell? _=some (.slice _ R p):=λG=>bC (za HQ (zb c G.o)) 2
 have m2:∀ G:zy V,G.val.cell? _=some (.int _ _):=λG=>bC (za o G.o) 2
 go_upto_region 17 with fail;refine ze kR kR ?_
 repeat(first|go_big_quiet_skip|(go_big_quiet_want;go_big_quiet_op;first|go_big_quiet_on|fail))
 refine Jl ?_;rintro _ ⟨G,rfl⟩;replace c:=zb c G.o;replace o:=za o G.o;replace s:=za s G.o;have d5:=zD s;have o2:=bC o 2;clear o0 n2 m2;have o0:=aC o 0;go_upto_region 20 with fail;replace c:=zd c (.cells #[(),int i64 ((m:Int)+1),(),True] 41);replace o:=zg o (.cells #[(),int i64 ((m:Int)+1),(),True] 41);replace s:=zg s (.cells #[(),int i64 ((m:Int)+1),(),True] 41);have bT:=Jb G.val (.cells #[(),int i64 ((m:Int)+1),(),True] 41);generalize G.val.alloc _=X at c o s bT ⊢;generalize G.val.heap.size=tb at bT d5 ⊢;clear o0 o2 G V;have a4:=za U c;have d6:=b6 X c 10 _ rfl;have d1:=zc a4 (m*13+10);obtain⟨t0,t1,t2,t3⟩:=Qk bT;go_upto_region 38 with fail;have a0:Hid (Zd (x.u m) z y={ x.u m with C:=4 }):=by show _=_;simp[Zd,b9.out]
 have n:zl X (X.setCell _ (int i64 4)) _:=((zl.refl X (λb=>b=gb)).set (a:=(gb,m*13+10)) rfl _)
 have q:Hid ((X.setCell (gb,m*13+10) (int i64 4)).ownsRow base 150 13 (some (gb,0),R,p) R (AQ (Qq x.u m (Zd (x.u m) z y)) (AP E m (E m)) R)):=by
  refine qX (zI ((HO.j0 c).u.row) _ _) (λj _=>Fu 13 dC (k:=m) (C:=AM x.u E) (f:=λi=>if i=_ then _ else _) (λr hr=>?_) (λj hj=>?_) (λi hi=>?_) j)
  ·have d:=zO 13 (AM x.u E) m r hr
   unfold AM;rw[ZS,qg,a0.out];unfold AM at d;have b3:r=0∨r=1∨r=2∨r=3∨r=4∨r=5∨r=6∨r=7∨r=8∨r=9∨r=10∨r=11∨r=12:=oM
   rcases b3 with rfl|rfl|rfl|rfl|rfl|rfl|rfl|rfl|rfl|rfl|rfl|rfl|rfl
   ·rw[Je oM,d];rfl
   ·rw[Je oM,d];rfl
   ·rw[Je oM,d];rfl
   ·rw[Je oM,d];rfl
   ·rw[Je oM,d];rfl
   ·rw[Je oM,d];rfl
   ·rw[Je oM,d];rfl
   ·rw[Je oM,d];rfl
   ·rw[Je oM,d];rfl
   ·rw[Je oM,d];rfl
   ·rw[Jf rfl];rfl
   ·rw[Je oM,d];rfl
   ·rw[Je oM,d];rfl
  ·rw[Je oM]
  ·unfold AM
   rw[Au _ _ _ hi,zV _ _ _ _ hi]
 have a2:=hI ((HO.j0 c).k4 n q (by rw[a0.out];exact(HO.j0 c).u.j4 m HM) (HO.u.far_same HM))
 have d3:g≠gb:=λe=>by have h:=U.out;rw[← e,HQ.out] at h;simp at h
 have a3:=hI (n.blk (za HQ c) d3);have a5:=n.blk bT (by show _;omega)
 have u:=n.blk s (by show _;omega)
 have Z:Hid (zl w _ (λb=>b=g∨(Value.slice (some (gb,0)) R p).ownBlock=some b)):=(zl.of_below c).trans (n.mono (λb e=>.inr (by rw[show _ from e];rfl)))
 generalize (X.setCell _ _)=Z1 at n q a2 a3 a5 u Z ⊢;clear n q bT s o a4 t0 t1 t2 t3 d6 d1;have d7:w.heap.size+1≠tb:=oM;obtain⟨a1,a6,Y,bF⟩:=BY Z a2 a3 u oM () (int i64 ((m:Int)+1)) () True rfl;obtain⟨t0,t1,t2,t3⟩:=Qk a5;obtain⟨v0,v1,v2,v3⟩:=Qk u;obtain⟨e0,e1,e2,e3⟩:=EV u;have T:=hI a1;have b8:=hI a6;have b7:=hI Y;clear a1 a6 Y;go_wp2;obtain⟨x0,x1,x2,x3⟩:=Qk bF;refine Jj (v:=.agg #[int i64 0,int i64 ((m:Int)+1),int i64 (0),.slice none 0 0]) (by simp[results,results93,go_sem,x0,x1,x2,x3]) rfl ?_
 have d:=c0;subst d;exact⟨_,_,_,_,rfl,rfl,T,b8,b7⟩
theorem lf (g base N R l k u d:Nat)(j i t b:Option Addr)(P:Int)(y:qD)(x:zY)(L C A B D E:Nat->Value)(w:World)(U:w.heap[g]?=some (.cells #[(j,N,l),(i,N,k),(t,R,u)] 38 (0,0)))(S:zz w base (j,N,l) (i,N,k) (t,R,u) N N R x L C A B D E)(J:x.g=R)(F:base<=w.heap.size)(m:y.d=1)(Q:In y.v 0 20)(a3:y.c<=3)(G:zS w b y.c y.J)(I:qm b y.c d)(H:0<y.c->∀ a,b=some a->a.block<base) :
  Calls prog 93 #[.pointer (some (g,0)),P,.agg (y,b,d)] w λe w'=>Ct g base N l k j i (λ_=>False) x 0 0 (zP ⟨y.v,y.f,y.j,y.w,y.h,y.x⟩ (y.c:Int)) (λ_ v=>v=.slice none 0 0) L C A B D w e w':=by
 rw[m];have HO:=hI S;have HQ:=hI U;have Z:=hI m;have O:=hI J;have Y:=hI F;have a0:=hI G;have a2:=hI I;have a1:=hI H;clear S U m J F G I H;obtain⟨X,n⟩:=nM (zP ⟨y.v,y.f,y.j,y.w,y.h,y.x⟩ (y.c:Int));have M:=hI n;have c:Below _ w ((w.alloc (.cells #[int i64 1,y.j1,y.k,(b,y.c,d),y.v,y.f,y.j,y.w,y.h,y.x,y.y,y.D] 47)).alloc (.cells #[(),(),(),True] 41)):=zd (zd bZ _) _;have K:=zg (Jb w (.cells #[int i64 1,y.j1,y.k,(b,y.c,d),y.v,y.f,y.j,y.w,y.h,y.x,y.y,y.D] 47)) (.cells #[(),(),(),True] 41);have o:=EB w (.cells #[int i64 1,y.j1,y.k,(b,y.c,d),y.v,y.f,y.j,y.w,y.h,y.x,y.y,y.D] 47) (.cells #[(),(),(),True] 41);go_enter func93,ntmps93;go_wp2_with fail;generalize ((w.alloc _).alloc _)=W at c K o ⊢;refine bM (Z6 _ _ _ _ _ _ _ _ Q (by unfold In;omega)) λV f=>?_
 rw[← n];clear n;replace c:=zb c f;replace K:=za K f;replace o:=za o f;clear f W;have o0:=bC K 0;obtain⟨s,z,r,bF⟩:=BY (T:=(λ_=>False)) (zl.of_below c) (HO.j0 c) (za HQ c) o oM () () X True rfl
 obtain⟨v0,v1,v2,v3⟩:=Qk o;obtain⟨e0,e1,e2,e3⟩:=EV o;have h:=hI s;have q:=hI z;have p:=hI r;clear s z r;go_wp2;obtain⟨x0,x1,x2,x3⟩:=Qk bF;refine Jj (v:=.agg #[(),(),X,True]) (by simp[results,results93,go_sem,x0,x1,x2,x3]) rfl ?_
 have hR:=O;subst hR;rw[M.out] at h q p ⊢;exact⟨_,_,_,_,rfl,rfl,h,q,p⟩
theorem iq (g base N R k j t d:Nat)(i h s b:Option Addr)(O:Int)(y:qD)(x:zY)(L C A B D E:Nat->Value)(w:World)(U:w.heap[g]?=some (.cells #[(i,N,k),(h,N,j),(s,R,t)] 38 (0,0)))(S:zz w base (i,N,k) (h,N,j) (s,R,t) N N R x L C A B D E)(I:x.g=R)(z:base<=w.heap.size)(l:y.d=2)(P:In y.v 0 20)(a3:y.c<=3)(F:zS w b y.c y.J)(H:qm b y.c d)(G:0<y.c->∀ a,b=some a->a.block<base)(hR:R=30) :
  Calls prog 93 #[.pointer (some (g,0)),O,.agg (y,b,d)] w λe w'=>Ct g base N k j i h (λ_=>False) x 8 0 0 (λ_ v=>v=.slice none 0 0) L C A B D w e w':=by
 subst hR;rw[l];have HO:=hI S;have Q:=hI U;have Y:=hI l;have r:=hI I;have X:=hI z;have Z:=hI F;have a2:=hI H;have a0:=hI G;clear S U l I z F H G;obtain⟨pr,m⟩:=nM (zP ⟨y.v,y.f,y.j,y.w,y.h,y.x⟩ (y.c:Int));have a1:=hI m;have c:Below _ w ((w.alloc (.cells #[int i64 2,y.j1,y.k,(b,y.c,d),y.v,y.f,y.j,y.w,y.h,y.x,y.y,y.D] 47)).alloc (.cells #[(),(),(),True] 41)):=zd (zd bZ _) _;have J:=zg (Jb w (.cells #[int i64 2,y.j1,y.k,(b,y.c,d),y.v,y.f,y.j,y.w,y.h,y.x,y.y,y.D] 47)) (.cells #[(),(),(),True] 41);have n:=EB w (.cells #[int i64 2,y.j1,y.k,(b,y.c,d),y.v,y.f,y.j,y.w,y.h,y.x,y.y,y.D] 47) (.cells #[(),(),(),True] 41);go_enter func93,ntmps93;go_wp2_with fail;generalize ((w.alloc _).alloc _)=W at c J n ⊢;refine bM (Z6 _ _ _ _ _ _ _ _ P (by unfold In;omega)) λV f=>?_
 rw[← m];clear m;replace c:=zb c f;replace J:=za J f;replace n:=za n f;clear f W;have o0:=bC J 0;have zq:=bC (za Q c) 2;obtain⟨q,u,p,bF⟩:=BY (T:=(λ_=>False)) (zl.of_below c) (HO.j0 c) (za Q c) n oM (int i64 8) () () True rfl
 obtain⟨v0,v1,v2,v3⟩:=Qk n;obtain⟨e0,e1,e2,e3⟩:=EV n;have o:=hI q;have M:=hI u;have K:=hI p;clear q u p;go_wp2;obtain⟨x0,x1,x2,x3⟩:=Qk bF;refine Jj (v:=.agg #[int i64 8,(),(),True]) (by simp[results,results93,go_sem,x0,x1,x2,x3]) rfl ?_
 exact⟨_,_,_,_,rfl,rfl,by rw[r.out];exact o,by rw[r.out];exact M,K⟩
theorem ir (g base N R k j t d:Nat)(i h s b:Option Addr)(O:Int)(y:qD)(x:zY)(L C A B D E:Nat->Value)(w:World)(U:w.heap[g]?=some (.cells #[(i,N,k),(h,N,j),(s,R,t)] 38 (0,0)))(S:zz w base (i,N,k) (h,N,j) (s,R,t) N N R x L C A B D E)(I:x.g=R)(z:base<=w.heap.size)(l:y.d=3)(P:In y.v 0 20)(a3:y.c<=3)(F:zS w b y.c y.J)(H:qm b y.c d)(G:0<y.c->∀ a,b=some a->a.block<base)(hR:R=30) :
  Calls prog 93 #[.pointer (some (g,0)),O,.agg (y,b,d)] w λe w'=>Ct g base N k j i h (λ_=>False) x 8 0 0 (λ_ v=>v=.slice none 0 0) L C A B D w e w':=by
 subst hR;rw[l];have HO:=hI S;have Q:=hI U;have Y:=hI l;have r:=hI I;have X:=hI z;have Z:=hI F;have a2:=hI H;have a0:=hI G;clear S U l I z F H G;obtain⟨pr,m⟩:=nM (zP ⟨y.v,y.f,y.j,y.w,y.h,y.x⟩ (y.c:Int));have a1:=hI m;have c:Below _ w ((w.alloc (.cells #[int i64 3,y.j1,y.k,(b,y.c,d),y.v,y.f,y.j,y.w,y.h,y.x,y.y,y.D] 47)).alloc (.cells #[(),(),(),True] 41)):=zd (zd bZ _) _;have J:=zg (Jb w (.cells #[int i64 3,y.j1,y.k,(b,y.c,d),y.v,y.f,y.j,y.w,y.h,y.x,y.y,y.D] 47)) (.cells #[(),(),(),True] 41);have n:=EB w (.cells #[int i64 3,y.j1,y.k,(b,y.c,d),y.v,y.f,y.j,y.w,y.h,y.x,y.y,y.D] 47) (.cells #[(),(),(),True] 41);go_enter func93,ntmps93;go_wp2_with fail;generalize ((w.alloc _).alloc _)=W at c J n ⊢;refine bM (Z6 _ _ _ _ _ _ _ _ P (by unfold In;omega)) λV f=>?_
 rw[← m];clear m;replace c:=zb c f;replace J:=za J f;replace n:=za n f;clear f W;have o0:=bC J 0;have zq:=bC (za Q c) 2;obtain⟨q,u,p,bF⟩:=BY (T:=(λ_=>False)) (zl.of_below c) (HO.j0 c) (za Q c) n oM (int i64 8) () () True rfl
 obtain⟨v0,v1,v2,v3⟩:=Qk n;obtain⟨e0,e1,e2,e3⟩:=EV n;have o:=hI q;have M:=hI u;have K:=hI p;clear q u p;go_wp2;obtain⟨x0,x1,x2,x3⟩:=Qk bF;refine Jj (v:=.agg #[int i64 8,(),(),True]) (by simp[results,results93,go_sem,x0,x1,x2,x3]) rfl ?_
 exact⟨_,_,_,_,rfl,rfl,by rw[r.out];exact o,by rw[r.out];exact M,K⟩
def Cq (n:Nat)(S:Nat->zA)(a:Int):Prop:=In a 1 9999/\∀ i,i<n->(S i).e≠a
theorem Rb (r q k:Option Addr)(N M R v u s:Nat)(x:zY)(f:Int)(w:World)(hR:R<=1048576)(y:qL w k R x.u) :
  Calls prog 43 #[.agg #[(r,N,v),(q,M,u),(k,R,s)],f] w λe w'=>qH (Cq R x.u f) e/\Below w w w':=by
 have B:=hI y;clear y;have E:Below _ w (w.alloc (.cells #[(r,N,v),(q,M,u),(k,R,s)] 38)):=zd bZ _;go_enter func43,ntmps43;go_wp2;go_loopw [6,10] (λ_ i wr=>∃ t,t<=R/\i=int i64 t/\Hid (∀ j,j<t->(x.u j).e≠f)/\Below w w wr) (λ_ i _=>R - (intOf i).toNat)
 case atStart=>exact⟨0,Jq _,rfl,(λj P=>by omega),E⟩
 case round =>
  obtain⟨t,ht,rfl,F,a⟩:=hrel
  by_cases hlt:t<R
  ·obtain⟨Cc,A,z⟩:=B
   obtain⟨gb,off,rfl,g⟩:=A t hlt;obtain⟨D,C,l,O,Q⟩:=z t hlt;obtain⟨b,m⟩:=nM (x.u t);rw[← m] at l;have o:=hI m.symm;rw[l] at g;have d:=Ja w _ (g 0 dC);have i0:=n0 t;have i1:(t:Int)<(R:Int):=by omega
   have c0:wr.cell? _=some (.int _ _):=(a.cell (p:=⟨gb,off+_,_⟩) d).trans (g 0 (by decide))
   have c1:wr.cell? _=some (.int _ _):=(a.cell (p:=⟨gb,_+1,_⟩) d).trans (g 1 (by decide))
   have c2:wr.cell? _=some (.string _):=(a.cell (p:=⟨gb,_+2,_⟩) d).trans (g 2 (by decide))
   have c3:wr.cell? _=some (.slice D _ C):=(a.cell (p:=⟨gb,_+3,_⟩) d).trans (g 3 (by decide))
   have c4:wr.cell? _=some (.int _ _):=(a.cell (p:=⟨gb,_+4,_⟩) d).trans (g 4 (by decide))
   have c5:wr.cell? _=some (.int _ _):=(a.cell (p:=⟨gb,_+5,_⟩) d).trans (g 5 (by decide))
   have c6:wr.cell? _=some (.int _ _):=(a.cell (p:=⟨gb,_+6,_⟩) d).trans (g 6 (by decide))
   have c7:wr.cell? _=some (.int _ _):=(a.cell (p:=⟨gb,_+7,_⟩) d).trans (g 7 (by decide))
   have c8:wr.cell? _=some (.bool _):=(a.cell (p:=⟨gb,_+8,_⟩) d).trans (g 8 (by decide))
   have c9:wr.cell? _=some (.int _ _):=(a.cell (p:=⟨gb,_+9,_⟩) d).trans (g 9 (by decide))
   have I:wr.cell? _=some (.int _ _):=(a.cell (p:=⟨gb,_+10,_⟩) d).trans (g 10 (by decide))
   have J:wr.cell? _=some (.int _ _):=(a.cell (p:=⟨gb,_+11,_⟩) d).trans (g 11 (by decide))
   have K:wr.cell? _=some (.int _ _):=(a.cell (p:=⟨gb,_+12,_⟩) d).trans (g 12 (by decide))
   clear g l O Q A z m
   by_cases he:b.e=f
   ·have L:(b.e == f)=true:=by simpa using he
    have H:Hid (¬ Cq R x.u f):=λh=>h.2 t hlt (by rw[o.out];exact he)
    clear he;go_wp2;go_ret;exact⟨zh H,zd a _⟩
   ·have L:(b.e == f)=false:=by simpa using he
    have G:Hid (∀ j,j<t+1->(x.u j).e≠f):=λj P=>by
     by_cases c:j=t
     ·rw[c,o.out];exact he
     ·exact F j (by omega)
    clear he;go_wp2;go_roundw
    case rel=>exact⟨_,by omega,by go_num,G,zd a _⟩
    case measure=>simp[intOf];omega
  ·obtain rfl:t=R:=by omega
   go_wp2_with (first|(go_at_call 89;refine bM (Qt _ _) λw' n=>?_;have n:=n.symm;subst n))
   go_ret;refine⟨⟨_,rfl,?_⟩,a⟩;rw[decide_eq_true_eq];exact⟨λh=>⟨h,F⟩,λh=>h.1⟩
theorem Rf (G:Nat)(a:Array Value)(w:World)(Q:World->Prop)(R:Value->World->Prop)(eg:∀ args w,(callFunc G args).run prog w=.ok (.enter G args) w)
  (h:Calls prog G a (w.alloc (.cells #[.nilIface] 92)) λe w'=>w'.heap[w.heap.size]?=some (.cells #[.nilIface] 92 (0,0))/\((e=.returned (.tuple #[])/\Q w')∨∃ u,e=.panicked [{ v:=.iface 96 u,recovered:=false }]/\R u w')) :
  Calls prog 51 #[.func (.func G) #[] a] w λe w'=>(e=.returned .nilIface/\∃ b,Q b/\w'=b.setCell (w.heap.size,0) .nilIface)∨∃ u,e=.returned (.iface 96 u)/\∃ b,R u b/\w'=b.setCell (w.heap.size,0) (.iface 96 u):=by
 have l:∀ (fn) (first cap) (w),(Instr.makeFunc fn _ cap).run prog w=.ok (.func fn first cap) w:=λ_ _ _ _=>rfl
 go_enter_defers func51,ntmps51;go_wp2_with (go_at_fn G;refine h.mono ?_;rintro e b ⟨g,⟨rfl,j⟩|⟨u,rfl,k⟩⟩ <;> (have c:=bC g 0;have i:=zc g 0))
 ·refine leaves_cons (f:=105) (args:=#[.pointer (some (w.heap.size,0))]) sM (by simp[go_sem]) ?_
  refine(Sw _ _).mono ?_;rintro e m d ⟨rfl,rfl,rfl⟩;simp[Leaves,settle,results,results51,go_sem];exact⟨_,by rw[World.cell?_setCell_same _ _ _ c],.inl ⟨rfl,b,j,rfl⟩⟩
 ·refine leaves_cons (f:=105) (args:=#[.pointer (some (w.heap.size,0))]) sM (by simp[go_sem]) ?_
  refine(Mp _ _ u [] _ c i).mono ?_;rintro e m d ⟨rfl,rfl,rfl⟩;simp[Leaves,settle,results,results51,go_sem];exact⟨_,by rw[World.cell?_setCell_same _ _ _ c],.inr ⟨u,rfl,b,k,rfl⟩⟩

def kS (S:Nat->qe)(k0:Nat):Nat->Nat
 |0=>k0
 |i+1=>kS S k0 i+(6+2*(S i).la.n+2*(S i).M.n)
def mS (S:Nat->qe)(k0:Nat)(i:Nat):qe :=
 ⟨(kS S k0 i:Nat),BF (kS S k0 i+1),BF (kS S k0 i+2),(kS S k0 i+3:Nat),(kS S k0 i+4:Nat),Cu (kS S k0 i+5) (S i).la,Cu (kS S k0 i+5+2*(S i).la.n) (S i).M,(kS S k0 i+5+2*(S i).la.n+2*(S i).M.n:Nat)⟩
def jd (S:Nat->qe)(k0 t:Nat)(i:Nat):qe:=if i<t then mS S k0 i else S i
theorem AE {S:Nat->qe}(h:i<t):jd S k0 t i=mS S k0 i:=Jf h
theorem Fr {S:Nat->qe}(h:¬ i<t):jd S k0 t i=S i:=Je h
theorem Tz {S:Nat->qe}(h:∀ i,i<N->(S i).la.n<=1048576/\(S i).M.n<=1048576):∀ i,i<=N->kS S k0 i<=k0+i*4194310
 |0,_=>by unfold kS;omega
 |i+1,hi=>by
  have:kS S k0 i<=_:=Tz h i oM;have:=h i oM;unfold kS
  omega
def rf (v:Value)(N:Nat)(L C:Nat->Value)(b:Nat):Prop:=v.ownBlock=some b∨∃ i,i<N/\((L i).ownBlock=some b∨(C i).ownBlock=some b)
theorem df (z:Int)(a:Option Addr)(c base k0:Nat)(p:zv)(w:World)(g:z=(k0:Int))(d:p.n<=1048576)(h1:k0<=100000000000000)(f:w.ownsRow base 223 2 (a,p.n,c) p.n (qu p)) :
  Calls prog 127 #[(a,p.n,c),z] w λe w'=>e=.returned ((k0+2*p.n:Nat):Int)/\w'.ownsRow base 223 2 (a,p.n,c) p.n (qu (Cu k0 p))/\zl w w' (λb=>(Value.slice a p.n c).ownBlock=some b):=by
 subst g;exact cz a c _ k0 p w d h1 f
theorem Te (z:Int)(a:Option Addr)(c base k0:Nat)(p:zv)(w:World)(g:z=(k0:Int))(d:p.n<=1048576)(h1:k0<=100000000000000)(f:w.ownsRow base 231 2 (a,p.n,c) p.n (qu p)) :
  Calls prog 128 #[(a,p.n,c),z] w λe w'=>e=.returned ((k0+2*p.n:Nat):Int)/\w'.ownsRow base 231 2 (a,p.n,c) p.n (qu (Cu k0 p))/\zl w w' (λb=>(Value.slice a p.n c).ownBlock=some b):=by
 subst g;exact Tc a c _ k0 p w d h1 f
theorem dg (z:Int)(a:Option Addr)(c k0:Nat)(p:zv)(w:World)(d:z=(k0:Int))(b:p.n<=1048576)(h1:k0<=100000000000000)(h:zJ w a (Cu k0 p)) :
  Calls prog 132 #[(a,p.n,c),z] w λe w'=>e=.returned ((k0+2*p.n:Nat):Int)/\w'=w:=by
 subst d;exact dc a c k0 p w b h1 h
theorem Tf (z:Int)(a:Option Addr)(c k0:Nat)(p:zv)(w:World)(d:z=(k0:Int))(b:p.n<=1048576)(h1:k0<=100000000000000)(h:zJ w a (Cu k0 p)) :
  Calls prog 133 #[(a,p.n,c),z] w λe w'=>e=.returned ((k0+2*p.n:Nat):Int)/\w'=w:=by
 subst d;exact Td a c k0 p w b h1 h
theorem MF (U:Option Addr)(N c base k0:Nat)(S:Nat->qe)(L C:Nat->Value)(w:World)(hN:N<=1048576)(h1:k0<=1048576)(hs:∀ i,i<N->(S i).la.n<=1048576/\(S i).M.n<=1048576)(ho:qR w base (U,N,c) N S L C) :
  Calls prog 62 #[(U,N,c),(k0:Int)] w λe w'=>e=.returned ((kS S k0 N:Nat):Int)/\qR w' base (U,N,c) N (mS S k0) L C/\zl w w' (rf (U,N,c) N L C):=by
 have HS:=hI hs;have Y:=hI ho;clear hs ho;go_enter func62,ntmps62;go_wp2;go_loopw [1,5] (λq i wr=>∃ (t k:Nat),t<=N/\i=int i64 t/\q=int i64 k/\k=kS S k0 t/\qR wr base (U,N,c) N (jd S k0 t) L C/\zl w wr (rf (U,N,c) N L C)) (λ_ i _=>N - (intOf i).toNat)
 case atStart =>
  refine⟨0,k0,Jq _,rfl,rfl,rfl,?_,zl.refl _ _⟩;have e:jd S k0 0=S:=by funext i;exact Fr oM
  rw[e];exact Y
 case round =>
  clear Y;obtain⟨t,k,ht,rfl,rfl,a9,u,hk⟩:=hrel;have n:=hI a9;have kb:k<=10000000000000:=by have:=Tz (k0:=k0) HS t ht;omega
  clear a9
  by_cases hlt:t<N
  ·have b1:jd S k0 t t=S t:=Fr oM
   have z:=u.la t hlt;have x:=u.M t hlt;rw[b1] at z x;obtain⟨al,cl,eL,_⟩:=zn z;obtain⟨ac,cc,eC,_⟩:=zn x;obtain⟨g,rfl,b4,b5⟩:=qr u.row oM;have c5:=zs u.row (t*8+5) oM rfl;have c6:=zs u.row (t*8+6) oM rfl;rw[Ad,eL] at c5;rw[Ae,eC] at c6;rw[eL] at z;rw[eC] at x;obtain⟨u0,q0⟩:∃ v,_=some v:=⟨_,zs u.row (t*8) oM rfl⟩;have f0:=u.row.frozenAt (t*8);have o:=hI u;have l:Hid (_/\_):=⟨eL,eC⟩;have X:=hI z;have D:=hI x;have b3:=hI hk;have b2:=HS t hlt;clear u z x eL eC hk b1;go_wp2_with fail;refine bM (AL _ _ oM oM) λw2 Q=>?_
   have M:Hid _:=zm Q (zI o.row _ _);have a7:=((zl.refl wr (λb=>b=g)).set rfl _).trans (zl.of_below Q)
   have A:((k:Int)+1).toNat=kS S k0 t+1:=by have:=n.out;omega
   rw[A];clear A q0 f0 c5 c6 Q;obtain⟨u1,q1⟩:∃ v,_=some v:=⟨_,zs M (t*8+1) oM rfl⟩;have f1:=Jn M (t*8+1);go_wp2_with fail;refine bM (AL _ _ oM oM) λw3 R=>?_
   have m:Hid _:=zm R (zI M _ _);have a8:=(a7.set rfl _).trans (zl.of_below R);have A:((k:Int)+1+1).toNat=kS S k0 t+2:=by have:=n.out;omega
   rw[A];clear A q1 f1 R a7;obtain⟨u2,q2⟩:∃ v,_=some v:=⟨_,zs m (t*8+2) oM rfl⟩;obtain⟨u3,q3⟩:∃ v,_=some v:=⟨_,zs m (t*8+3) oM rfl⟩;obtain⟨u4,q4⟩:∃ v,_=some v:=⟨_,zs m (t*8+4) oM rfl⟩;have q5:w3.cell? (g,t*8+5)=some (al,(S t).la.n,cl):=by
    rw[zs m.out _ oM rfl,Je oM,Je oM,Ad,l.1]
   have f2:=Jn m (t*8+2);have f3:=Jn m (t*8+3);have f4:=Jn m (t*8+4);go_wp2_with fail;have O:Hid _:=zI (zI (zI m (t*8+2) (.string (BF (kS S k0 t+2)))) (t*8+3) (int i64 ((k:Int)+1+1+1))) (t*8+4) (int i64 ((k:Int)+1+1+1+1));have s:zl wr (((w3.setCell _ (.string (BF (kS S k0 t+2)))).setCell _ (int i64 ((k:Int)+1+1+1))).setCell _ (int i64 ((k:Int)+1+1+1+1))) _:=((a8.set (a:=(g,t*8+2)) rfl _).set (a:=(g,t*8+3)) rfl _).set (a:=(g,t*8+4)) rfl _;clear q2 q3 q4 q5 f2 f3 f4 a8;generalize ((w3.setCell _ _).setCell _ _).setCell _ _=W4 at O s ⊢;have d:∀ b,(Value.slice (some (g,0)) N c).ownBlock=some b↔_:=λb=>by simp[Value.ownBlock];exact eq_comm
   have F:=hI (s.j1 X (λb f e=>zE o.row X dC b ((d b).2 e) f))
   refine(df _ al cl _ (kS S k0 t+5) _ _ (by have:=n.out;omega) b2.1 (by have:=n.out;omega) F.out).mono ?_
   rintro e w5 ⟨rfl,b0,G⟩;have P:Hid _:=G.j1 O (λb f e=>zE O F dC b f e)
   have q6:w5.cell? (g,t*8+6)=some (ac,(S t).M.n,cc):=by
    rw[zs P.out _ oM rfl,Je oM,Je oM,Je oM,Je oM,Je oM,Ae,l.2]
   have B:=hI (G.j1 (s.j1 D (λb f e=>zE o.row D dC b ((d b).2 e) f)) (λb f e=>zE F (s.j1 D (λb f e=>zE o.row D dC b ((d b).2 e) f)) dC b e f))
   have W:=hI b0;have J:=hI G;clear b0 G;go_wp2_with fail;refine(Te _ ac cc _ (kS S k0 t+5+2*(S t).la.n) _ _ oM b2.2 (by have:=n.out;omega) B.out).mono ?_
   rintro e w6 ⟨rfl,a3,T⟩;have p:Hid _:=T.j1 P (λb f e=>zE P B dC b f e)
   obtain⟨u7,q7⟩:∃ v,_=some v:=⟨_,zs p (t*8+7) oM rfl⟩;have f7:=Jn p (t*8+7);have V:=hI a3;have E:=hI T;have K:=hI s;clear a3 T q6 s;go_wp2;go_roundw
   case rel =>
    have e0:=n.out;have y:zl w6 (w6.setCell _ (int i64 ((kS S k0 t+5+2*(S t).la.n+2*(S t).M.n:Nat):Int))) _:=(zl.refl w6 (λb=>b=g)).set (a:=⟨g,t*8+7,none⟩) rfl _
    have a2:∀ i,_->_->∀ b,_->_≠_:=λi r H b h1 h2=>by
     rcases Nat.lt_or_gt_of_ne H with h|h
     ·exact(o.apart i t h hlt).1 b h1 h2
     ·exact(o.apart t i h r).1 b h2 h1
    have a0:∀ i,_->_->∀ b,_->_≠_:=λi r H b h1 h2=>by
     rcases Nat.lt_or_gt_of_ne H with h|h
     ·exact(o.apart i t h hlt).2 b h1 h2
     ·exact(o.apart t i h r).2 b h2 h1
    rw[l.1] at a2;rw[l.2] at a0;refine⟨_,kS S k0 (t+1),by omega,by go_num,?_,rfl,⟨qX (zI p.out _ _) (λj hj=>?_),λi r=>?_,λi r=>?_,o.apart⟩,?_⟩
    ·congr 1
     show _=((_+_:Nat):Int)
     (try unfold wrap64);omega
    ·by_cases h7:j=t*8+7
     ·subst h7;rw[Jf rfl,CZ,AE oM];rfl
     rw[Je h7]
     by_cases h4:j=t*8+4
     ·subst h4;rw[Jf rfl,CY,AE oM];show _=Value.int _ ((_:Nat):Int);congr 1;omega
     rw[Je h4]
     by_cases h3:j=t*8+3
     ·subst h3;rw[Jf rfl,CX,AE oM];show _=Value.int _ ((_:Nat):Int);congr 1;omega
     rw[Je h3]
     by_cases h2:j=t*8+2
     ·subst h2;rw[Jf rfl,CW,AE oM];rfl
     rw[Je h2]
     by_cases h1:j=t*8+1
     ·subst h1;rw[Jf rfl,CV,AE oM];rfl
     rw[Je h1]
     by_cases h0:j=t*8
     ·subst h0;rw[Jf rfl,CU,AE oM];show _=Value.int _ ((_:Nat):Int);rw[e0]
     rw[Je h0]
     by_cases h5:j=t*8+5
     ·subst h5;rw[Ad,Ad]
     by_cases h6:j=t*8+6
     ·subst h6;rw[Ae,Ae]
     have H:j / 8≠t:=oM;have em:jd S k0 (t+1) (j / 8)=jd S k0 t (j / 8):=by
      by_cases h:j / 8<t
      ·rw[AE h,AE oM]
      ·rw[Fr h,Fr oM]
     unfold qz;rw[em]
    ·by_cases e:i=t
     ·subst e
      rw[AE oM,l.1];have I:=E.j1 W (λb f e=>zE W B dC b f e)
      exact y.j1 I (λb f e=>zE p I dC b ((d b).2 e) f)
     ·have em:jd S k0 (t+1) i=jd S k0 t i:=by
       by_cases h:i<t
       ·rw[AE h,AE oM]
       ·rw[Fr h,Fr oM]
      rw[em];have Z:=o.la i r;have a4:=K.j1 Z (λb f e=>zE o.row Z dC b ((d b).2 e) f)
      have a5:=J.j1 a4 (λb f e=>a2 i r ‹_› b f e)
      have I:=E.j1 a5 (λb f e=>zE a5 B dC b f e)
      exact y.j1 I (λb f e=>zE p I dC b ((d b).2 e) f)
    ·by_cases e:i=t
     ·subst e
      rw[AE oM,l.2];exact y.j1 V (λb f e=>zE p V dC b ((d b).2 e) f)
     ·have em:jd S k0 (t+1) i=jd S k0 t i:=by
       by_cases h:i<t
       ·rw[AE h,AE oM]
       ·rw[Fr h,Fr oM]
      rw[em];have Z:=o.M i r;have a4:=K.j1 Z (λb f e=>zE o.row Z dC b ((d b).2 e) f)
      have a5:=J.j1 a4 (λb f e=>zE F a4 dC b e f)
      have I:=E.j1 a5 (λb f e=>a0 i r ‹_› b f e)
      exact y.j1 I (λb f e=>zE p I dC b ((d b).2 e) f)
    ·exact b3.trans ((K.mono (λb e=>.inl ((d b).2 e))).trans ((J.mono (λb e=>.inr ⟨t,hlt,.inl (by rw[l.1];exact e)⟩)).trans ((E.mono (λb e=>.inr ⟨t,hlt,.inr (by rw[l.2];exact e)⟩)).trans (y.mono (λb e=>.inl ((d b).2 e))))))
   case measure=>simp[intOf];omega
  ·obtain rfl:t=N:=by omega
   have o:=hI u;clear u;go_wp2;go_ret;refine⟨by rw[n.out];rfl,?_,hk⟩
   have h:=o;refine⟨qX h.row (λj hj=>?_),λi r=>?_,λi r=>?_,h.apart⟩
   ·unfold qz;rw[AE (show j / 8<t by omega)]
   ·have:=h.la i r;rw[AE r] at this;exact this
   ·have:=h.M i r;rw[AE r] at this;exact this
theorem MG (J:Option Addr)(N c k0:Nat)(S:Nat->qe)(w:World)(hN:N<=1048576)(h1:k0<=1048576)(R:∀ i,i<N->(S i).la.n<=1048576/\(S i).M.n<=1048576)(T:qy w J N (mS S k0)) :
  Calls prog 66 #[(J,N,c),(k0:Int)] w λe w'=>e=.returned ((kS S k0 N:Nat):Int)/\Below w w w':=by
 have I:=hI R;have X:=hI T;clear R T;go_enter func66,ntmps66;go_wp2;go_loopw [1,5] (λq i wr=>∃ (t k:Nat),t<=N/\i=int i64 t/\q=int i64 k/\k=kS S k0 t/\Below w w wr) (λ_ i _=>N - (intOf i).toNat)
 case atStart=>exact⟨0,k0,Jq _,rfl,rfl,rfl,bZ⟩
 case round =>
  obtain⟨t,k,Z,rfl,rfl,s,f⟩:=hrel;have a:=hI s;have kb:k<=10000000000000:=by have:=Tz (k0:=k0) I t Z;omega
  clear s
  by_cases hlt:t<N
  ·obtain⟨b,off,al,cl,D,K,rfl,L,h1,h2,h3,M,O,P,Q,h8,h9,_,_⟩:=X t hlt
   have u:=I t hlt;have j:=Ja w _ h1;have i1:=n0 t;have i2:(t:Int)<(N:Int):=oM;obtain⟨U,m⟩:=nM (BF ((k:Int)+1).toNat);obtain⟨V,n⟩:=nM (BF ((k:Int)+1+1).toNat);obtain⟨x,G⟩:=nM (k+5+2*(S t).la.n+2*(S t).M.n);have B:=hI m;have C:=hI n;have W:=hI G;have y:=a.out;have o:Hid (∀ w',Below _ w w'->w'.cell? _=some (.int _ (k:Int))/\w'.cell? _=some (.string U)/\w'.cell? _=some (.string V)/\w'.cell? _=some (.int _ ((k:Int)+1+1+1))/\w'.cell? _=some (.int _ ((k:Int)+1+1+1+1)) /\
     w'.cell? _=some (.slice al (S t).la.n cl)/\w'.cell? _=some (.slice D (S t).M.n K)/\w'.cell? _=some (.int _ (x:Int))):=λw' h=>by
    refine⟨tR h (L.trans ?_) j,tR h (h1.trans ?_) j,tR h (h2.trans ?_) j,tR h (h3.trans ?_) j,tR h (M.trans ?_) j,tR h O j,tR h P j,tR h (Q.trans ?_) j⟩
    ·rw[y];rfl
    ·rw[m,show((k:Int)+1).toNat=kS S k0 t+1 by omega];rfl
    ·rw[n,show((k:Int)+1+1).toNat=kS S k0 t+2 by omega];rfl
    ·show some (Value.int _ ((_:Nat):Int))=_;congr 2;omega
    ·show some (Value.int _ ((_:Nat):Int))=_;congr 2;omega
    ·show some (Value.int _ ((_:Nat):Int))=_;rw[G,y]
   have z:Hid (zJ w al (Cu _ _)):=h8;have A:Hid (zJ w D (Cu _ _)):=h9;clear L h1 h2 h3 M O P Q h8 h9 m n G y;obtain⟨Y,c1,_,_,_,_,_,_⟩:=o wr f;have n0:((k:Int) != (k:Int))=false:=sM;go_upto_region 7 with fail;clear Y;go_cut [1,5,28] (λq i v H=>q=int i64 ((k:Int)+1)/\i=int i64 t/\v=.bool false/\Below w w H)
   case first =>
    go_region_held3 (λw'=>w'.cell? (b,off+t*8+1)=some (.string U))
     ((first|exact c1|exact(o _ (zb f.drew p)).2.1))
     (first|(go_at_call 71;refine bM (AL _ _ oM oM) λw3 p=>?_;rw[← B.out]))
    all_goals
     go_wp2;go_meet;exact⟨rfl,rfl,by simp,zb f.drew p⟩
   case rest =>
    obtain⟨rfl,rfl,rfl,l⟩:=hcut;obtain⟨w1,E⟩:=nM wc;subst E;obtain⟨_,_,c2,_,_,_,_,_⟩:=o w1 l;go_upto_region 10 with fail;go_cut [1,5,38] (λq i v H=>q=int i64 ((k:Int)+1+1)/\i=int i64 t/\v=.bool false/\Below w w H)
    case first =>
     go_region_held3 (λw'=>w'.cell? (b,off+t*8+2)=some (.string V))
      ((first|exact c2|exact(o _ (zb l.drew r)).2.2.1))
      (first|(go_at_call 71;refine bM (AL _ _ oM oM) λw4 r=>?_;rw[← C.out]))
     all_goals
      go_wp2;go_meet;exact⟨rfl,rfl,by simp,zb l.drew r⟩
    case rest =>
     obtain⟨rfl,rfl,rfl,g⟩:=hcut;obtain⟨w2,F⟩:=nM wc;subst F;clear c1 c2;obtain⟨_,_,_,c3,c4,c5,c6,c7⟩:=o w2 g;have a0:decide (((kS S k0 t+5+2*(S t).la.n:Nat):Int)<0)=false:=by simp;omega
     have a1:decide (((kS S k0 t+5+2*(S t).la.n+2*(S t).M.n:Nat):Int)<0)=false:=by simp;omega
     have a2:(((x:Nat):Int) != ((kS S k0 t+5+2*(S t).la.n+2*(S t).M.n:Nat):Int))=false:=by rw[W.out,a.out];simp
     go_wp2_with (first|(go_at_call 132;refine bM (dg _ al cl _ _ _ (by have:=a.out;omega) u.1 (by have:=a.out;omega) (z.j0 g)) λw' d=>?_;have d:=d.symm;subst d)|(go_at_call 133;refine bM (Tf _ D K _ _ _ oM u.2 (by have:=a.out;omega) (A.j0 g)) λw' d=>?_;have d:=d.symm;subst d))
     go_roundw
     case rel =>
      refine⟨_,kS S k0 (t+1),by omega,by go_num,?_,rfl,g⟩
      congr 1
      show _=((_+_:Nat):Int)
      have y:=a.out
      (try unfold wrap64);omega
     case measure=>simp[intOf];omega
  ·obtain rfl:t=N:=by omega
   go_wp2;go_ret;exact⟨by rw[a.out];rfl,f⟩
def kB (S:Nat->zA)(k0:Nat):Nat->Nat
 |0=>k0
 |i+1=>kB S k0 i+(12+(S i).c)
def mB (S:Nat->zA)(k0:Nat)(i:Nat):zA :=
 ⟨(kB S k0 i:Nat),(kB S k0 i+1:Nat),BF (kB S k0 i+2),(S i).c,λj=>((kB S k0 i+3:Nat):Int)+j,(kB S k0 i+3+(S i).c:Nat),(kB S k0 i+4+(S i).c:Nat),(kB S k0 i+5+(S i).c:Nat),(kB S k0 i+6+(S i).c:Nat),
  (((kB S k0 i+7+(S i).c:Nat):Int) % 3 == 0),(kB S k0 i+8+(S i).c:Nat),(kB S k0 i+9+(S i).c:Nat),(kB S k0 i+10+(S i).c:Nat),(kB S k0 i+11+(S i).c:Nat)⟩
def Th (S:Nat->zA)(k0 t:Nat)(i:Nat):zA:=if i<t then mB S k0 i else S i
theorem GW {S:Nat->zA}(h:i<t):Th S k0 t i=mB S k0 i:=Jf h
theorem GX {S:Nat->zA}(h:¬ i<t):Th S k0 t i=S i:=Je h
theorem LA {S:Nat->zA}(h:i≠t):Th S k0 (t+1) i=Th S k0 t i:=by
 by_cases h1:i<t
 ·rw[GW h1,GW oM]
 ·rw[GX h1,GX oM]
theorem TB {S:Nat->zA}(h:∀ i,i<N->(S i).c<=1048576):∀ i,i<=N->kB S k0 i<=k0+i*1048600
 |0,_=>by unfold kB;omega
 |i+1,hi=>by
  have:kB S k0 i<=_:=TB h i oM;have:=h i oM;unfold kB
  omega
def rh (v:Value)(N:Nat)(L:Nat->Value)(b:Nat):Prop:=v.ownBlock=some b∨∃ i,i<N/\(L i).ownBlock=some b
theorem je (z:Int)(v:Value)(n base k0:Nat)(F:Nat->Int)(w:World)(f:z=(k0:Int))(hn:n<=1048576)(h1:k0<=100000000000000)(a:w.ownsRow base 3 1 v n (qp F n)) :
  Calls prog 28 #[v,z] w λe w'=>e=.returned ((k0+n:Nat):Int)/\w'.ownsRow base 3 1 v n (qp (λj=>(k0:Int)+j) n)/\zl w w' (λb=>v.ownBlock=some b):=by
 subst f;obtain⟨d,c,rfl,_⟩:=zn a;refine(EH d n c _ F k0 w oM oM oM a).mono ?_;rintro e w' ⟨rfl,h2,h3⟩;refine⟨by rw[show((k0+n:Nat):Int)=(k0:Int)+n by omega],h2,h3.mono (λb e=>?_)⟩
 obtain⟨g,rfl,rfl⟩:=e
 rfl
theorem jf (z:Int)(a:Option Addr)(n c k0:Nat)(w:World)(b:z=(k0:Int))(hn:n<=1048576)(h1:k0<=100000000000000)(h:zS w a n (λj=>(k0:Int)+j)) :
  Calls prog 137 #[(a,n,c),z] w λe w'=>e=.returned ((k0+n:Nat):Int)/\Below w w w':=by
 subst b;refine(OD a n c k0 w oM oM oM h).mono ?_;rintro e w' h2;rw[show((k0+n:Nat):Int)=(k0:Int)+n by omega]
 exact⟨h2.1,by rw[h2.2];exact bZ⟩
theorem Rn (D:Option Addr)(N c base k0:Nat)(S:Nat->zA)(L:Nat->Value)(w:World)(hN:N<=1048576)(h1:k0<=8000000000000)(hs:∀ i,i<N->(S i).c<=1048576)(ho:Zq w base (D,N,c) N S L) :
  Calls prog 64 #[(D,N,c),(k0:Int)] w λe w'=>e=.returned ((kB S k0 N:Nat):Int)/\Zq w' base (D,N,c) N (mB S k0) L/\zl w w' (rh (D,N,c) N L):=by
 have HS:=hI hs;have J:=hI ho;clear hs ho;go_enter func64,ntmps64;go_wp2;go_loopw [1,5] (λq i wr=>∃ (t k:Nat),t<=N/\i=int i64 t/\q=int i64 k/\k=kB S k0 t/\Zq wr base (D,N,c) N (Th S k0 t) L/\zl w wr (rh (D,N,c) N L)) (λ_ i _=>N - (intOf i).toNat)
 case atStart =>
  refine⟨0,k0,Jq _,rfl,rfl,rfl,?_,zl.refl _ _⟩;have e:Th S k0 0=S:=by funext i;exact GX oM
  rw[e];exact J
 case round =>
  clear J;obtain⟨t,k,ht,rfl,rfl,P,o,hk⟩:=hrel;have j:=hI P;have kb:k<=10000000000000:=by have:=TB (k0:=k0) HS t ht;omega
  clear P
  by_cases hlt:t<N
  ·have R:Th S k0 t t=S t:=GX oM
   have x:=o.j4 t hlt;rw[R] at x;obtain⟨al,cl,Z,_⟩:=zn x;obtain⟨g,rfl,a8,a9⟩:=qr o.row oM;obtain⟨u0,q0⟩:∃ v,wr.cell? ⟨g,_+0,_⟩=some v:=⟨_,zT o.row hlt dC⟩;obtain⟨u1,q1⟩:∃ v,wr.cell? ⟨g,_+1,_⟩=some v:=⟨_,zT o.row hlt dC⟩;rw[Nat.add_zero] at q0;have f0:=o.row.frozenAt (t*13);have f1:=o.row.frozenAt (t*13+1);have s:=hI o;have r:=hI Z;have I:=hI (Z ▸ x);have V:=hI hk;have a2:=HS t hlt;clear o x Z hk R;go_wp2_with fail;refine bM (AL _ _ oM oM) λU z=>?_
   have K:Hid _:=Zo s.row t 0 (k:Int) rfl dC;have l:Hid _:=Zo K t 1 (int i64 ((k:Int)+1)) (by rw[qV];rfl) dC
   rw[Nat.add_zero] at l;have m:Hid _:=zm z l;have O:=(((zl.refl wr (λb=>b=g)).set rfl _).set rfl _).trans (zl.of_below z)
   have T:((k:Int)+1+1).toNat=kB S k0 t+2:=by have:=j.out;omega
   rw[T];clear T q0 q1 f0 f1 z K l;obtain⟨u2,q2⟩:∃ v,U.cell? ⟨g,_+2,_⟩=some v:=⟨_,zT m hlt dC⟩;have q3:U.cell? (g,t*13+3)=some (al,(S t).c,cl):=by
    rw[zT m.out hlt dC,qV,qV]
    show some (L t)=_
    rw[r.out]
   have f2:=Jn m (t*13+2);go_wp2_with fail;have y:Hid _:=Zo m t 2 (.string (BF (kB S k0 t+2))) (by rw[qV,qV];rfl) dC
   have u:zl wr (U.setCell _ (.string (BF (kB S k0 t+2)))) _:=O.set (a:=(g,t*13+2)) rfl _;clear q2 q3 f2 O m;generalize U.setCell _ _=W4 at y u ⊢;have f:∀ b,(Value.slice (some (g,0)) N c).ownBlock=some b↔_:=λb=>by simp[Value.ownBlock];exact eq_comm
   have G:=hI (u.j1 I (λb n e=>zE s.row I dC b ((f b).2 e) n))
   refine(je _ _ _ _ (kB S k0 t+3) _ _ (by have:=j.out;omega) a2 (by have:=j.out;omega) G.out).mono ?_
   rintro e p ⟨rfl,Q,B⟩;have d:Hid _:=B.j1 y (λb n e=>zE y G dC b n e)
   have H:=hI Q;have E:=hI B;have F:=hI u;have b0:kB S k0 t+3+(S t).c<=20000000000000:=by have:=j.out;omega
   clear Q B u;obtain⟨u4,q4⟩:∃ v,p.cell? ⟨g,_+4,_⟩=some v:=⟨_,zT d hlt dC⟩;have f4:=Jn d (t*13+4);obtain⟨u5,q5⟩:∃ v,p.cell? ⟨g,_+5,_⟩=some v:=⟨_,zT d hlt dC⟩;have f5:=Jn d (t*13+5);obtain⟨u6,q6⟩:∃ v,p.cell? ⟨g,_+6,_⟩=some v:=⟨_,zT d hlt dC⟩;have f6:=Jn d (t*13+6);obtain⟨u7,q7⟩:∃ v,p.cell? ⟨g,_+7,_⟩=some v:=⟨_,zT d hlt dC⟩;have f7:=Jn d (t*13+7);obtain⟨u8,q8⟩:∃ v,p.cell? ⟨g,_+8,_⟩=some v:=⟨_,zT d hlt dC⟩;have f8:=Jn d (t*13+8);obtain⟨u9,q9⟩:∃ v,p.cell? ⟨g,_+9,_⟩=some v:=⟨_,zT d hlt dC⟩;have f9:=Jn d (t*13+9);obtain⟨u10,b1⟩:∃ v,p.cell? ⟨g,_+10,_⟩=some v:=⟨_,zT d hlt dC⟩;have a3:=Jn d (t*13+10);obtain⟨u11,b2⟩:∃ v,p.cell? ⟨g,_+11,_⟩=some v:=⟨_,zT d hlt dC⟩;have a6:=Jn d (t*13+11);obtain⟨u12,b3⟩:∃ v,p.cell? ⟨g,_+12,_⟩=some v:=⟨_,zT d hlt dC⟩;have a7:=Jn d (t*13+12);go_wp2;go_roundw
   case rel =>
    have e0:=j;have S4:=Zo d t 4 (((kB S k0 t+3+(S t).c:Nat):Int)) (by simp only[qV,List.length_set];rfl) dC
    have S5:=Zo S4 t 5 (int i64 (((kB S k0 t+3+(S t).c:Nat):Int)+1)) (by simp only[qV,List.length_set];rfl) dC
    have S6:=Zo S5 t 6 (int i64 (((kB S k0 t+3+(S t).c:Nat):Int)+1+1)) (by simp only[qV,List.length_set];rfl) dC
    have S7:=Zo S6 t 7 (int i64 (((kB S k0 t+3+(S t).c:Nat):Int)+1+1+1)) (by simp only[qV,List.length_set];rfl) dC
    have S8:=Zo S7 t 8 (.bool ((((kB S k0 t+3+(S t).c:Nat):Int)+1+1+1+1) % 3 == 0)) (by simp only[qV,List.length_set];rfl) dC
    have S9:=Zo S8 t 9 (int i64 (((kB S k0 t+3+(S t).c:Nat):Int)+1+1+1+1+1)) (by simp only[qV,List.length_set];rfl) dC
    have W:=Zo S9 t 10 (int i64 (((kB S k0 t+3+(S t).c:Nat):Int)+1+1+1+1+1+1)) (by simp only[qV,List.length_set];rfl) dC
    have X:=Zo W t 11 (int i64 (((kB S k0 t+3+(S t).c:Nat):Int)+1+1+1+1+1+1+1)) (by simp only[qV,List.length_set];rfl) dC
    have Y:=Zo X t 12 (int i64 (((kB S k0 t+3+(S t).c:Nat):Int)+1+1+1+1+1+1+1+1)) (by simp only[qV,List.length_set];rfl) dC
    have C:=((((((((((zl.refl p (λb=>b=g)).set (a:=(g,t*13+4)) rfl (((kB S k0 t+3+(S t).c:Nat):Int))).set (a:=(g,t*13+5)) rfl (int i64 (((kB S k0 t+3+(S t).c:Nat):Int)+1))).set (a:=(g,t*13+6)) rfl (int i64 (((kB S k0 t+3+(S t).c:Nat):Int)+1+1))).set (a:=(g,t*13+7)) rfl (int i64 (((kB S k0 t+3+(S t).c:Nat):Int)+1+1+1))).set (a:=(g,t*13+8)) rfl (.bool ((((kB S k0 t+3+(S t).c:Nat):Int)+1+1+1+1) % 3 == 0))).set (a:=(g,t*13+9)) rfl (int i64 (((kB S k0 t+3+(S t).c:Nat):Int)+1+1+1+1+1))).set (a:=(g,t*13+10)) rfl (int i64 (((kB S k0 t+3+(S t).c:Nat):Int)+1+1+1+1+1+1))).set (a:=(g,t*13+11)) rfl (int i64 (((kB S k0 t+3+(S t).c:Nat):Int)+1+1+1+1+1+1+1))).set (a:=(g,t*13+12)) rfl (int i64 (((kB S k0 t+3+(S t).c:Nat):Int)+1+1+1+1+1+1+1+1)))
    have M:∀ i,_->_->∀ b,_->_≠_:=λi A a0 b h1 h2=>by
     rcases Nat.lt_or_gt_of_ne a0 with h|h
     ·exact s.apart i t h hlt b h1 h2
     ·exact s.apart t i h A b h2 h1
    rw[r.out] at M;refine⟨_,kB S k0 (t+1),by omega,by go_num,?_,rfl,⟨Bs Y dC (λi A=>?_),λi A=>?_,s.apart⟩,?_⟩
    ·congr 1
     show _=((_+_:Nat):Int)
     (try unfold wrap64);omega
    ·by_cases e:i=t
     ·subst e
      simp only[qV];unfold AM;rw[GW (show i<i+1 by omega),GX (show ¬ i<i by omega)]
      simp only[sZ,sS,mB];rw[e0];simp only[List.cons.injEq,Value.int.injEq,true_and,and_true];refine⟨by omega,by omega,by omega,by omega,?_,by omega,by omega,by omega,by omega⟩
      rw[show((kB S k0 i+3+(S i).c:Nat):Int)+1+1+1+1=((kB S k0 i+7+(S i).c:Nat):Int) by omega]
     ·simp only[Ki _ _ _ e]
      unfold AM;rw[LA e]
    ·by_cases e:i=t
     ·subst e
      rw[GW oM,r.out];exact C.j1 H (λb n e=>zE d H dC b ((f b).2 e) n)
     ·rw[LA e]
      have a1:=s.j4 i A;have a4:=F.j1 a1 (λb n e=>zE s.row a1 dC b ((f b).2 e) n)
      have a5:=E.j1 a4 (λb n e2=>M i A e b n e2)
      exact C.j1 a5 (λb n e=>zE d a5 dC b ((f b).2 e) n)
    ·exact V.trans ((F.mono (λb e=>.inl ((f b).2 e))).trans ((E.mono (λb e=>.inr ⟨t,hlt,by rw[r.out];exact e⟩)).trans (C.mono (λb e=>.inl ((f b).2 e)))))
   case measure=>simp[intOf];omega
  ·obtain rfl:t=N:=by omega
   have s:=hI o;clear o;go_wp2;go_ret;refine⟨by rw[j.out];rfl,?_,hk⟩
   exact s.congr (λi A=>GW A)
theorem Ro (G:Option Addr)(N c k0:Nat)(S:Nat->zA)(w:World)(hN:N<=1048576)(h1:k0<=8000000000000)(J:∀ i,i<N->(S i).c<=1048576)(K:qL w G N (mB S k0)) :
  Calls prog 68 #[(G,N,c),(k0:Int)] w λe w'=>e=.returned ((kB S k0 N:Nat):Int)/\Below w w w':=by
 have D:=hI J;have M:=hI K;clear J K;go_enter func68,ntmps68;go_wp2;go_loopw [1,5] (λq i wr=>∃ (t k:Nat),t<=N/\i=int i64 t/\q=int i64 k/\k=kB S k0 t/\Below w w wr) (λ_ i _=>N - (intOf i).toNat)
 case atStart=>exact⟨0,k0,Jq _,rfl,rfl,rfl,bZ⟩
 case round =>
  obtain⟨t,k,V,rfl,rfl,y,g⟩:=hrel;have m:=hI y;have kb:k<=10000000000000:=by have:=TB (k0:=k0) D t V;omega
  clear y
  by_cases hlt:t<N
  ·obtain⟨E,I,hI⟩:=M
   obtain⟨b,off,rfl,d⟩:=I t hlt;obtain⟨al,cl,f,z,C⟩:=hI t hlt;have B:=D t hlt;have l:b<w.heap.size:=Ja w _ (d 0 dC);have i1:(t:Int)<(N:Int):=oM;obtain⟨L,o⟩:=nM (BF ((k:Int)+1+1).toNat);have A:Hid _:=o;have H:=m.out;have r:Hid (zS w al (S t).c (λj=>_+j)):=z
   have p:Hid (∀ w',Below _ w w'->w'.cell? ⟨b,off+_,_⟩=some (.int _ (k:Int))/\w'.cell? ⟨b,_,_⟩=some (.int _ ((k:Int)+1))/\w'.cell? ⟨b,_,_⟩=some (.string L)/\w'.cell? ⟨b,_,_⟩=some (.slice al (S t).c cl)/\w'.cell? ⟨b,_,_⟩=some (.int _ (((_:Nat):Int)))/\w'.cell? ⟨b,_,_⟩=some (.int _ (((kB S k0 t+3+(S t).c:Nat):Int)+1))/\w'.cell? ⟨b,_,_⟩=some (.int _ (((kB S k0 t+3+(S t).c:Nat):Int)+1+1))/\w'.cell? ⟨b,_,_⟩=some (.int _ (((kB S k0 t+3+(S t).c:Nat):Int)+1+1+1))/\w'.cell? ⟨b,_,_⟩=some (.bool (((_:Int)+1+1+1+1) % 3 == 0))/\w'.cell? ⟨b,_,_⟩=some (.int _ (((kB S k0 t+3+(S t).c:Nat):Int)+1+1+1+1+1))/\w'.cell? ⟨b,_,_⟩=some (.int _ (((kB S k0 t+3+(S t).c:Nat):Int)+1+1+1+1+1+1))/\w'.cell? ⟨b,_,_⟩=some (.int _ (((kB S k0 t+3+(S t).c:Nat):Int)+1+1+1+1+1+1+1))/\w'.cell? ⟨b,_,_⟩=some (.int _ (((kB S k0 t+3+(S t).c:Nat):Int)+1+1+1+1+1+1+1+1))):=λw' h=>by
    refine⟨(h.cell l).trans ?_,(h.cell l).trans ?_,(h.cell l).trans ?_,(h.cell l).trans ?_,(h.cell l).trans ?_,(h.cell l).trans ?_,(h.cell l).trans ?_,(h.cell l).trans ?_,(h.cell l).trans ?_,(h.cell l).trans ?_,(h.cell l).trans ?_,(h.cell l).trans ?_,(h.cell l).trans ?_⟩
    ·have a:=d 0 dC;rw[f] at a;refine a.trans ?_;show some (Value.int _ ((_:Nat):Int))=_;rw[H]
    ·have a:=d 1 dC;rw[f] at a;refine a.trans ?_;show some (Value.int _ ((_:Nat):Int))=_;congr 2;omega
    ·have a:=d 2 dC;rw[f] at a;refine a.trans ?_;show some (Value.string (BF (_+2)))=_;rw[o,show((k:Int)+1+1).toNat=kB S k0 t+2 by omega]
    ·have a:=d 3 dC;rw[f] at a;refine a.trans ?_;rfl
    ·have a:=d 4 dC;rw[f] at a;refine a.trans ?_;rfl
    ·have a:=d 5 dC;rw[f] at a;refine a.trans ?_;show some (Value.int _ ((_:Nat):Int))=_;congr 2;omega
    ·have a:=d 6 dC;rw[f] at a;refine a.trans ?_;show some (Value.int _ ((_:Nat):Int))=_;congr 2;omega
    ·have a:=d 7 dC;rw[f] at a;refine a.trans ?_;show some (Value.int _ ((_:Nat):Int))=_;congr 2;omega
    ·have a:=d 8 dC;rw[f] at a;refine a.trans ?_;show some (Value.bool (_ == 0))=_;rw[show((kB S k0 t+3+(S t).c:Nat):Int)+1+1+1+1=((kB S k0 t+7+(S t).c:Nat):Int) by omega]
    ·have a:=d 9 dC;rw[f] at a;refine a.trans ?_;show some (Value.int _ ((_:Nat):Int))=_;congr 2;omega
    ·have a:=d 10 dC;rw[f] at a;refine a.trans ?_;show some (Value.int _ ((_:Nat):Int))=_;congr 2;omega
    ·have a:=d 11 dC;rw[f] at a;refine a.trans ?_;show some (Value.int _ ((_:Nat):Int))=_;congr 2;omega
    ·have a:=d 12 dC;rw[f] at a;refine a.trans ?_;show some (Value.int _ ((_:Nat):Int))=_;congr 2;omega
   clear I hI d f z C o H;obtain⟨O,c1,c2,_⟩:=p wr g;have n0:((k:Int) != (k:Int))=false:=sM;have n1:((k:Int)+1 != (k:Int)+1)=false:=sM;go_upto_region 10 with fail;clear O c1;go_cut [1,5,37] (λq i v X=>q=int i64 ((k:Int)+1+1)/\i=int i64 t/\v=.bool false/\Below w w X)
   case first =>
    go_region_held3 (λw'=>w'.cell? (b,off+t*13+2)=some (.string L))
     ((first|exact c2|exact(p _ (zb g.drew s)).2.2.1))
     (first|(go_at_call 71;refine bM (AL _ _ oM oM) λw3 s=>?_;rw[← A.out]))
    all_goals
     go_wp2;go_meet;exact⟨rfl,rfl,by simp,zb g.drew s⟩
   case rest =>
    obtain⟨rfl,rfl,rfl,n⟩:=hcut;clear c2;obtain⟨_,_,_,c3,_⟩:=p _ n;go_wp2_with fail;refine bM (jf _ al _ cl _ _ (by have:=m.out;omega) B (by have:=m.out;omega) (r.j0 n)) λw5 u=>?_
    have x:=zb n u;clear c3 n u r;obtain⟨_,_,_,_,c4,c5,c6,c7,c8,c9,P,Q,R⟩:=p _ x;have U:kB S k0 t+3+(S t).c<=20000000000000:=by have:=m.out;omega
    have hd:decide (((kB S k0 t+3+(S t).c:Nat):Int)<0)=false:=dF;have T:¬ ((kB S k0 t+3+(S t).c:Nat):Int)<0:=oM;clear p;generalize hK4:((_+_:Nat):Int)=F at *;have W:0<=F/\F<=20000000000000:=oM;go_wp2;go_roundw
    case rel =>
     refine⟨_,kB S k0 (t+1),by omega,by go_num,?_,rfl,x⟩
     show _=Value.int _ ((_+_:Nat):Int)
     congr 1
     (try unfold wrap64);omega
    case measure=>simp[intOf];omega
  ·obtain rfl:t=N:=by omega
   go_wp2;go_ret;exact⟨by rw[m.out];rfl,g⟩
def EI (w:World)(base b n:Nat):Prop:=Cr w base 220 4 b n (λa=>∃ S,a=zH S n)
def EJ (w:World)(base b n:Nat):Prop:=Cr w base 228 4 b n (λa=>∃ S,a=zF S n)
def EK (w:World)(base b n:Nat):Prop:=Cr w base 234 2 b n (λa=>∃ S,a=zL S n)
theorem OE (hn:n<=1048576)(f:0<=k)(h1:k<=1000000000000000)(h:EI w base b n) :
  Calls prog 129 #[(some (b,0),n,n),k] w λe w'=>e=.returned (int i64 (k+4*n))/\EI w' base b n/\zl w w' (λx=>x=b):=by
 obtain⟨_,⟨S,rfl⟩,g⟩:=h;exact(FX _ n n _ S k w oM f h1 g).mono λ_ _ ⟨a,b,c⟩=>⟨a,⟨_,⟨_,rfl⟩,b⟩,c.mono (λx d=>by simp only[Value.ownBlock,Option.some.injEq] at d;exact d.symm)⟩
theorem OF (hn:n<=1048576)(f:0<=k)(h1:k<=1000000000000000)(h:EJ w base b n) :
  Calls prog 130 #[(some (b,0),n,n),k] w λe w'=>e=.returned (int i64 (k+4*n))/\EJ w' base b n/\zl w w' (λx=>x=b):=by
 obtain⟨_,⟨S,rfl⟩,g⟩:=h;exact(FY _ n n _ S k w oM f h1 g).mono λ_ _ ⟨a,b,c⟩=>⟨a,⟨_,⟨_,rfl⟩,b⟩,c.mono (λx d=>by simp only[Value.ownBlock,Option.some.injEq] at d;exact d.symm)⟩
theorem OG (hn:n<=1048576)(f:0<=k)(h1:k<=1000000000000000)(h:EK w base b n) :
  Calls prog 131 #[(some (b,0),n,n),k] w λe w'=>e=.returned (int i64 (k+2*n))/\EK w' base b n/\zl w w' (λx=>x=b):=by
 obtain⟨_,⟨S,rfl⟩,g⟩:=h;exact(FZ _ n n _ S k w oM f h1 g).mono λ_ _ ⟨a,b,c⟩=>⟨a,⟨_,⟨_,rfl⟩,b⟩,c.mono (λx d=>by simp only[Value.ownBlock,Option.some.injEq] at d;exact d.symm)⟩
def AF (w:World)(base N:Nat)(S:Nat->zw)(a b c:Nat->Nat):Prop :=
 ∀ i,i<N->EI w base (a i) (S i).r/\EJ w base (b i) (S i).m/\EK w base (c i) (S i).t
theorem AF.stay {S:Nat->zw}{f j k:Nat->Nat}(h:AF w base N S f j k)(a:EI w base g n)(b:EI w' base g n)(d:zl w w' (λx=>x=g)):AF w' base N S f j k:=λi c =>
 ⟨(h i c).1.after a d oM (λ_=>rfl) (λ_ e=>by rw[e];exact b),(h i c).2.1.after a d oM (λh=>absurd h dC) (λh=>absurd h dC),(h i c).2.2.after a d oM (λh=>absurd h dC) (λh=>absurd h dC)⟩
theorem AF.room {S:Nat->zw}{f j k:Nat->Nat}(h:AF w base N S f j k)(a:EJ w base g n)(b:EJ w' base g n)(d:zl w w' (λx=>x=g)):AF w' base N S f j k:=λi c =>
 ⟨(h i c).1.after a d oM (λh=>absurd h dC) (λh=>absurd h dC),(h i c).2.1.after a d oM (λ_=>rfl) (λ_ e=>by rw[e];exact b),(h i c).2.2.after a d oM (λh=>absurd h dC) (λh=>absurd h dC)⟩
theorem AF.seat {S:Nat->zw}{f j k:Nat->Nat}(h:AF w base N S f j k)(a:EK w base g n)(b:EK w' base g n)(d:zl w w' (λx=>x=g)):AF w' base N S f j k:=λi c =>
 ⟨(h i c).1.after a d oM (λh=>absurd h dC) (λh=>absurd h dC),(h i c).2.1.after a d oM (λh=>absurd h dC) (λh=>absurd h dC),(h i c).2.2.after a d oM (λ_=>rfl) (λ_ e=>by rw[e];exact b)⟩
theorem MK (g N lo n k0:Nat)(S:Nat->zw)(C:Nat->List Value)(w:World)(hN:N<=1048576)(a1:k0<=10000000000000)(O:Zy N S 1048576)(x:Am w N lo n g N S C) :
  Calls prog 63 #[.slice (some ⟨g,0,none⟩) N N,int i64 k0] w λe w'=>(∃ k:Nat,k<=30000000000000/\e=.returned (int i64 k))/\zl w w' (λb=>lo<=b/\b<n):=by
 have y:∀ i,i<N->∃ p:Nat × Nat × Nat,(C i=[Zw p.1 (S i).r,Zw p.2.1 (S i).m,Zw p.2.2 (S i).t]/\(g<p.1/\p.1<n)/\(g<p.2.1/\p.2.1<n)/\(g<p.2.2/\p.2.2<n))/\EI w lo p.1 (S i).r/\EJ w lo p.2.1 (S i).m/\EK w lo p.2.2 (S i).t:=by
  intro i hi';obtain⟨a,b,c,e,z,A,B⟩:=x.each i hi';have sh:=O i hi';have E:=x.glo;unfold zw.Short at sh;exact⟨(a,b,c),⟨e,⟨Nat.lt_of_succ_le z.1,z.2.1⟩,⟨Nat.lt_of_succ_le A.1,A.2.1⟩,⟨Nat.lt_of_succ_le B.1,B.2.1⟩⟩,⟨_,⟨_,rfl⟩,ZM z.2.2 (Jp (Nat.le_succ_of_le E) z.1) (by unfold maxLen;omega)⟩,⟨_,⟨_,rfl⟩,ZM A.2.2 (Jp (Nat.le_succ_of_le E) A.1) (by unfold maxLen;omega)⟩,⟨_,⟨_,rfl⟩,ZM B.2.2 (Jp (Nat.le_succ_of_le E) B.1) (by unfold maxLen;omega)⟩⟩
 obtain⟨p,M⟩:=Go.Deep.choose_lt y;have HP:=hI (λi hi'=>(M i hi').1)
 have v:AF w lo N S _ _ _:=λi hi'=>(M i hi').2
 have V:=hI x;have HS:=hI O;have a0:=x.glo;clear O x y M;go_enter func63,ntmps63;go_wp2;go_loopw [1,5] (λq i wr=>∃ t k:Nat,t<=N/\i=int i64 t/\q=int i64 k/\k<=10000000000000+t*10485760/\AF wr lo N S (λi=>(p i).1) (λi=>(p i).2.1) (λi=>(p i).2.2)/\zl w wr (λb=>g<b/\b<n)) (λ_ i _=>N - (intOf i).toNat)
 case atStart=>exact⟨0,k0,Jq _,rfl,rfl,by omega,v,zl.refl _ _⟩
 case round =>
  obtain⟨t,k,ht,rfl,rfl,a2,F,D⟩:=hrel
  by_cases hlt:t<N
  ·obtain⟨W,b1,b2,b3⟩:=HP t hlt
   obtain⟨n1,n2,n3⟩:=HS t hlt;have f:∀ w',zl w w' (λb=>g<b/\b<n)->∀ j,j<3->w'.cell? (g,t*3+j)=some ([Zw (p t).1 (S t).r,Zw (p t).2.1 (S t).m,Zw (p t).2.2 (S t).t].getD j (.bool false)):=by
    intro w' K j hj;have r:=V.row.of_block (K.block _ V.row.lt (λs=>by omega))
    rw[r.cell oM,zO 3 _ t j hj,qi _ _ hlt,W]
   have h:=hI f;clear f W;have H:wr.cell? ⟨g,t*3,_⟩=some (.slice _ _ _):=h wr D 0 oM;go_wp2_with fail;have d:EI wr lo (p t).1 _:=(F t hlt).1;refine(OE n1 oM oM d).mono ?_;rintro e T ⟨rfl,X,P⟩;have l:=F.stay d X P;have o:=D.trans (P.mono (λb e=>by have e:=e;exact⟨by omega,by omega⟩))
   clear F D P X d H;have I:T.cell? _=some (.slice _ _ _):=h T o 1 oM;go_wp2_with fail;have d:EJ T lo (p t).2.1 _:=(l t hlt).2.1;refine(OF n2 oM oM d).mono ?_;rintro e U ⟨rfl,Y,Q⟩;have m:=l.room d Y Q;have u:=o.trans (Q.mono (λb e=>by have e:=e;exact⟨by omega,by omega⟩))
   clear l o Q Y d I;have J:U.cell? _=some (.slice _ _ _):=h U u 2 oM;go_wp2_with fail;have d:EK U lo (p t).2.2 _:=(m t hlt).2.2;refine(OG n3 oM oM d).mono ?_;rintro e w4 ⟨rfl,Z,R⟩;have G:=m.seat d Z R;have L:=u.trans (R.mono (λb e=>by have e:=e;exact⟨by omega,by omega⟩))
   clear m u R Z d J;go_wp2;go_roundw
   case rel=>exact⟨t+1,k+4*_+4*_+2*_,by omega,by go_num,by congr 1,by omega,G,L⟩
   case measure=>simp[intOf];omega
  ·obtain rfl:t=N:=by omega
   go_wp2;go_ret;exact⟨⟨k,by omega,rfl⟩,D.mono (λb e=>by have e:=e;exact⟨by omega,by omega⟩)⟩
section
structure Qj (w:World)(base g N:Nat)(n m l c:Nat->Nat):Prop where
 ord:∀ i,i<N->g<l i/\l i<c i
 rise:∀ i j,i<j->j<N->c i<l j
 row:∃ f,w.ownsRow base 140 8 (some (g,0),N,N) N ((List.range (N*8)).map f)/\∀ i,i<N->f (i*8+5)=Zw (l i) (n i)/\f (i*8+6)=Zw (c i) (m i)
 R:∀ i,i<N->∃ f,w.ownsRow base 223 2 (Zw (l i) (n i)) (n i) ((List.range (n i*2)).map f)
 P:∀ i,i<N->∃ f,w.ownsRow base 231 2 (Zw (c i) (m i)) (m i) ((List.range (m i*2)).map f)
theorem Ab {b n g:Nat}(h:(Zw b n).ownBlock=some g):b=g:=by
 simpa only [Zw,Value.ownBlock,Option.some.injEq] using h
section
variable {w w' : World} {base g N : Nat} {n m l c : Nat -> Nat}
theorem Qj.cell (h:Qj w base g N n m l c)(j:Nat)(b:j<N*8):∃ v,w.cell? (g,j)=some v:=by
 obtain⟨f,a,_⟩:=h.row;exact⟨_,zs a j b rfl⟩
theorem Qj.ice (h:Qj w base g N n m l c)(j:Nat):w.frozen? (g,j)=false:=by
 obtain⟨f,a,_⟩:=h.row;exact a.frozenAt j
theorem Qj.lane (h:Qj w base g N n m l c){t:Nat}(d:t<N):w.cell? (g,t*8+5)=some (some (l t,0),n t,n t):=by
 obtain⟨f,b,a⟩:=h.row;rw[zs b _ oM rfl,(a t d).1];rfl
theorem Qj.cabin (h:Qj w base g N n m l c){t:Nat}(d:t<N):w.cell? (g,t*8+6)=some (some (c t,0),m t,m t):=by
 obtain⟨f,b,a⟩:=h.row;rw[zs b _ oM rfl,(a t d).2];rfl
theorem Qj.j0 (h:Qj w base g N n m l c)(b:Below w w w'):Qj w' base g N n m l c:=by
 refine⟨h.ord,h.rise,?_,λi d=>?_,λi d=>?_⟩
 ·obtain⟨f,a,e⟩:=h.row;exact⟨f,zm b a,e⟩
 ·obtain⟨f,a⟩:=h.R i d;exact⟨f,zm b a⟩
 ·obtain⟨f,a⟩:=h.P i d;exact⟨f,zm b a⟩
theorem Qj.put (h:Qj w base g N n m l c)(j:Nat)(h5:j % 8≠5)(h6:j % 8≠6)(u:Value):Qj (w.setCell (g,j) u) base g N n m l c:=by
 have p:=(zl.refl w (λb=>b=g)).set (a:=(g,j)) rfl u
 refine⟨h.ord,h.rise,?_,λi d=>?_,λi d=>?_⟩
 ·obtain⟨f,k,q⟩:=h.row
  refine⟨_,zI k j u,λi d=>?_⟩
  rw[Je oM,Je oM];exact q i d
 ·obtain⟨f,k⟩:=h.R i d
  exact⟨f,p.j1 k (λb o e=>by have:=Ab o;have:=h.ord i d;omega)⟩
 ·obtain⟨f,k⟩:=h.P i d
  exact⟨f,p.j1 k (λb o e=>by have:=Ab o;have:=h.ord i d;omega)⟩
theorem Qj.apart (h:Qj w base g N n m l c){i j:Nat}(d:i<N)(f:j<N):(i≠j->l i≠l j/\c i≠c j)/\l i≠c j:=by
 have a:=h.ord i d;have b:=h.ord j f
 rcases Nat.lt_trichotomy i j with e|e|e
 ·have:=h.rise i j e f;exact⟨λ_=>⟨by omega,by omega⟩,by omega⟩
 ·subst e;exact⟨λx=>absurd rfl x,by omega⟩
 ·have:=h.rise j i e d;exact⟨λ_=>⟨by omega,by omega⟩,by omega⟩
theorem Qj.keptL (h:Qj w base g N n m l c){t:Nat}(o:t<N)(k:zl w w' (λb=>b=l t))(q:∃ f,w'.ownsRow base 223 2 (Zw (l t) (n t)) (n t) ((List.range (n t*2)).map f)):Qj w' base g N n m l c:=by
 refine⟨h.ord,h.rise,?_,λi j=>?_,λi j=>?_⟩
 ·obtain⟨f,d,r⟩:=h.row
  exact⟨f,k.j1 d (λb a e=>by have:=Ab a;have:=h.ord t o;omega),r⟩
 ·by_cases e:i=t
  ·subst e;exact q
  ·obtain⟨f,d⟩:=h.R i j
   exact⟨f,k.j1 d (λb a p=>by have:=Ab a;have:=((h.apart j o).1 e).1;omega)⟩
 ·obtain⟨f,d⟩:=h.P i j
  exact⟨f,k.j1 d (λb a p=>by have:=Ab a;have:=(h.apart o j).2;omega)⟩
theorem Qj.keptC (h:Qj w base g N n m l c){t:Nat}(o:t<N)(k:zl w w' (λb=>b=c t))(q:∃ f,w'.ownsRow base 231 2 (Zw (c t) (m t)) (m t) ((List.range (m t*2)).map f)):Qj w' base g N n m l c:=by
 refine⟨h.ord,h.rise,?_,λi j=>?_,λi j=>?_⟩
 ·obtain⟨f,d,r⟩:=h.row
  exact⟨f,k.j1 d (λb a e=>by have:=Ab a;have:=h.ord t o;omega),r⟩
 ·obtain⟨f,d⟩:=h.R i j
  exact⟨f,k.j1 d (λb a p=>by have:=Ab a;have:=(h.apart j o).2;omega)⟩
 ·by_cases e:i=t
  ·subst e;exact q
  ·obtain⟨f,d⟩:=h.P i j
   exact⟨f,k.j1 d (λb a p=>by have:=Ab a;have:=((h.apart j o).1 e).2;omega)⟩
end
theorem Af.mark {w:World}{lo g N:Nat}{S:Nat->qe}{l c:Nat->Nat}(r:Af w 140 223 231 N lo g N S l c)(hN:N<=1048576)(d:∀ i,i<N->(S i).la.n<=1048576)(b:∀ i,i<N->(S i).M.n<=1048576) :
  Qj w lo g N (λi=>(S i).la.n) (λi=>(S i).M.n) l c:=by
 have e:=r.lo;refine⟨λi a=>⟨(r.R i a).1,(r.P i a).1⟩,r.rise,⟨_,ZM r.row r.lo (by unfold maxLen;omega),λi a=>?_⟩,λi a=>?_,λi a=>?_⟩
 ·rw[Ad,Ae,qi _ _ a,qi _ _ a];exact⟨rfl,rfl⟩
 ·exact⟨_,ZM (r.R i a).2 (by have:=(r.R i a).1;omega) (by have:=d i a;unfold maxLen;omega)⟩
 ·exact⟨_,ZM (r.P i a).2 (by have:=(r.R i a).1;have:=(r.P i a).1;omega) (by have:=b i a;unfold maxLen;omega)⟩
theorem Ia (g N B base k0:Nat)(n m l c:Nat->Nat)(w:World)(hN:N<=1048576)(a2:k0<=1048576)(hn:∀ i,i<N->n i<=1048576)(hm:∀ i,i<N->m i<=1048576)(x:g<B)(Y:∀ i,i<N->c i<B)(ho:Qj w base g N n m l c) :
  Calls prog 62 #[.slice (some ⟨g,0,none⟩) N N,int i64 k0] w λe w'=>(∃ k:Nat,k<=10000000000000/\e=.returned (int i64 k))/\zl w w' (λb=>g<=b/\b<B):=by
 have HN:Hid (∀ i,_->_/\_/\_):=λi V=>⟨hn i V,hm i V,Y i V⟩
 clear hn hm Y;go_enter func62,ntmps62;go_wp2;go_loopw [1,5] (λq i wr=>∃ t k:Nat,t<=N/\i=int i64 t/\q=int i64 k/\k<=1048576+t*4194310/\Qj wr base g N n m l c/\zl w wr (λb=>g<=b/\b<B)) (λ_ i _=>N - (intOf i).toNat)
 case atStart=>exact⟨0,k0,Jq _,rfl,rfl,by omega,ho,zl.refl _ _⟩
 case round =>
  obtain⟨t,k,ht,rfl,rfl,a3,y,W⟩:=hrel
  by_cases hlt:t<N
  ·have sN:=HN t hlt
   have oN:=y.ord t hlt;obtain⟨v0,I⟩:=y.cell (t*8) oM;have Q:=y.ice (t*8);go_wp2_with fail;refine(EG _ _ oM oM).mono ?_;rintro e w2 ⟨⟨s,rfl⟩,p⟩;have f:=(y.put _ oM oM _).j0 p;have z:=(W.set ⟨Jr g,x⟩ _).trans (zl.of_below p);clear y W I Q p;obtain⟨v1,J⟩:=f.cell (t*8+1) oM;have R:=f.ice (t*8+1);go_wp2_with fail;refine(EG _ _ oM oM).mono ?_;rintro e w3 ⟨⟨s',rfl⟩,r⟩;have d:=(f.put _ oM oM _).j0 r;have A:=(z.set ⟨Jr g,x⟩ _).trans (zl.of_below r);clear f z J R r;have j:=((d.put (t*8+2) oM oM s').put (t*8+3) oM oM (int i64 (k+1+1+1))).put (t*8+4) oM oM (int i64 (k+1+1+1+1));have C:=((A.set (a:=(g,t*8+2)) ⟨Jr g,x⟩ s').set (a:=(g,t*8+3)) ⟨Jr g,x⟩ (int i64 (k+1+1+1))).set (a:=(g,t*8+4)) ⟨Jr g,x⟩ (int i64 (k+1+1+1+1));obtain⟨v2,K⟩:=d.cell (t*8+2) oM;obtain⟨v3,L⟩:=d.cell (t*8+3) oM;obtain⟨v4,M⟩:=d.cell (t*8+4) oM;have O:=d.lane hlt;have S:=d.ice (t*8+2);have T:=d.ice (t*8+3);have U:=d.ice (t*8+4);go_wp2_with fail;obtain⟨F,Z⟩:=j.R t hlt;refine(ML _ _ _ F _ _ sN.1 oM oM Z).mono ?_;rintro e w5 ⟨rfl,E,u⟩;have h:=j.keptL hlt u E;have D:=C.trans (u.mono (λb e=>⟨by omega,by omega⟩))
   clear d A j C Z E u K L M O S T U;have P:=h.cabin hlt;obtain⟨G,hG⟩:=h.P t hlt;go_wp2_with fail;refine(LC _ _ _ G _ _ sN.2.1 oM oM hG).mono ?_;rintro e w6 ⟨rfl,H,v⟩;have o:=h.keptC hlt v H;have X:=D.trans (v.mono (λb e=>⟨by omega,by omega⟩))
   clear h D hG H v P;obtain⟨v7,a0⟩:=o.cell (t*8+7) oM;have a1:=o.ice (t*8+7);go_wp2;go_roundw
   case rel=>exact⟨t+1,k+5+2*n t+2*m t+1,by omega,by go_num,by congr 1,by omega,o.put _ oM oM _,X.set ⟨Jr g,x⟩ _⟩
   case measure=>simp[intOf];omega
  ·obtain rfl:t=N:=by omega
   go_wp2;go_ret;exact⟨⟨k,by omega,rfl⟩,W⟩
end
section
structure Ck (w:World)(base g N:Nat)(n l:Nat->Nat):Prop where
 ord:∀ i,i<N->g<l i
 row:∃ f,w.ownsRow base 150 13 (some (g,0),N,N) N ((List.range (N*13)).map f)/\∀ i,i<N->f (i*13+3)=Zw (l i) (n i)
 j4:∀ i,i<N->LB w base (l i) (n i)
section
variable {w w' : World} {base g N : Nat} {n l : Nat -> Nat}
theorem Ck.cell (h:Ck w base g N n l)(j:Nat)(b:j<N*13):∃ v,w.cell? (g,j)=some v:=by
 obtain⟨f,a,_⟩:=h.row;exact⟨_,zs a j b rfl⟩
theorem Ck.ice (h:Ck w base g N n l)(j:Nat):w.frozen? (g,j)=false:=by
 obtain⟨f,a,_⟩:=h.row;exact a.frozenAt j
theorem Ck.j5 (h:Ck w base g N n l){t:Nat}(c:t<N):w.cell? (g,t*13+3)=some (some (l t,0),n t,n t):=by
 obtain⟨f,b,a⟩:=h.row;rw[zs b _ oM rfl,a t c];rfl
theorem Ck.j0 (h:Ck w base g N n l)(a:Below w w w'):Ck w' base g N n l:=by
 refine⟨h.ord,?_,λi d=>?_⟩
 ·obtain⟨f,c,b⟩:=h.row;exact⟨f,zm a c,b⟩
 ·exact(h.j4 i d).kept (zl.of_below (S:=λ_=>False) a) (λh=>h)
theorem Ck.put (h:Ck w base g N n l)(j:Nat)(h5:j % 13≠3)(u:Value):Ck (w.setCell (g,j) u) base g N n l:=by
 have k:=(zl.refl w (λb=>b=g)).set (a:=(g,j)) rfl u
 refine⟨h.ord,?_,λi c=>?_⟩
 ·obtain⟨f,d,m⟩:=h.row
  refine⟨_,zI d j u,λi c=>?_⟩
  rw[Je oM];exact m i c
 ·exact(h.j4 i c).kept k (λe=>by have:=h.ord i c;omega)
theorem Ck.mark (h:Ck w base g N n l){t:Nat}(c:t<N)(a:zl w w' (λb=>b=l t))(m:LB w' base (l t) (n t)):Ck w' base g N n l:=by
 refine⟨h.ord,?_,λi k=>?_⟩
 ·obtain⟨f,j,o⟩:=h.row
  exact⟨f,a.j1 j (λb d e=>by simp only[Value.ownBlock,Option.some.injEq] at d;have:=h.ord t c;omega),o⟩
 ·exact(h.j4 i k).after (h.j4 t c) a oM (λ_=>rfl) (λ_ e=>by rw[e];exact m)
end
theorem Ib (g N lo x k0:Nat)(S:Nat->zA)(C:Nat->List Value)(w:World)(hN:N<=1048576)(b0:k0<=30000000000000)(J:ZY N S 1048576)(m:Ah w N lo x g N S C) :
  Calls prog 64 #[.slice (some ⟨g,0,none⟩) N N,int i64 k0] w λe w'=>(∃ k:Nat,k<=40000000000000/\e=.returned (int i64 k))/\zl w w' (λb=>lo<=b/\b<x):=by
 have u:∀ i,i<N->∃ q,(g<q/\q<x)/\(C i).getD 3 (.bool false)=Zw q (S i).c/\LB w lo q (S i).c:=by
  intro i hi';obtain⟨a,e,v⟩:=m.each i hi';have sh:=J i hi';have W:=m.glo;unfold zA.Short at sh;exact⟨a,⟨Nat.lt_of_succ_le v.1,v.2.1⟩,by rw[e];rfl,⟨_,⟨_,rfl⟩,by have:=ZM (by rw[Nat.mul_one];exact v.2.2) (Jp (Nat.le_succ_of_le W) v.1) (by unfold maxLen;omega);rw[Nat.mul_one] at this;exact this⟩⟩
 obtain⟨l,r⟩:=Go.Deep.choose_lt u;have y:Ck w lo g N (λi=>(S i).c) l:=by
  refine⟨λi hi'=>(r i hi').1.1,⟨_,ZM m.row m.glo (by unfold maxLen;omega),λi hi'=>?_⟩,λi hi'=>(r i hi').2.2⟩
  rw[zO 13 _ i 3 oM,qi _ _ hi',(r i hi').2.1]
 have V:Hid (∀ i,_->_/\_):=λi hi'=>⟨(J i hi').2,(r i hi').1⟩
 have a9:=m.glo;have d:=m.ghi;clear J m u r;go_enter func64,ntmps64;go_wp2;go_loopw [1,5] (λq i wr=>∃ t k:Nat,t<=N/\i=int i64 t/\q=int i64 k/\k<=30000000000000+t*1048600/\Ck wr lo g N (λi=>(S i).c) l/\zl w wr (λb=>g<=b/\b<x)) (λ_ i _=>N - (intOf i).toNat)
 case atStart=>exact⟨0,k0,Jq _,rfl,rfl,by omega,y,zl.refl _ _⟩
 case round =>
  obtain⟨t,k,ht,rfl,rfl,b3,n,H⟩:=hrel
  by_cases hlt:t<N
  ·obtain⟨n1,b1,b2⟩:=V t hlt
   obtain⟨v0,z⟩:=n.cell (t*13) oM;obtain⟨v1,A⟩:=n.cell (t*13+1) oM;have E:=n.ice (t*13);have F:=n.ice (t*13+1);go_wp2_with fail;refine(EG _ _ oM oM).mono ?_;rintro e w2 ⟨⟨s,rfl⟩,j⟩;have f:=((n.put _ oM _).put _ oM _).j0 j;have o:=((H.set ⟨Jr g,d⟩ _).set ⟨Jr g,d⟩ _).trans (zl.of_below j);clear n H z E A F j;obtain⟨v2,B⟩:=f.cell (t*13+2) oM;have G:=f.ice (t*13+2);have D:=f.j5 hlt;have h:=f.put (t*13+2) oM s;have p:=o.set (a:=(g,t*13+2)) ⟨Jr g,d⟩ s;go_wp2_with fail;have U:=h.j4 t hlt;refine(Rq n1 oM oM U).mono ?_;rintro e w4 ⟨rfl,T,K⟩;have c:=h.mark hlt K T;have I:=p.trans (K.mono (λb e=>by have e:=e;exact⟨by omega,by omega⟩))
   clear f o h p B G D U T K w2;obtain⟨v4,X⟩:=c.cell (t*13+4) oM;have a3:=c.ice (t*13+4);obtain⟨v5,Y⟩:=c.cell (t*13+5) oM;have a4:=c.ice (t*13+5);obtain⟨v6,Z⟩:=c.cell (t*13+6) oM;have a5:=c.ice (t*13+6);obtain⟨v7,a0⟩:=c.cell (t*13+7) oM;have a6:=c.ice (t*13+7);obtain⟨v8,a1⟩:=c.cell (t*13+8) oM;have a7:=c.ice (t*13+8);obtain⟨v9,a2⟩:=c.cell (t*13+9) oM;have a8:=c.ice (t*13+9);obtain⟨b4,L⟩:=c.cell (t*13+10) oM;have P:=c.ice (t*13+10);obtain⟨b5,M⟩:=c.cell (t*13+11) oM;have Q:=c.ice (t*13+11);obtain⟨b6,O⟩:=c.cell (t*13+12) oM;have R:=c.ice (t*13+12);go_wp2;go_roundw
   case rel=>exact⟨t+1,k+12+(S t).c,by omega,by go_num,by go_num,by omega,((((((((c.put _ oM _).put _ oM _).put _ oM _).put _ oM _).put _ oM _).put _ oM _).put _ oM _).put _ oM _).put _ oM _,((((((((I.set ⟨Jr g,d⟩ _).set ⟨Jr g,d⟩ _).set ⟨Jr g,d⟩ _).set ⟨Jr g,d⟩ _).set ⟨Jr g,d⟩ _).set ⟨Jr g,d⟩ _).set ⟨Jr g,d⟩ _).set ⟨Jr g,d⟩ _).set ⟨Jr g,d⟩ _⟩
   case measure=>simp[intOf];omega
  ·obtain rfl:t=N:=by omega
   go_wp2;go_ret;exact⟨⟨k,by omega,rfl⟩,H.mono (λb e=>by have e:=e;exact⟨by omega,by omega⟩)⟩
end
theorem OH (cs:List Value)(x:qD)(lo h k:Nat)(w:World)(j:qD.Short x 1048576)(m:qD.In w lo h cs x)(hk:k<=100000000000000) :
  Calls prog 16 #[.agg cs.toArray,int i64 k] w λe w'=>e=.returned (int i64 ((k:Int)+x.c))/\zl w w' (λb=>lo<=b/\b<h):=by
 obtain⟨g,rfl,h1,h2,h3⟩:=m;have hn:=j.2;have hr:w.ownsRow lo 3 1 (some (g,0),x.c,x.c) x.c (qp x.J x.c):=by
  have:=ZM (by rw[Nat.mul_one];exact h3) h1 (by unfold maxLen;omega)
  rw[Nat.mul_one] at this;exact this
 have d:=Jb w (.cells (x,some (g,0),x.c) 47);have a:Below _ w (w.alloc (.cells (x,some (g,0),x.c) 47)):=zd bZ _;have i:Hid _:=zm a hr;have l:Hid (_/\_):=⟨h1,h2⟩;clear hr h3 h1 h2 j;unfold Zw
 show Calls _ 16 _ w _
 go_enter func16,ntmps16;go_wp2_with fail;generalize w.alloc _=W at d a i ⊢;have o:=bC d 3;go_wp2_with fail;refine(EH _ _ _ lo _ k W oM oM oM i.out).mono ?_;rintro e n ⟨rfl,_,c⟩;have f:Hid (zl w n (λb=>_/\b<h)):=(zl.of_below a).trans (c.mono (λb ⟨q,e1,e2⟩=>by cases e1;subst e2;exact l))
 clear c o d a;go_wp2;go_ret;exact⟨rfl,f⟩
end Go.Proofs.YtmdnjgihooflfaaGreatDoor
