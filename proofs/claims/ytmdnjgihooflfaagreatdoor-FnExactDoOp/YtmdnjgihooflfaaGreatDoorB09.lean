import Derived.Great.Walk
import Derived.Test.YtmdnjgihooflfaaGreatDoorB05
import Derived.Test.YtmdnjgihooflfaaGreatDoorB04
import Derived.Test.YtmdnjgihooflfaaGreatDoorB06
import Derived.Test.YtmdnjgihooflfaaGreatDoorB03
namespace Go.Proofs.YtmdnjgihooflfaaGreatDoor
open Go.RowKit
open Go.Value (int)
open Go.IntKind (i64)
open _root_.Go.Proofs.Tryz
set_option maxHeartbeats 64000000
set_option maxRecDepth 1000000
variable{w:World}{g t k0 i:Nat}{u0 u1 u2 u3 u4 u5 u6 u7 u8 u9 u10 u11 u12:Value}
theorem IX {v3:Value}(h:w.heap[g]?=some (.cells #[u0,u1,u2,u3,u4,u5,u6,u7,u8,u9,u10,u11,u12] t (0,0))):(qA w g 3 [v3]).heap[g]?=some (.cells #[u0,u1,u2,v3,u4,u5,u6,u7,u8,u9,u10,u11,u12] t (0,0)):=by
 have:=(zk h 3 v3);simp only[qA]
 simpa using this
theorem Hb {v4 v5 v6 v7 d e a b c:Value}(h:w.heap[g]?=some (.cells #[u0,u1,u2,u3,u4,u5,u6,u7,u8,u9,u10,u11,u12] t (0,0))):(qA w g 4 [v4,v5,v6,v7,d,e,a,b,c]).heap[g]?=some (.cells #[u0,u1,u2,u3,v4,v5,v6,v7,d,e,a,b,c] t (0,0)):=by
 have:=(zk (zk (zk (zk (zk (zk (zk (zk (zk h 4 v4) 5 v5) 6 v6) 7 v7) 8 d) 9 e) 10 a) 11 b) 12 c);simp only[qA]
 simpa using this
theorem Hc {v0 v1 v2 v3 v4 v5 v6 v7 d e a b c:Value}(h:w.heap[g]?=some (.cells #[u0,u1,u2,u3,u4,u5,u6,u7,u8,u9,u10,u11,u12] t (0,0))):(qA w g 0 [v0,v1,v2,v3,v4,v5,v6,v7,d,e,a,b,c]).heap[g]?=some (.cells #[v0,v1,v2,v3,v4,v5,v6,v7,d,e,a,b,c] t (0,0)):=by
 have:=(zk (zk (zk (zk (zk (zk (zk (zk (zk (zk (zk (zk (zk h 0 v0) 1 v1) 2 v2) 3 v3) 4 v4) 5 v5) 6 v6) 7 v7) 8 d) 9 e) 10 a) 11 b) 12 c);simp only[qA]
 simpa using this
theorem LO (name:Int)(who:Int)(own:ByteArray)(c:Option Addr)(lgn d:Nat)(pe:Int)(len:Int)(hei:Int)(cl:Int)(all:Bool)(be:Int)(state:Int)(unt:Int)(price:Int)(L:Int)(w:World)(h0:0<=L)(hL:L<=1048576)(m:own.size<=1000000000000000)(h:lgn<=1000000000000000) :
  Calls prog 80 #[.agg #[name,who,own,(c,lgn,d),pe,len,hei,cl,all,be,state,unt,price],L] w λe w'=>∃ r:Int,e=.returned r/\(r=-1∨(0<=r/\r<=L/\own.size<=1048576/\lgn<=1048576))/\Below w w w':=by
 have f:Below _ w (w.alloc (.cells #[name,who,own,(c,lgn,d),pe,len,hei,cl,all,be,state,unt,price] 135)):=zd bZ _;have i:=Qc f
 by_cases gown:(own.size:Int)<=L
 ·have g:decide (L - (own.size:Int)<0)=false:=by simp;omega
  go_enter func80,ntmps80;go_wp2_with fail;refine(Ky c lgn d _ _ oM oM h).mono ?_;rintro e w1 ⟨o,rfl,j,a⟩;have n:=za i a;have b:=zb f a
  rcases j with rfl|⟨k,p,l⟩
  ·go_wp2
   go_ret;exact⟨_,rfl,.inl rfl,b⟩
  ·have d1:decide (o<0)=false:=by simpa using k
   go_wp2;go_ret;exact⟨_,rfl,.inr ⟨by omega,by omega,by omega,l⟩,b⟩
 ·have g:decide (L - (own.size:Int)<0)=true:=by simp;omega
  go_enter func80,ntmps80;go_wp2;go_ret;exact⟨_,rfl,.inl rfl,f⟩
theorem LP (name:Int)(who:Int)(own:ByteArray)(g:Option Addr)(lgn j:Nat)(lg:Nat->Int)(pe:Int)(len:Int)(hei:Int)(cl:Int)(all:Bool)(be:Int)(state:Int)(unt:Int)(price:Int)(w:World)(a3:lgn<=1048576)(a2:zS w g lgn lg) :
  Calls prog 96 #[.agg #[name,who,own,(g,lgn,j),pe,len,hei,cl,all,be,state,unt,price]] w λe w'=>∃ b,e=.returned (.agg #[name,who,own,(some (b,0),lgn,lgn),pe,len,hei,cl,all,be,state,unt,price])/\(w.heap.size<=b/\b<w'.heap.size/\w'.rowIs b 3 lgn (λk=>int i64 (lg k)))/\Below w w w':=by
 go_enter func96,ntmps96;go_wp2_with fail;obtain⟨S,l⟩:=nM ((((w.alloc (.cells #[name,who,own,(g,lgn,j),pe,len,hei,cl,all,be,state,unt,price] 135)).alloc (.cells #[(),(),False,True,(),(),(),(),.bool false,(),(),(),()] 150)).alloc (.cells #[name,who,own,True,(),(),(),(),.bool false,(),(),(),()] 150)));have T:Below w w S:=by rw[l];exact zd (zd (zd bZ _) _) _
 have A0:S.heap[w.heap.size]?=some (.cells #[name,who,own,(g,lgn,j),pe,len,hei,cl,all,be,state,unt,price] 135 (0,0)):=by rw[l];exact zg (zg (Jb w _) _) _
 have R0:S.heap[w.heap.size+1]?=some (.cells #[(),(),False,True,(),(),(),(),.bool false,(),(),(),()] 150 (0,0)):=by rw[l];exact zg (by simpa using Jb (w.alloc _) _) _
 have U:S.heap[w.heap.size+1+1]?=some (.cells #[name,who,own,True,(),(),(),(),.bool false,(),(),(),()] 150 (0,0)):=by rw[l];simpa using Jb ((w.alloc _).alloc _) _
 rw[← l];clear l;refine(Kx g lgn j lg _ a3 (a2.j0 T)).mono ?_;rintro e v0 ⟨b,rfl,H,a,o⟩;have f:=za A0 o;have B:=za R0 o;have p:=za U o;have z:=zb T o;have d0:w.heap.size+1+1<b:=by have:=zD U;omega
 have G:w.heap.size<=b:=oM;clear A0 R0 U T o H;have a4:=bC f 4;have a5:=bC f 5;have a6:=bC f 6;have a7:=bC f 7;have a8:=bC f 8;have a9:=bC f 9;have t:=bC p 3;have V:=zc p 3;go_wp2_with fail;clear a4 a5 a6 a7 a8 a9 V t;obtain⟨y,h⟩:=nM (qA v0 (w.heap.size+1+1) 3 [(some (b,0),lgn,lgn)]);have A1:y.heap[w.heap.size]?=some (.cells #[name,who,own,(g,lgn,j),pe,len,hei,cl,all,be,state,unt,price] 135 (0,0)):=by rw[h];exact qk oM _ _ _ f
 have R1:y.heap[w.heap.size+1]?=some (.cells #[(),(),False,True,(),(),(),(),.bool false,(),(),(),()] 150 (0,0)):=by rw[h];exact qk oM _ _ _ B
 have O1:y.heap[w.heap.size+1+1]?=some (.cells #[name,who,own,(some (b,0),lgn,lgn),(),(),(),(),.bool false,(),(),(),()] 150 (0,0)):=by rw[h];exact IX p
 have H1:Below w w y:=by rw[h];exact Zi oM _ _ _ z
 have c:y.rowIs b 3 lgn (λk=>int i64 (lg k)):=by rw[h];exact qJ oM _ _ _ a
 have I:y=(v0.setCell (w.heap.size+1+1,3) (some (b,0),lgn,lgn)):=by rw[h];rfl
 rw[← I];clear h I f B p z a;have a:=c;clear c;refine bM (Ik pe len hei cl all be _) λv1 m=>?_
 have n:=za A1 m;have q:=za R1 m;have d:=za O1 m;have A:=zb H1 m;replace a:=qo a m;clear A1 R1 O1 H1 m;have M:=bC n 10;have N:=bC n 11;have O:=bC n 12;obtain⟨b0,b1,b2,t,b3,b4,b5,b6,b7,b8,P,Q,R⟩:=Cl d;have W:=zc d 4;have X:=zc d 5;have Y:=zc d 6;have Z:=zc d 7;have a0:=zc d 8;have a1:=zc d 9;have C:=zc d 10;have D:=zc d 11;have E:=zc d 12;obtain⟨y0,y1,y2,y3,y4,y5,y6,y7,y8,y9,b9,c0,c9⟩:=Cl q;obtain⟨z0,z1,z2,z3,z4,z5,z6,z7,z8,z9,u,v,x⟩:=jv q;go_wp2;clear M N O W X Y Z a0 a1 C D E b0 b1 b2 t b3 b4 b5 b6 b7 b8 P Q R z0 y0 z1 y1 z2 y2 z3 y3 z4 y4 z5 y5 z6 y6 z7 y7 z8 y8 z9 y9 u b9 v c0 x c9;obtain⟨r,i⟩:=nM (qA v1 (w.heap.size+1+1) 4 [pe,len,hei,cl,all,be,state,unt,price]);have A2:r.heap[w.heap.size]?=some (.cells #[name,who,own,(g,lgn,j),pe,len,hei,cl,all,be,state,unt,price] 135 (0,0)):=by rw[i];exact qk oM _ _ _ n
 have R2:r.heap[w.heap.size+1]?=some (.cells #[(),(),False,True,(),(),(),(),.bool false,(),(),(),()] 150 (0,0)):=by rw[i];exact qk oM _ _ _ q
 have O2:r.heap[w.heap.size+1+1]?=some (.cells #[name,who,own,(some (b,0),lgn,lgn),pe,len,hei,cl,all,be,state,unt,price] 150 (0,0)):=by rw[i];exact Hb d
 have H2:Below w w r:=by rw[i];exact Zi oM _ _ _ A
 have c:r.rowIs b 3 lgn (λk=>int i64 (lg k)):=by rw[i];exact qJ oM _ _ _ a
 have J:r=(((((((((v1.setCell (w.heap.size+1+1,4) pe).setCell (w.heap.size+1+1,5) len).setCell (w.heap.size+1+1,6) hei).setCell (w.heap.size+1+1,7) cl).setCell (w.heap.size+1+1,8) all).setCell (w.heap.size+1+1,9) be).setCell (w.heap.size+1+1,10) state).setCell (w.heap.size+1+1,11) unt).setCell (w.heap.size+1+1,12) price):=by rw[i];rfl
 rw[← J];clear i J n q d A a;have a:=c;clear c;obtain⟨F,L⟩:=nM (qA r (w.heap.size+1) 0 [name,who,own,(some (b,0),lgn,lgn),pe,len,hei,cl,all,be,state,unt,price]);have RF:F.heap[w.heap.size+1]?=some (.cells #[name,who,own,(some (b,0),lgn,lgn),pe,len,hei,cl,all,be,state,unt,price] 150 (0,0)):=by rw[L];exact Hc R2
 have HF:Below w w F:=by rw[L];exact Zi oM _ _ _ H2
 have s:F.rowIs b 3 lgn (λk=>int i64 (lg k)):=by rw[L];exact qJ oM _ _ _ a
 have K:F=(((((((((((((r.setCell (w.heap.size+1,0) name).setCell (w.heap.size+1,1) who).setCell (w.heap.size+1,2) own).setCell (w.heap.size+1,3) (some (b,0),lgn,lgn)).setCell (w.heap.size+1,4) pe).setCell (w.heap.size+1,5) len).setCell (w.heap.size+1,6) hei).setCell (w.heap.size+1,7) cl).setCell (w.heap.size+1,8) all).setCell (w.heap.size+1,9) be).setCell (w.heap.size+1,10) state).setCell (w.heap.size+1,11) unt).setCell (w.heap.size+1,12) price):=by rw[L];rfl
 rw[← K];clear L K;obtain⟨z0,z1,z2,z3,z4,z5,z6,z7,z8,z9,u,v,x⟩:=Cl RF;exact Jj (by simp[results,results96,go_sem,z0,z1,z2,z3,z4,z5,z6,z7,z8,z9,u,v,x]) rfl ⟨b,rfl,⟨G,s.lt,s⟩,HF⟩
theorem LQ (name:Int)(who:Int)(own:ByteArray)(b:Option Addr)(lgn j:Nat)(lg:Nat->Int)(pe:Int)(len:Int)(hei:Int)(cl:Int)(all:Bool)(be:Int)(state:Int)(unt:Int)(price:Int)(a:Option Addr)(h:Nat)(w:World)(q:lgn<=1048576)(p:zS w b lgn lg)(k:zS w a lgn lg) :
  Calls prog 125 #[.agg #[name,who,own,(b,lgn,j),pe,len,hei,cl,all,be,state,unt,price],.agg #[name,who,own,(a,lgn,h),pe,len,hei,cl,all,be,state,unt,price]] w λe w'=>e=.returned (.bool true)/\Below w w w':=by
 have i:Below _ w ((w.alloc (.cells #[name,who,own,(b,lgn,j),pe,len,hei,cl,all,be,state,unt,price] 150)).alloc (.cells #[name,who,own,(a,lgn,h),pe,len,hei,cl,all,be,state,unt,price] 150)):=zd (zd bZ _) _;have l:=Cs i;have n:=Dt i;go_enter func125,ntmps125;go_wp2_with fail;generalize (w.alloc _).alloc _=v at i l n ⊢;refine bM (Ij b _ lgn j _ lg _ q (p.j0 i) (k.j0 i)) λv0 c=>?_
 have f:=za l c;have g:=za n c;have F:=zb i c;clear l n i c;have r:=bC f 4;have z:=bC g 4;have s:=bC f 5;have A:=bC g 5;have t:=bC f 6;have B:=bC g 6;have u:=bC f 7;have C:=bC g 7;have x:=bC f 8;have D:=bC g 8;have y:=bC f 9;have E:=bC g 9;go_wp2_with fail;clear r z s A t B u C x D y E;refine bM (Gv pe len hei cl all be _) λv1 d=>?_
 have m:=za f d;have o:=za g d;have M:=zb F d;clear f g F d;have G:=bC m 10;have J:=bC o 10;have H:=bC m 11;have K:=bC o 11;have I:=bC m 12;have L:=bC o 12;go_wp2;go_ret;exact⟨rfl,M⟩
theorem LR (cs:List Value)(x:zA)(L:Int)(w:World)(f:0<=L)(g:L<=1048576)(j:zA.Short x 1000000000000000)(h:zA.Is w cs x) :
  Calls prog 80 #[.agg cs.toArray,L] w λe w'=>∃ r:Int,e=.returned r/\(r=-1∨(0<=r/\r<=L/\zA.Short x 1048576))/\Below w w w':=by
 obtain⟨c,d,rfl,i,k⟩:=h;obtain⟨a,b⟩:=j;exact LO _ _ _ _ _ _ _ _ _ _ _ _ _ _ _ L w f g a b
theorem LS (cs:List Value)(x:zA)(w:World)(k:zA.Short x 1048576)(h:zA.Is w cs x) :
  Calls prog 96 #[.agg cs.toArray] w λe w'=>∃ cs',e=.returned (.agg cs'.toArray)/\zA.In w' w.heap.size w'.heap.size cs' x/\Below w w w':=by
 obtain⟨f,g,rfl,b,l⟩:=h;obtain⟨_,a⟩:=k;refine(LP _ _ _ _ _ _ _ _ _ _ _ _ _ _ _ _ w a b).mono ?_;rintro e w' ⟨c,j,d,i⟩;exact⟨_,j,⟨c,rfl,d⟩,i⟩
theorem KA (cs g:List Value)(x:zA)(w:World)(m:zA.Short x 1048576)(h:zA.Is w cs x)(l:zA.Is w g x) :
  Calls prog 125 #[.agg cs.toArray,.agg g.toArray] w λe w'=>e=.returned (.bool true)/\Below w w w':=by
 obtain⟨j,k,rfl,c,n⟩:=h;obtain⟨d,f,rfl,a,i⟩:=l;obtain⟨_,b⟩:=m;exact LQ _ _ _ _ _ _ _ _ _ _ _ _ _ _ _ _ _ _ w b c a
theorem KC (y:Option Addr)(N c:Nat)(S:Nat->zA)(h:Int)(w:World)(h0:0<=h)(M:h<=1048576)(hN:N<=1000000000000000)(B:ZY N S 1000000000000000)(D:qL w y N S) :
  Calls prog 40 #[(y,N,c),h] w λe w'=>∃ r:Int,e=.returned r/\(r=-1∨(0<=r/\r<=h/\N<=1048576/\ZY N S 1048576))/\Below w w w':=by
 have G:=hI B;have H:=hI D;clear B D
 by_cases hf:(N:Int)<=h
 ·have z:decide (h - (N:Int)<0)=false:=by simp;omega
  go_enter func40,ntmps40;go_wp2;go_loopw [1,5] (λl i wr=>∃ (k:Nat) (L:Int),k<=N/\i=int i64 k/\l=int i64 L/\0<=L/\L<=h/\ZY k S 1048576/\Below w w wr) (λ_ i _=>N - (intOf i).toNat)
  case atStart=>exact⟨0,_,Jq _,rfl,rfl,by omega,by omega,λi O=>by omega,bZ⟩
  case round =>
   obtain⟨k,L,hk,rfl,rfl,E,P,q,a⟩:=hrel;have x:=hI q;clear q z
   by_cases hlt:k<N
   ·obtain⟨C,A,hI⟩:=H
    obtain⟨b,off,rfl,g⟩:=A k hlt;have j:Hid (zA.Is w _ _):=hI k hlt;obtain⟨m,n,f,u,v⟩:=hI k hlt;have d:b<w.heap.size:=Ja w _ (g 0 dC);have c0:wr.cell? _=some (.int _ _):=(a.cell (p:=⟨b,off+_,_⟩) d).trans (rC f (g 0 dC));have c1:wr.cell? _=some (.int _ _):=(a.cell d).trans (rC f (g 1 dC));have c2:wr.cell? _=some (.string _):=(a.cell d).trans (rC f (g 2 dC));have c3:wr.cell? _=some (.slice m _ n):=(a.cell d).trans (rC f (g 3 dC));have c4:wr.cell? _=some (.int _ _):=(a.cell d).trans (rC f (g 4 dC));have c5:wr.cell? _=some (.int _ _):=(a.cell d).trans (rC f (g 5 dC));have c6:wr.cell? _=some (.int _ _):=(a.cell d).trans (rC f (g 6 dC));have c7:wr.cell? _=some (.int _ _):=(a.cell d).trans (rC f (g 7 dC));have c8:wr.cell? _=some (.bool _):=(a.cell d).trans (rC f (g 8 dC));have c9:wr.cell? _=some (.int _ _):=(a.cell d).trans (rC f (g 9 dC));have I:wr.cell? _=some (.int _ _):=(a.cell d).trans (rC f (g 10 dC));have J:wr.cell? _=some (.int _ _):=(a.cell d).trans (rC f (g 11 dC));have K:wr.cell? _=some (.int _ _):=(a.cell d).trans (rC f (g 12 dC));have s:Hid (zA.Is wr [(S k).k,(S k).e,(S k).j1,(m,(S k).c,n),(S k).v,(S k).f,(S k).j,(S k).w,(S k).h,(S k).x,(S k).C,(S k).y,(S k).j2] (S k)):=by show zA.Is wr _ _;rw[← f];exact j.j0 a
    have t:Hid (zA.Short _ 1000000000000000):=G k hlt;clear A hI g f j u v;go_wp2_with fail;refine(LR _ _ L _ E oM t s).mono ?_;rintro e w2 ⟨r,rfl,hr,o⟩
    rcases hr with rfl|⟨F,r1,Q⟩
    ·go_wp2
     go_ret;exact⟨_,rfl,.inl rfl,zb a o⟩
    ·have d1:decide (r<0)=false:=by simpa using F
     go_wp2;go_roundw
     case rel =>
      refine⟨k+1,r,by omega,by go_num,rfl,F,by omega,λi O=>?_,zb a o⟩
      by_cases e:i=k
      ·subst e;exact Q
      ·exact x i oM
     case measure=>simp[intOf];omega
   ·obtain rfl:k=N:=by omega
    go_wp2;go_ret;exact⟨_,rfl,.inr ⟨E,P,by omega,x⟩,a⟩
 ·have z:decide (h - (N:Int)<0)=true:=by simp;omega
  go_enter func40,ntmps40;go_wp2;go_ret;exact⟨_,rfl,.inl rfl,bZ⟩
/-- toBookingS: a copy, its lists in new memory behind its own row. -/
theorem KE (ao:Option Addr)(N P:Nat)(S:Nat->zA)(w:World)(hN:N<=1048576)(hs:ZY N S 1048576)(hz:qL w ao N S) :
  Calls prog 47 #[(ao,N,P)] w λe w'=>∃ g C,e=.returned (some (g,0),N,N)/\Ah w' N w.heap.size w'.heap.size g N S C/\Below w w w':=by
 obtain⟨i0,U,X,Y,Z⟩:=info_parts Tryz.infoBooking;have HS:=hI hs;have HX:=hI hz;clear hs hz;go_enter func47,ntmps47;go_wp2_with (first|(at_make;refine wpList_make_full _ rfl _ _ 36 rfl _ 150 i0 _ 13 underlying36 U X Y _ _ _ _ N rfl rfl rfl rfl (by rw[Z];omega) (by unfold maxLen;omega) (Jr _) ?_;intro w1 n o))
 go_loopw [4] (λi wr=>∃ (k:Nat) (C:_),k<=N/\i=int i64 k/\Ah wr k w.heap.size wr.heap.size w.heap.size N S C/\Below w w wr)
  (λi _=>N - (intOf i).toNat)
 case atStart=>exact⟨0,λ_=>[],Jq _,rfl,⟨(ZW n).congr (λj hj=>(Ft (z:=#[_,_,_,_,_,_,_,_,_,_,_,_,_]) (sz:=13) rfl N j hj).trans (by unfold qd;rw[BU _ _ oM])),Jr _,(ZW n).lt,λi U=>by omega⟩,bZ.grown o (Jr _) sM⟩
 case round =>
  obtain⟨k,C,hk,rfl,q,d⟩:=hrel;clear n o
  by_cases hlt:k<N
  ·obtain⟨E,hE,hI⟩:=HX
   obtain⟨b,off,rfl,m⟩:=hE k hlt;have y:Hid (zA.Is w _ _):=hI k hlt;obtain⟨A,B,l,V,a3⟩:=hI k hlt;have f:b<w.heap.size:=Ja w _ (m 0 dC);have c0:wr.cell? _=some (.int _ _):=(d.cell (p:=⟨b,off+_,_⟩) f).trans (rC l (m 0 dC));have c1:wr.cell? _=some (.int _ _):=(d.cell f).trans (rC l (m 1 dC));have c2:wr.cell? _=some (.string _):=(d.cell f).trans (rC l (m 2 dC));have c3:wr.cell? _=some (.slice A _ B):=(d.cell f).trans (rC l (m 3 dC));have c4:wr.cell? _=some (.int _ _):=(d.cell f).trans (rC l (m 4 dC));have c5:wr.cell? _=some (.int _ _):=(d.cell f).trans (rC l (m 5 dC));have c6:wr.cell? _=some (.int _ _):=(d.cell f).trans (rC l (m 6 dC));have c7:wr.cell? _=some (.int _ _):=(d.cell f).trans (rC l (m 7 dC));have c8:wr.cell? _=some (.bool _):=(d.cell f).trans (rC l (m 8 dC));have c9:wr.cell? _=some (.int _ _):=(d.cell f).trans (rC l (m 9 dC));have L:wr.cell? _=some (.int _ _):=(d.cell f).trans (rC l (m 10 dC));have M:wr.cell? _=some (.int _ _):=(d.cell f).trans (rC l (m 11 dC));have O:wr.cell? _=some (.int _ _):=(d.cell f).trans (rC l (m 12 dC));have J:Hid (zA.Is wr [(S k).k,(S k).e,(S k).j1,(A,(S k).c,B),(S k).v,(S k).f,(S k).j,(S k).w,(S k).h,(S k).x,(S k).C,(S k).y,(S k).j2] (S k)):=by show zA.Is wr _ _;rw[← l];exact y.j0 d
   have K:Hid (zA.Short _ 1048576):=HS k hlt;have r:Hid _:=q;clear hE hI m l y q V a3;go_wp2_with fail;refine(LS _ _ _ K J).mono ?_;rintro e H ⟨cs',rfl,F,u⟩;have I:=hI F;obtain⟨v,rfl,_⟩:=F;unfold Zw;have c:=(r.j0 u).wide (Jr _) u.size;have a4:=r.ghi;clear c0 c1 c2 c3 c4 c5 c6 c7 c8 c9 L M O;have o0:=c.row.cell (i:=k*13) oM;have f0:=c.row.frozen (k*13);have o1:=c.row.cell (i:=k*13+1) oM;have f1:=c.row.frozen (k*13+1);have o2:=c.row.cell (i:=k*13+2) oM;have f2:=c.row.frozen (k*13+2);have o3:=c.row.cell (i:=k*13+3) oM;have f3:=c.row.frozen (k*13+3);have o4:=c.row.cell (i:=k*13+4) oM;have f4:=c.row.frozen (k*13+4);have o5:=c.row.cell (i:=k*13+5) oM;have f5:=c.row.frozen (k*13+5);have o6:=c.row.cell (i:=k*13+6) oM;have f6:=c.row.frozen (k*13+6);have o7:=c.row.cell (i:=k*13+7) oM;have f7:=c.row.frozen (k*13+7);have o8:=c.row.cell (i:=k*13+8) oM;have f8:=c.row.frozen (k*13+8);have o9:=c.row.cell (i:=k*13+9) oM;have f9:=c.row.frozen (k*13+9);have a0:=c.row.cell (i:=k*13+10) oM;have Q:=c.row.frozen (k*13+10);have a1:=c.row.cell (i:=k*13+11) oM;have R:=c.row.frozen (k*13+11);have a2:=c.row.cell (i:=k*13+12) oM;have T:=c.row.frozen (k*13+12);have t:=hI c;clear c;go_wp2;go_roundw
   case rel =>
    clear o0 f0 o1 f1 o2 f2 o3 f3 o4 f4 o5 f5 o6 f6 o7 f7 o8 f8 o9 f9 a0 Q a1 R a2 T;obtain⟨W,D⟩:=nM (qA H w.heap.size (k*13) [(S k).k,(S k).e,(S k).j1,(some (v,0),(S k).c,(S k).c),(S k).v,(S k).f,(S k).j,(S k).w,(S k).h,(S k).x,(S k).C,(S k).y,(S k).j2]);have hC:W=(((((((((((((H.setCell (w.heap.size,k*13) (S k).k).setCell (w.heap.size,k*13+1) (S k).e).setCell (w.heap.size,k*13+2) (S k).j1).setCell (w.heap.size,k*13+3) (some (v,0),(S k).c,(S k).c)).setCell (w.heap.size,k*13+4) (S k).v).setCell (w.heap.size,k*13+5) (S k).f).setCell (w.heap.size,k*13+6) (S k).j).setCell (w.heap.size,k*13+7) (S k).w).setCell (w.heap.size,k*13+8) (S k).h).setCell (w.heap.size,k*13+9) (S k).x).setCell (w.heap.size,k*13+10) (S k).C).setCell (w.heap.size,k*13+11) (S k).y).setCell (w.heap.size,k*13+12) (S k).j2):=by rw[D];rfl
    rw[← hC];clear hC;have G:zl H W (λx=>x=w.heap.size):=by rw[D];exact Ei (S:=λx=>x=w.heap.size) rfl _ _ _ (zl.refl _ _)
    have s:W.heap.size=H.heap.size:=by rw[D,Ej]
    refine⟨k+1,λi=>if i=k then [(S k).k,(S k).e,(S k).j1,(some (v,0),(S k).c,(S k).c),(S k).v,(S k).f,(S k).j,(S k).w,(S k).h,(S k).x,(S k).C,(S k).y,(S k).j2] else C i,by omega,by go_num,⟨?_,Jr _,by rw[s];exact t.ghi,λi U=>?_⟩,by rw[D];exact Zi (Jr _) _ _ _ (zb d u)⟩
    ·rw[D]
     refine To t.row rfl dC (λi e=>?_) ?_
     ·rw[QJ _ _ _ _ e];unfold QM;by_cases h:i<k
      ·rw[Jf h,Jf h];exact Je e
      ·rw[Je h,Je h]
     ·rw[qi _ _ (Nat.lt_succ_self k)];exact Jf rfl
    ·rw[s]
     by_cases e:i=k
     ·subst e
      rw[Jf rfl];exact(I.wide oM (Jr _)).kept G (λb h=>by left;omega)
     ·rw[Je e]
      exact(t.each i oM).kept G (λb h=>by left;omega)
   case measure=>simp[intOf];omega
  ·obtain rfl:k=N:=by omega
   go_wp2;go_ret;exact⟨_,C,rfl,q,d⟩
/-- eqBookingS at two lists that are one. -/
theorem IY (K bo:Option Addr)(N c1 c2:Nat)(S:Nat->zA)(w:World)(hN:N<=1048576)(Q:ZY N S 1048576)(R:qL w K N S)(T:qL w bo N S) :
  Calls prog 59 #[(K,N,c1),(bo,N,c2)] w λe w'=>e=.returned (.bool true)/\Below w.heap.size w w':=by
 have U:=hI Q;have V:=hI R;have W:=hI T;clear Q R T;go_enter func59,ntmps59;go_wp2;go_loopw [5] (λi wr=>∃ k,k<=N/\i=int i64 k/\Below w.heap.size w wr) (λi _=>N - (intOf i).toNat)
 case atStart=>exact⟨0,Jq _,rfl,bZ⟩
 case round =>
  obtain⟨k,hk,rfl,a⟩:=hrel
  by_cases hlt:k<N
  ·obtain⟨C,O,hI⟩:=V
   obtain⟨D,P,x⟩:=W;obtain⟨b,off,rfl,f⟩:=O k hlt;obtain⟨L,q,rfl,h⟩:=P k hlt;have m:Hid (zA.Is w _ _):=hI k hlt;have n:Hid (zA.Is w _ _):=x k hlt;obtain⟨t,u,c,z,A⟩:=hI k hlt;obtain⟨J,M,d,o,r⟩:=x k hlt;have j:b<w.heap.size:=Ja w _ (f 0 (by decide))
   have l:L<w.heap.size:=Ja w _ (h 0 (by decide))
   have i1:(0:Int)<=(k:Int):=by omega
   have i2:(k:Int)<(N:Int):=by omega
   have z0:∀ g:zy wr,g.val.cell? _=some (.int _ _):=λg=>((a.trans (g.o.mono a.size)).cell (p:=⟨b,off+_,_⟩) j).trans (by have:=f 0 (by decide);rw[c] at this;exact this)
   have Z:∀ g:zy wr,g.val.cell? _=some (.int _ _):=λg=>((a.trans (g.o.mono a.size)).cell (p:=⟨L,q+_,_⟩) l).trans (by have:=h 0 (by decide);rw[d] at this;exact this)
   have z1:∀ g:zy wr,g.val.cell? _=some (.int _ _):=λg=>((a.trans (g.o.mono a.size)).cell j).trans (by have:=f 1 (by decide);rw[c] at this;exact this)
   have y1:∀ g:zy wr,g.val.cell? _=some (.int _ _):=λg=>((a.trans (g.o.mono a.size)).cell l).trans (by have:=h 1 (by decide);rw[d] at this;exact this)
   have z2:∀ g:zy wr,g.val.cell? _=some (.string _):=λg=>((a.trans (g.o.mono a.size)).cell j).trans (by have:=f 2 (by decide);rw[c] at this;exact this)
   have y2:∀ g:zy wr,g.val.cell? _=some (.string _):=λg=>((a.trans (g.o.mono a.size)).cell l).trans (by have:=h 2 (by decide);rw[d] at this;exact this)
   have z3:∀ g:zy wr,g.val.cell? _=some (.slice t _ u):=λg=>((a.trans (g.o.mono a.size)).cell j).trans (by have:=f 3 (by decide);rw[c] at this;exact this)
   have y3:∀ g:zy wr,g.val.cell? _=some (.slice _ _ _):=λg=>((a.trans (g.o.mono a.size)).cell l).trans (by have:=h 3 (by decide);rw[d] at this;exact this)
   have z4:∀ g:zy wr,g.val.cell? _=some (.int _ _):=λg=>((a.trans (g.o.mono a.size)).cell j).trans (by have:=f 4 (by decide);rw[c] at this;exact this)
   have y4:∀ g:zy wr,g.val.cell? _=some (.int _ _):=λg=>((a.trans (g.o.mono a.size)).cell l).trans (by have:=h 4 (by decide);rw[d] at this;exact this)
   have z5:∀ g:zy wr,g.val.cell? _=some (.int _ _):=λg=>((a.trans (g.o.mono a.size)).cell j).trans (by have:=f 5 (by decide);rw[c] at this;exact this)
   have y5:∀ g:zy wr,g.val.cell? _=some (.int _ _):=λg=>((a.trans (g.o.mono a.size)).cell l).trans (by have:=h 5 (by decide);rw[d] at this;exact this)
   have z6:∀ g:zy wr,g.val.cell? _=some (.int _ _):=λg=>((a.trans (g.o.mono a.size)).cell j).trans (by have:=f 6 (by decide);rw[c] at this;exact this)
   have y6:∀ g:zy wr,g.val.cell? _=some (.int _ _):=λg=>((a.trans (g.o.mono a.size)).cell l).trans (by have:=h 6 (by decide);rw[d] at this;exact this)
   have z7:∀ g:zy wr,g.val.cell? _=some (.int _ _):=λg=>((a.trans (g.o.mono a.size)).cell j).trans (by have:=f 7 (by decide);rw[c] at this;exact this)
   have y7:∀ g:zy wr,g.val.cell? _=some (.int _ _):=λg=>((a.trans (g.o.mono a.size)).cell l).trans (by have:=h 7 (by decide);rw[d] at this;exact this)
   have z8:∀ g:zy wr,g.val.cell? _=some (.bool _):=λg=>((a.trans (g.o.mono a.size)).cell j).trans (by have:=f 8 (by decide);rw[c] at this;exact this)
   have y8:∀ g:zy wr,g.val.cell? _=some (.bool _):=λg=>((a.trans (g.o.mono a.size)).cell l).trans (by have:=h 8 (by decide);rw[d] at this;exact this)
   have z9:∀ g:zy wr,g.val.cell? _=some (.int _ _):=λg=>((a.trans (g.o.mono a.size)).cell j).trans (by have:=f 9 (by decide);rw[c] at this;exact this)
   have y9:∀ g:zy wr,g.val.cell? _=some (.int _ _):=λg=>((a.trans (g.o.mono a.size)).cell l).trans (by have:=h 9 (by decide);rw[d] at this;exact this)
   have G:∀ g:zy wr,g.val.cell? _=some (.int _ _):=λg=>((a.trans (g.o.mono a.size)).cell j).trans (by have:=f 10 (by decide);rw[c] at this;exact this)
   have B:∀ g:zy wr,g.val.cell? _=some (.int _ _):=λg=>((a.trans (g.o.mono a.size)).cell l).trans (by have:=h 10 (by decide);rw[d] at this;exact this)
   have H:∀ g:zy wr,g.val.cell? _=some (.int _ _):=λg=>((a.trans (g.o.mono a.size)).cell j).trans (by have:=f 11 (by decide);rw[c] at this;exact this)
   have E:∀ g:zy wr,g.val.cell? _=some (.int _ _):=λg=>((a.trans (g.o.mono a.size)).cell l).trans (by have:=h 11 (by decide);rw[d] at this;exact this)
   have I:∀ g:zy wr,g.val.cell? _=some (.int _ _):=λg=>((a.trans (g.o.mono a.size)).cell j).trans (by have:=f 12 (by decide);rw[c] at this;exact this)
   have F:∀ g:zy wr,g.val.cell? _=some (.int _ _):=λg=>((a.trans (g.o.mono a.size)).cell l).trans (by have:=h 12 (by decide);rw[d] at this;exact this)
   have X:Hid (∀ g:zy wr,zA.Is _ [_,_,_,_,_,_,_,_,_,_,_,_,_] _):=λg=>by rw[← c];exact(m.j0 a).j0 g.o
   have Y:Hid (∀ g:zy wr,zA.Is _ [_,_,_,_,_,_,_,_,_,_,_,_,_] _):=λg=>by rw[← d];exact(n.j0 a).j0 g.o
   have s:Hid (zA.Short _ 1048576):=U k hlt;clear O hI P x f h c d m n z A o r;go_upto_region 6 with fail;refine ze (by kernel_rfl) (by kernel_rfl) ?_
   repeat(first|go_big_quiet_skip|(go_big_quiet_want;go_big_quiet_op;first|go_big_quiet_on|(apply Jg;refine⟨λg=>?_,?_⟩;(focus(first|(go_at_call 125;refine zr (v:=.bool true) ((KA _ _ _ _ s (X g) (Y g)).mono ?_);rintro e w2 ⟨rfl,y⟩;exact⟨rfl,y⟩)));go_big_quiet_on)))
   refine Jl ?_;rintro _ ⟨g,rfl⟩;clear z0 Z z1 y1 z2 y2 z3 y3 z4 y4 z5 y5 z6 y6 z7 y7 z8 y8 z9 y9 G B H E I F;go_wp2;go_roundw
   case rel=>exact⟨k+1,by omega,by go_num,zb a g.o⟩
   case measure=>simp[intOf];omega
  ·go_wp2
   go_ret;exact⟨rfl,a⟩
theorem NI (cs:List Value)(x:zY)(w:World)(D:zY.Short x 1000000000000000)(h:zY.Is w cs x) :
  Calls prog 6 #[.agg cs.toArray,int i64 1048576] w λe w'=>∃ r:Int,e=.returned r/\(r=-1∨(0<=r/\r<=1048576/\zY.Short x 1048576))/\Below w w w':=by
 obtain⟨j,m,i,l,g,k,rfl,h1,L,h2,M,h3,N⟩:=h;obtain⟨⟨A,O⟩,⟨B,P⟩,⟨C,Q⟩⟩:=D;have b:Below _ w (w.alloc (.cells #[(j,x.i,m),(i,x.l,l),(g,x.g,k)] 26)):=zd bZ _;have n:=Qc b;clear L M N;go_enter func6,ntmps6;go_wp2_with fail;refine(LN j _ m _ _ A O (h1.j0 b)).mono ?_;rintro e v1 ⟨y,rfl,s,a⟩;have f:=za n a;have c:=zb b a;clear n b a
 rcases s with rfl|⟨v,F,G,H⟩
 ·go_wp2
  go_ret;exact⟨_,rfl,.inl rfl,c⟩
 ·have d1:decide (y<0)=false:=by simpa using v
  have p:=bC f 1;go_wp2_with fail;refine(Pj i _ l _ y _ v F B P (h2.j0 c)).mono ?_;rintro e v2 ⟨z,rfl,t,a⟩;have q:=za f a;have d:=zb c a;clear f c a p
  rcases t with rfl|⟨p,q2,I,J⟩
  ·go_wp2
   go_ret;exact⟨_,rfl,.inl rfl,d⟩
  ·have d2:decide (z<0)=false:=by simpa using p
   have E:=bC q 2;go_wp2_with fail;refine(KC g _ k _ z _ p oM C Q (h3.j0 d)).mono ?_;rintro e v3 ⟨K,rfl,u,a⟩;have o:=zb d a;clear d a E
   rcases u with rfl|⟨u1,u2,u3,u4⟩
   ·go_wp2
    go_ret;exact⟨_,rfl,.inl rfl,o⟩
   ·have d3:decide (K<0)=false:=by simpa using u1
    go_wp2;go_ret;exact⟨_,rfl,.inr ⟨u1,by omega,⟨G,H⟩,⟨I,J⟩,⟨u3,u4⟩⟩,o⟩
theorem MR {v0:Value}(h:w.heap[g]?=some (.cells #[u0,u1,u2] t (0,0))):(w.setCell (g,0) v0).heap[g]?=some (.cells #[v0,u1,u2] t (0,0)):=by
 simpa using zk h 0 v0
theorem MS {v1:Value}(h:w.heap[g]?=some (.cells #[u0,u1,u2] t (0,0))):(w.setCell (g,1) v1).heap[g]?=some (.cells #[u0,v1,u2] t (0,0)):=by
 simpa using zk h 1 v1
theorem MT {v2:Value}(h:w.heap[g]?=some (.cells #[u0,u1,u2] t (0,0))):(w.setCell (g,2) v2).heap[g]?=some (.cells #[u0,u1,v2] t (0,0)):=by
 simpa using zk h 2 v2
theorem KF (w:World)(g i:Nat)(v:Value):zl w (w.setCell (g,i) v) (λb=>b=g):=(zl.refl w (λb=>b=g)).set (a:=(g,i)) rfl v
theorem El (cs:List Value)(x:zY)(w:World)(hs:zY.Short x 1048576)(h:zY.Is w cs x) :
  Calls prog 9 #[.agg cs.toArray] w λe w'=>∃ cs',e=.returned (.agg cs'.toArray)/\zY.In w' w.heap.size w'.heap.size cs' x/\Below w w w':=by
 obtain⟨B,H,A,G,z,D,rfl,h1,s1,h2,s2,h3,s3⟩:=h;obtain⟨⟨b1,t1⟩,⟨b2,t2⟩,⟨b3,t3⟩⟩:=hs;clear s1 s2 s3;go_enter func9,ntmps9;go_wp2_with fail;obtain⟨P,n⟩:=nM ((((w.alloc (.cells #[(B,x.i,H),(A,x.l,G),(z,x.g,D)] 26)).alloc (.cells #[True,True,True] 38)).alloc (.cells #[True,True,True] 38)));have Q:Below w w P:=by rw[n];exact zd (zd (zd bZ _) _) _
 have A0:P.heap[w.heap.size]?=some (.cells #[(B,x.i,H),(A,x.l,G),(z,x.g,D)] 26 (0,0)):=by rw[n];exact zg (zg (Jb w _) _) _
 have R0:P.heap[w.heap.size+1]?=some (.cells #[True,True,True] 38 (0,0)):=by rw[n];exact zg (by simpa using Jb (w.alloc _) _) _
 have T:P.heap[w.heap.size+1+1]?=some (.cells #[True,True,True] 38 (0,0)):=by rw[n];simpa using Jb ((w.alloc _).alloc _) _
 rw[← n];clear n;have gO:=zD T;refine(Ku B _ H _ _ b1 t1 (h1.j0 Q)).mono ?_;rintro e v0 ⟨k,ls,cc,rfl,m0,c⟩;have l:=m0.high;have p:=za A0 c;have r:=za R0 c;have j:=za T c;have s:=zb Q c;have X:=c.size;clear A0 R0 T Q c m0;have U:=bC p 1;have I:=bC j 0;have N:=zc j 0;go_wp2_with fail;clear N I U;obtain⟨K,f⟩:=nM (v0.setCell (w.heap.size+1+1,0) (some (k,0),x.i,x.i));have d:zl v0 K (λb=>b=w.heap.size+1+1):=by rw[f];exact KF _ _ _ _
 have A1:=d.blk p oM;have R1:=d.blk r oM;have O1:K.heap[w.heap.size+1+1]?=some (.cells #[(some (k,0),x.i,x.i),True,True] 38 (0,0)):=by rw[f];exact MR j
 have R:Below w w K:=by rw[f];exact s.setCell (by show w.heap.size<=_+1;omega) _
 have u:K.heap.size=v0.heap.size:=by rw[f,World.size_setCell]
 have g:=l.kept d (λb h=>by left;omega)
 rw[← f];rw[← u] at g X;clear f d p r j s l;have l:=g;clear g;clear u;refine(Pk A _ G _ _ b2 t2 (h2.j0 R)).mono ?_;rintro e v1 ⟨m,C,rfl,q,c⟩;have p:=za A1 c;have r:=za R1 c;have j:=za O1 c;have s:=zb R c;have Y:=c.size;replace l:=l.j0 c;clear A1 R1 O1 R c;have V:=bC p 2;have J:=bC j 1;have N:=zc j 1;go_wp2_with fail;clear N J V;obtain⟨L,f⟩:=nM (v1.setCell (w.heap.size+1+1,1) (some (m,0),x.l,x.l));have d:zl v1 L (λb=>b=w.heap.size+1+1):=by rw[f];exact KF _ _ _ _
 have A2:=d.blk p oM;have R2:=d.blk r oM;have O2:L.heap[w.heap.size+1+1]?=some (.cells #[(some (k,0),x.i,x.i),(some (m,0),x.l,x.l),True] 38 (0,0)):=by rw[f];exact MS j
 have S:Below w w L:=by rw[f];exact s.setCell (by show w.heap.size<=_+1;omega) _
 have u:L.heap.size=v1.heap.size:=by rw[f,World.size_setCell]
 have g:=l.kept d (λb h=>by left;omega)
 have i:=q.kept d (λb h=>by left;omega)
 rw[← f];rw[← u] at i Y;clear f d p r j s l q;have l:=g;clear g;have q:=i;clear i;clear u;refine(KE z _ D _ _ b3 t3 (h3.j0 S)).mono ?_;rintro e v2 ⟨o,E,rfl,O,c⟩;have p:=za A2 c;have r:=za R2 c;have j:=za O2 c;have s:=zb S c;have Z:=c.size;replace l:=l.j0 c;have i:=q.j0 c;clear A2 R2 O2 S c q;have q:=i;clear i;have W:=bC j 2;have I:=bC j 0;have J:=bC j 1;have N:=zc j 2;obtain⟨y0,y1,y2⟩:=ZE r;obtain⟨z0,z1,z2⟩:=FM r;go_wp2;clear N I J W z0 y0 z1 y1 z2 y2;obtain⟨t,f⟩:=nM (v2.setCell (w.heap.size+1+1,2) (some (o,0),x.g,x.g));have d:zl v2 t (λb=>b=w.heap.size+1+1):=by rw[f];exact KF _ _ _ _
 have A3:=d.blk p oM;have R3:=d.blk r oM;have O3:t.heap[w.heap.size+1+1]?=some (.cells #[(some (k,0),x.i,x.i),(some (m,0),x.l,x.l),(some (o,0),x.g,x.g)] 38 (0,0)):=by rw[f];exact MT j
 have H3:Below w w t:=by rw[f];exact s.setCell (by show w.heap.size<=_+1;omega) _
 have u:t.heap.size=v2.heap.size:=by rw[f,World.size_setCell]
 have g:=l.kept d (λb h=>by left;omega)
 have i:=q.kept d (λb h=>by left;omega)
 have y:=O.kept d (λb h=>by left;omega)
 rw[← f];rw[← u] at y Z;clear f d p r j s l q O;have l:=g;clear g;have q:=i;clear i;have O:=y;clear y;obtain⟨F,M⟩:=nM (((t.setCell (w.heap.size+1,0) (some (k,0),x.i,x.i)).setCell (w.heap.size+1,1) (some (m,0),x.l,x.l)).setCell (w.heap.size+1,2) (some (o,0),x.g,x.g));have d:zl t F (λb=>b=w.heap.size+1):=by rw[M];exact(((zl.refl t (λb=>b=_)).set (a:=⟨_,0,_⟩) rfl _).set (a:=⟨_,1,_⟩) rfl _).set (a:=⟨_,2,_⟩) rfl _
 have RF:F.heap[w.heap.size+1]?=some (.cells #[(some (k,0),x.i,x.i),(some (m,0),x.l,x.l),(some (o,0),x.g,x.g)] 38 (0,0)):=by rw[M];exact MT (MS (MR R3))
 have HF:Below w w F:=by rw[M];exact((H3.setCell (by show w.heap.size<=w.heap.size+1;omega) _).setCell (by show w.heap.size<=w.heap.size+1;omega) _).setCell (by show w.heap.size<=w.heap.size+1;omega) _
 have u:F.heap.size=t.heap.size:=by rw[M,World.size_setCell,World.size_setCell,World.size_setCell]
 rw[← M];clear M;obtain⟨z0,z1,z2⟩:=ZE RF;have N0:=(l.kept d (λb h=>by left;omega)).wide (lo':=w.heap.size) (hi':=K.heap.size) oM oM
 have N1:=(q.kept d (λb h=>by left;omega)).wide (lo':=K.heap.size) (hi':=L.heap.size) oM oM
 have N2:=(O.kept d (λb h=>by left;omega)).wide (lo':=L.heap.size) (hi':=F.heap.size) oM oM
 exact Jj (v:=.agg #[.slice _ _ _,.slice _ _ _,.slice _ _ _]) (by simp[results,results9,go_sem,z0,z1,z2]) rfl ⟨_,rfl,⟨_,_,k,ls,cc,m,C,o,E,rfl,⟨by omega,by omega,by omega⟩,N0,N1,N2⟩,HF⟩
theorem BV (cs D:List Value)(x:zY)(w:World)(J:zY.Short x 1048576)(h:zY.Is w cs x)(I:zY.Is w D x) :
  Calls prog 12 #[.agg cs.toArray,.agg D.toArray] w λe w'=>e=.returned (.bool true)/\Below w w w':=by
 obtain⟨i,o,g,n,d,l,rfl,h1,N,h2,O,h3,P⟩:=h;obtain⟨j,p,f,m,c,k,rfl,K,u1,L,u2,M,u3⟩:=I;obtain⟨⟨F,Q⟩,⟨G,R⟩,⟨H,S⟩⟩:=J;clear N O P u1 u2 u3;have b:Below _ w ((w.alloc (.cells #[(i,x.i,o),(g,x.l,n),(d,x.g,l)] 38)).alloc (.cells #[(j,x.i,p),(f,x.l,m),(c,x.g,k)] 38)):=zd (zd bZ _) _;have s:=Cs b;have y:=Dt b;go_enter func12,ntmps12;go_wp2_with fail;generalize (w.alloc _).alloc _=v at b s y ⊢;refine bM (IW i j _ o p _ _ F Q (h1.j0 b) (K.j0 b)) λv0 a=>?_
 have t:=za s a;have z:=za y a;have q:=zb b a;clear s y b a;have B:=bC t 1;have C:=bC z 1;go_wp2_with fail;clear B C;refine bM (NH g f _ n m _ _ G R (h2.j0 q) (L.j0 q)) λv1 a=>?_
 have u:=za t a;have A:=za z a;have r:=zb q a;clear t z q a;have B:=bC u 2;have C:=bC A 2;go_wp2_with fail;clear B C;refine bM (IY d c _ l k _ _ H S (h3.j0 r) (M.j0 r)) λv2 a=>?_
 have A3:=za u a;have B3:=za A a;have E:=zb r a;clear u A r a;go_wp2;go_ret;exact⟨rfl,E⟩
def Zx (r k:Nat):Nat:=if k<=r then k else k - 1
theorem TN (s:ql)(d:Nat)(q:Int)(w:World)(c:w.cell? (d,2)=some (int i64 q)) :
  Calls prog 277 #[.agg #[s.e,s.ln,s.f,s.j],.pointer (some (d,0))] w λe w'=>e=.returned (.bool (s.e != q))/\Below w w w':=by
 have a:Below _ w (w.alloc (.cells #[s.e,s.ln,s.f,s.j] 220)):=zd bZ _;have b:=Qc a;have c2:=(a.cell (Ja w _ c)).trans c;go_enter func277,ntmps277;go_upto_region 1 with fail;generalize w.alloc _=V at a b c2 ⊢;have c0:=bC b 0;go_wp2;go_ret;exact⟨rfl,a⟩
theorem TO (N:Option Addr)(n c:Nat)(S:Nat->ql)(q:Int)(r K:Nat)(w:World)(hn:n<=1048576)(hr:r<n)(U:(S r).e=q)(l:∀ j,j<n->(S j).e=q->j=r)(Y:qx w N n S)(T:w.cell? (K,2)=some (int i64 q)) :
  Calls prog 276 #[(N,n,c),.func (.func 277) #[] #[.pointer (some (K,0))]] w λe w'=>(∃ v,e=.returned v/\w'.ownsRow w 220 4 v (n - 1) (zH (ZN S r) (n - 1)))/\Below w w w':=by
 obtain⟨j0,ji,H,I,J⟩:=info_parts Tryz.infoStay;have HX:=hI Y;have L:=hI T;have HE:=hI U;have HO:=hI l;clear Y T U l;go_enter func276,ntmps276;go_wp2;go_loopw [5,7,10] (λs5 _ i wr=>∃ k,k<=n/\i=int i64 k/\wr.ownsRow w 220 4 s5 (Zx r k) (zH (ZN S r) (Zx r k))/\Below w w wr) (λ_ _ i _=>n - (intOf i).toNat)
 case atStart=>exact⟨0,Jq _,rfl,World.ownsRow_nil _ _ _ _,bZ⟩
 case round =>
  obtain⟨k,hk,rfl,A,d⟩:=hrel
  by_cases hlt:k<n
  ·obtain⟨b,of,rfl,z,h1,h2,h3⟩:=HX k hlt
   obtain⟨s,t⟩:=nM (S k);rw[← t] at z h1 h2 h3;have p:=hI t;have lb:=Ja w _ z;obtain⟨c0,c1,c2,c3⟩:=OP d z h1 h2 h3 lb;have a:=zd d (.cells #[s.e,s.ln,s.f,s.j] 220);have x:=Jb wr (.cells #[s.e,s.ln,s.f,s.j] 220);have f:=A.alloc (.cells #[s.e,s.ln,s.f,s.j] 220);clear z h1 h2 h3 t A;go_upto_region 5 with fail;generalize wr.alloc _=V at a x f ⊢;generalize wr.heap.size=sx at x ⊢;clear c0 c1 c2 c3 d wr;obtain⟨O,P,Q,R⟩:=Qk x;go_wp2_with fail;clear O P Q R;refine bM (TN s K q V ((a.cell (Ja w _ L)).trans L)) λW g=>?_
   replace a:=zb a g;replace x:=za x g;replace f:=zm g f;clear g V
   by_cases hkr:k=r
   ·have o:Hid (Zx r (k+1)=Zx r k):=by show _=_;unfold Zx;rw[Je oM,Jf oM];omega
    have hq:(s.e != q)=false:=by rw[p.out,hkr,HE.out];simp
    go_wp2;go_roundw
    case rel=>exact⟨k+1,by omega,by go_num,by rw[o.out];exact f,a⟩
    case measure=>simp[intOf];omega
   ·have o:Hid (Zx r (k+1)=Zx r k+1/\(ZN S r) (Zx r k)=s):=by
     rw[p.out];unfold Zx ZN
     by_cases h:k<=r
     ·rw[Jf oM,Jf h,Jf oM];exact⟨rfl,rfl⟩
     ·rw[Je oM,Je h,Je oM];exact⟨by omega,by rw[show k - 1+1=k by omega]⟩
    have hq:(s.e != q)=true:=by rw[p.out];simp;exact λh=>hkr (HO k hlt h)
    obtain⟨M,E⟩:=nM (Zx r k);have a0:M<=n:=by rw[E];unfold Zx;split <;> omega
    rw[← E] at f o;clear E;obtain⟨O,P,Q,R⟩:=Qk x;have y:=f.alloc (.cells #[s.e,s.ln,s.f,s.j] 220);have B:Hid (∀ j u,([_,_,_,_]:List Value)[j]?=_->(W.alloc (.cells #[s.e,s.ln,s.f,s.j] 220)).cell? _=_):=Jo (Jb W _);have m:w.heap.size<=(W.alloc (.cells #[s.e,s.ln,s.f,s.j] 220)).heap.size:=(zd a _).size;go_wp2_with (first|(at_builtin;refine wpList_append_lies _ rfl _ _ 141 rfl _ 220 j0 _ 4 32 underlying141 ji H I J rfl dC _ _ _ (by rfl) y _ 1 1 _ rfl rfl B (by intro u X;simp at X;rcases X with rfl|rfl|rfl|rfl <;> rfl) dC (by unfold maxLen;omega) oM m _ rfl ?_;intro g3 D Z G F _ _))
    have C:Hid (Z.ownsRow w 220 4 (some (g3,0),M+1,D) (Zx r (k+1)) (zH (ZN S r) (Zx r (k+1)))):=by
     show Z.ownsRow _ _ _ _ _ _
     rw[o.1,AN,o.2];exact G
    go_roundw
    case rel=>exact⟨_,by omega,by go_num,C,(zd a _).grown F m (λj hj=>(y.lt j hj).1)⟩
    case measure=>simp[intOf];omega
  ·obtain rfl:k=n:=by omega
   have o:Hid (Zx r k=_):=Je oM;rw[o.out] at A;go_wp2;go_ret;exact⟨⟨_,rfl,A⟩,d⟩
theorem TP (s:zU)(d:Nat)(q:Int)(w:World)(c:w.cell? (d,2)=some (int i64 q)) :
  Calls prog 279 #[.agg #[s.e,s.H,s.z,s.h],.pointer (some (d,0))] w λe w'=>e=.returned (.bool (s.e != q))/\Below w w w':=by
 have a:Below _ w (w.alloc (.cells #[s.e,s.H,s.z,s.h] 228)):=zd bZ _;have b:=Qc a;have c2:=(a.cell (Ja w _ c)).trans c;go_enter func279,ntmps279;go_upto_region 1 with fail;generalize w.alloc _=V at a b c2 ⊢;have c0:=bC b 0;go_wp2;go_ret;exact⟨rfl,a⟩
theorem TQ (N:Option Addr)(n c:Nat)(S:Nat->zU)(q:Int)(r K:Nat)(w:World)(hn:n<=1048576)(hr:r<n)(U:(S r).e=q)(l:∀ j,j<n->(S j).e=q->j=r)(Y:qn w N n S)(T:w.cell? (K,2)=some (int i64 q)) :
  Calls prog 278 #[(N,n,c),.func (.func 279) #[] #[.pointer (some (K,0))]] w λe w'=>(∃ v,e=.returned v/\w'.ownsRow w 228 4 v (n - 1) (zF (ZG S r) (n - 1)))/\Below w w w':=by
 obtain⟨j0,ji,H,I,J⟩:=info_parts Tryz.infoRoom;have HX:=hI Y;have L:=hI T;have HE:=hI U;have HO:=hI l;clear Y T U l;go_enter func278,ntmps278;go_wp2;go_loopw [5,7,10] (λs5 _ i wr=>∃ k,k<=n/\i=int i64 k/\wr.ownsRow w 228 4 s5 (Zx r k) (zF (ZG S r) (Zx r k))/\Below w w wr) (λ_ _ i _=>n - (intOf i).toNat)
 case atStart=>exact⟨0,Jq _,rfl,World.ownsRow_nil _ _ _ _,bZ⟩
 case round =>
  obtain⟨k,hk,rfl,A,d⟩:=hrel
  by_cases hlt:k<n
  ·obtain⟨b,of,rfl,z,h1,h2,h3⟩:=HX k hlt
   obtain⟨s,t⟩:=nM (S k);rw[← t] at z h1 h2 h3;have p:=hI t;have lb:=Ja w _ z;obtain⟨c0,c1,c2,c3⟩:=OP d z h1 h2 h3 lb;have a:=zd d (.cells #[s.e,s.H,s.z,s.h] 228);have x:=Jb wr (.cells #[s.e,s.H,s.z,s.h] 228);have f:=A.alloc (.cells #[s.e,s.H,s.z,s.h] 228);clear z h1 h2 h3 t A;go_upto_region 5 with fail;generalize wr.alloc _=V at a x f ⊢;generalize wr.heap.size=sx at x ⊢;clear c0 c1 c2 c3 d wr;obtain⟨O,P,Q,R⟩:=Qk x;go_wp2_with fail;clear O P Q R;refine bM (TP s K q V ((a.cell (Ja w _ L)).trans L)) λW g=>?_
   replace a:=zb a g;replace x:=za x g;replace f:=zm g f;clear g V
   by_cases hkr:k=r
   ·have o:Hid (Zx r (k+1)=Zx r k):=by show _=_;unfold Zx;rw[Je oM,Jf oM];omega
    have hq:(s.e != q)=false:=by rw[p.out,hkr,HE.out];simp
    go_wp2;go_roundw
    case rel=>exact⟨k+1,by omega,by go_num,by rw[o.out];exact f,a⟩
    case measure=>simp[intOf];omega
   ·have o:Hid (Zx r (k+1)=Zx r k+1/\(ZG S r) (Zx r k)=s):=by
     rw[p.out];unfold Zx ZG
     by_cases h:k<=r
     ·rw[Jf oM,Jf h,Jf oM];exact⟨rfl,rfl⟩
     ·rw[Je oM,Je h,Je oM];exact⟨by omega,by rw[show k - 1+1=k by omega]⟩
    have hq:(s.e != q)=true:=by rw[p.out];simp;exact λh=>hkr (HO k hlt h)
    obtain⟨M,E⟩:=nM (Zx r k);have a0:M<=n:=by rw[E];unfold Zx;split <;> omega
    rw[← E] at f o;clear E;obtain⟨O,P,Q,R⟩:=Qk x;have y:=f.alloc (.cells #[s.e,s.H,s.z,s.h] 228);have B:Hid (∀ j u,([_,_,_,_]:List Value)[j]?=_->(W.alloc (.cells #[s.e,s.H,s.z,s.h] 228)).cell? _=_):=Jo (Jb W _);have m:w.heap.size<=(W.alloc (.cells #[s.e,s.H,s.z,s.h] 228)).heap.size:=(zd a _).size;go_wp2_with (first|(at_builtin;refine wpList_append_lies _ rfl _ _ 142 rfl _ 228 j0 _ 4 32 underlying142 ji H I J rfl dC _ _ _ (by rfl) y _ 1 1 _ rfl rfl B (by intro u X;simp at X;rcases X with rfl|rfl|rfl|rfl <;> rfl) dC (by unfold maxLen;omega) oM m _ rfl ?_;intro g3 D Z G F _ _))
    have C:Hid (Z.ownsRow w 228 4 (some (g3,0),M+1,D) (Zx r (k+1)) (zF (ZG S r) (Zx r (k+1)))):=by
     show Z.ownsRow _ _ _ _ _ _
     rw[o.1,Aq,o.2];exact G
    go_roundw
    case rel=>exact⟨_,by omega,by go_num,C,(zd a _).grown F m (λj hj=>(y.lt j hj).1)⟩
    case measure=>simp[intOf];omega
  ·obtain rfl:k=n:=by omega
   have o:Hid (Zx r k=_):=Je oM;rw[o.out] at A;go_wp2;go_ret;exact⟨⟨_,rfl,A⟩,d⟩
theorem TR (s:qO)(d:Nat)(q:Int)(w:World)(c:w.cell? (d,2)=some (int i64 q)) :
  Calls prog 281 #[.agg #[s.e,s.z],.pointer (some (d,0))] w λe w'=>e=.returned (.bool (s.e != q))/\Below w w w':=by
 have a:Below _ w (w.alloc (.cells #[s.e,s.z] 234)):=zd bZ _;have b:=Qc a;have c2:=(a.cell (Ja w _ c)).trans c;go_enter func281,ntmps281;go_upto_region 1 with fail;generalize w.alloc _=V at a b c2 ⊢;have c0:=bC b 0;go_wp2;go_ret;exact⟨rfl,a⟩
theorem TS (N:Option Addr)(n c:Nat)(S:Nat->qO)(q:Int)(r K:Nat)(w:World)(hn:n<=1048576)(hr:r<n)(R:(S r).e=q)(m:∀ j,j<n->(S j).e=q->j=r)(U:qC w N n S)(Q:w.cell? (K,2)=some (int i64 q)) :
  Calls prog 280 #[(N,n,c),.func (.func 281) #[] #[.pointer (some (K,0))]] w λe w'=>(∃ v,e=.returned v/\w'.ownsRow w 234 2 v (n - 1) (zL (ZG S r) (n - 1)))/\Below w w w':=by
 obtain⟨j0,ji,H,I,J⟩:=info_parts Tryz.infoSeat;have HX:=hI U;have L:=hI Q;have Z:=hI R;have HO:=hI m;clear U Q R m;go_enter func280,ntmps280;go_wp2;go_loopw [5,7,10] (λs5 _ i wr=>∃ k,k<=n/\i=int i64 k/\wr.ownsRow w 234 2 s5 (Zx r k) (zL (ZG S r) (Zx r k))/\Below w w wr) (λ_ _ i _=>n - (intOf i).toNat)
 case atStart=>exact⟨0,Jq _,rfl,World.ownsRow_nil _ _ _ _,bZ⟩
 case round =>
  obtain⟨k,hk,rfl,A,a⟩:=hrel
  by_cases hlt:k<n
  ·obtain⟨b,of,rfl,z,h1⟩:=HX k hlt
   obtain⟨s,x⟩:=nM (S k);rw[← x] at z h1;have t:=hI x;have X:=Ja w _ z;have c0:=tR a z X;have c1:=tR a h1 X;have d:=zd a (.cells #[s.e,s.z] 234);have l:=Jb wr (.cells #[s.e,s.z] 234);have f:=A.alloc (.cells #[s.e,s.z] 234);clear z h1 x A;go_upto_region 5 with fail;generalize wr.alloc _=V at d l f ⊢;generalize wr.heap.size=sx at l ⊢;clear c0 c1 a wr;have O:=bC l 0;have P:=bC l 1;go_wp2_with fail;clear O P;refine bM (TR s K q V ((d.cell (Ja w _ L)).trans L)) λW g=>?_
   replace d:=zb d g;replace l:=za l g;replace f:=zm g f;clear g V
   by_cases hkr:k=r
   ·have p:Hid (Zx r (k+1)=Zx r k):=by show _=_;unfold Zx;rw[Je oM,Jf oM];omega
    have hq:(s.e != q)=false:=by rw[t.out,hkr,Z.out];simp
    go_wp2;go_roundw
    case rel=>exact⟨k+1,by omega,by go_num,by rw[p.out];exact f,d⟩
    case measure=>simp[intOf];omega
   ·have p:Hid (Zx r (k+1)=Zx r k+1/\(ZG S r) (Zx r k)=s):=by
     rw[t.out];unfold Zx ZG
     by_cases h:k<=r
     ·rw[Jf oM,Jf h,Jf oM];exact⟨rfl,rfl⟩
     ·rw[Je oM,Je h,Je oM];exact⟨by omega,by rw[show k - 1+1=k by omega]⟩
    have hq:(s.e != q)=true:=by rw[t.out];simp;exact λh=>hkr (HO k hlt h)
    obtain⟨M,E⟩:=nM (Zx r k);have a0:M<=n:=by rw[E];unfold Zx;split <;> omega
    rw[← E] at f p;clear E;have O:=bC l 0;have P:=bC l 1;have y:=f.alloc (.cells #[s.e,s.z] 234);have B:Hid (∀ j u,([_,_]:List Value)[j]?=_->(W.alloc (.cells #[s.e,s.z] 234)).cell? _=_):=Jo (Jb W _);have o:w.heap.size<=(W.alloc (.cells #[s.e,s.z] 234)).heap.size:=(zd d _).size;go_wp2_with (first|(at_builtin;refine wpList_append_lies _ rfl _ _ 143 rfl _ 234 j0 _ 2 16 underlying143 ji H I J rfl dC _ _ _ (by rfl) y _ 1 1 _ rfl rfl B (by intro u T;simp at T;rcases T with rfl|rfl <;> rfl) dC (by unfold maxLen;omega) oM o _ rfl ?_;intro g3 D Y G F _ _))
    have C:Hid (Y.ownsRow w 234 2 (some (g3,0),M+1,D) (Zx r (k+1)) (zL (ZG S r) (Zx r (k+1)))):=by
     show Y.ownsRow _ _ _ _ _ _
     rw[p.1,AO,p.2];exact G
    go_roundw
    case rel=>exact⟨_,by omega,by go_num,C,(zd d _).grown F o (λj hj=>(y.lt j hj).1)⟩
    case measure=>simp[intOf];omega
  ·obtain rfl:k=n:=by omega
   have p:Hid (Zx r k=_):=Je oM;rw[p.out] at A;go_wp2;go_ret;exact⟨⟨_,rfl,A⟩,a⟩
section
open Go.RowKit Classical
def As (S:Nat->ql)(q:Int):Nat->Int
 |0=>-1
 |n+1=>if (S n).e=q then (S n).ln else As S q n
def QT (S:Nat->zU)(q:Int):Nat->Int
 |0=>-1
 |n+1=>if (S n).e=q then (S n).H else QT S q n
def IM (l:zw)(b:zA):Ao:=⟨b.k,b.j1,b.v,As l.K b.e l.r,QT l.I b.e l.m⟩
def jt (b:zA)(z:Int):Prop:=CB b/\Sa b z
noncomputable def ZU (l:zw)(S:Nat->zA)(z:Int):Nat->List Ao
 |0=>[]
 |n+1=>if jt (S n) z then ZU l S z n++[IM l (S n)] else ZU l S z n
theorem FF {l:zw}{S:Nat->zA}{z:Int}{n:Nat}(h:jt (S n) z):ZU l S z (n+1)=ZU l S z n++[IM l (S n)]:=by rw[ZU,Jf h]
theorem Ed {l:zw}{S:Nat->zA}{z:Int}{n:Nat}(h:¬ jt (S n) z):ZU l S z (n+1)=ZU l S z n:=by rw[ZU,Je h]
theorem PS (l:zw)(S:Nat->zA)(z:Int)(n:Nat):(ZU l S z n).length<=n:=by
 induction n with
 |zero=>exact Jr _
 |succ n ih =>
  by_cases h:jt (S n) z
  ·rw[FF h,List.length_append];simp;omega
  ·rw[Ed h];omega
def BS (l:List Ao)(j:Nat):Ao:=l.getD j Ao.zero
theorem Ot (l:List Ao)(r:Ao):Zh (BS (l++[r])) (l.length+1)=Zh (BS l) l.length++[int i64 r.k,.string r.j1,int i64 r.v,int i64 r.ln,int i64 r.H]:=by
 rw[BE];have a:BS (l++[r]) l.length=r:=by simp[BS]
 have b:Zh (BS (l++[r])) _=Zh (BS l) _:=DO (λi c=>by unfold BS;rw[List.getD_eq_getElem?_getD,List.getD_eq_getElem?_getD,List.getElem?_append_left c])
 rw[a,b]
end
theorem Tryz.infoRow:(Tryz.prog.info? 203).map (λi=>(i.zero,i.size,i.bytes))=some (some (.agg #[int i64 0,.string ⟨#[]⟩,int i64 0,int i64 0,int i64 0]),5,48):=kR
theorem QU (x:Int)(w:World) :
  Calls prog 232 #[x] w λe w'=>e=.returned (.bool (decide (In x 1 99)))/\w'=w:=by
 go_enter func232,ntmps232;go_wp2_with (first|(go_at_call 191;refine(zx _ _ _ _).mono ?_;rintro e w' ⟨rfl,rfl⟩))
 go_ret;exact⟨rfl,rfl⟩
theorem Qa (a b:ByteArray)(w:World)(i:a.size<=1000000000000000)(k:b.size<=1000000000000000) :
  Calls prog 233 #[a,b] w λe w'=>e=.returned (.bool (decide (Ek a b)))/\w'=w:=by
 obtain⟨c,j⟩:=nM (decide (Ek a b));rw[← j];have g:=hI j;clear j
 by_cases n1:Z7 a
 ·have l:=Jd n1
  by_cases n2:Z7 b
  ·have m:=Jd n2
   by_cases n3:a=b
   ·subst n3
    have n:(a.toList == a.toList)=true:=Fa.2 rfl;have f:Hid (¬ Ek a a):=λh=>h.2.2 rfl
    clear n1 n2;go_enter func233,ntmps233;go_wp2_with (first|(go_at_call 239;refine bM (Zk _ _ i) λw' d=>?_;have d:=d.symm;subst d))
    go_ret;exact⟨by rw[g.out,Jc f.out];rfl,rfl⟩
   ·have n:=Gu.2 n3
    have f:Hid (Ek a b):=⟨n1,n2,n3⟩;clear n1 n2 n3;go_enter func233,ntmps233;go_wp2_with fail;refine bM (Zk _ _ i) λw' d=>?_
    have d:=d.symm;subst d;go_wp2_with fail;refine bM (Zk _ _ k) λw' d=>?_
    have d:=d.symm;subst d;go_wp2;go_ret;exact⟨by rw[g.out,Jd f.out];rfl,rfl⟩
  ·have m:=Jc n2
   have f:Hid (¬ Ek a b):=λh=>n2 h.2.1
   clear n1 n2;go_enter func233,ntmps233;go_wp2_with fail;refine bM (Zk _ _ i) λw' d=>?_
   have d:=d.symm;subst d;go_wp2_with fail;refine bM (Zk _ _ k) λw' d=>?_
   have d:=d.symm;subst d;go_wp2;go_ret;exact⟨by rw[g.out,Jc f.out];rfl,rfl⟩
 ·have l:=Jc n1
  have f:Hid (¬ Ek a b):=λh=>n1 h.1
  clear n1;go_enter func233,ntmps233;go_wp2_with fail;refine bM (Zk _ _ i) λw' d=>?_
  have d:=d.symm;subst d;go_wp2;go_ret;exact⟨by rw[g.out,Jc f.out];rfl,rfl⟩

theorem AZ (x d a mo:Int)(fr tt:ByteArray)(lo s:Option Addr)(n m c1 c2:Nat)(k l:zv)(w:World)(F:k.n=n)(G:l.n=m)(f:fr.size<=1000000000000000)(g:tt.size<=1000000000000000)(O:n<=1048576)(N:m<=1048576)(P:zJ w lo k)(Q:zJ w s l) :
  Calls prog 177 #[.agg #[x,fr,tt,d,a,(lo,n,c1),(s,m,c2),mo]] w λe w'=>qH (Ql ⟨x,fr,tt,d,a,k,l,mo⟩) e/\Below w w w':=by
 have c:Below _ w (w.alloc (.cells #[x,fr,tt,d,a,(lo,n,c1),(s,m,c2),mo] 140)):=zd bZ _;have C:=Jb w (.cells #[x,fr,tt,d,a,(lo,n,c1),(s,m,c2),mo] 140);have I:=hI F;have J:=hI G;clear F G
 by_cases g1:In x 1 99
 case neg =>
  have v:=by exact Jc g1
  have i:Hid (¬ Ql ⟨x,fr,tt,d,a,k,l,mo⟩):=λh=>g1 h.1
  clear g1;go_enter func177,ntmps177;go_wp2_with (first|(go_at_call 232;refine bM (QU _ _) λw' b=>?_;have b:=b.symm;subst b)|(go_at_call 233;refine bM (Qa _ _ _ f g) λw' b=>?_;have b:=b.symm;subst b)|(go_at_call 191;refine bM (zx _ _ _ _) λw' b=>?_;have b:=b.symm;subst b))
  go_ret;exact⟨zh i,c⟩
 have v:=by exact Jd g1
 by_cases g2:Ek fr tt
 case neg =>
  have y:=by exact Jc g2
  have i:Hid (¬ Ql ⟨x,fr,tt,d,a,k,l,mo⟩):=λh=>g2 ⟨h.2.1,h.2.2.1,h.2.2.2.1⟩
  clear g1 g2;go_enter func177,ntmps177;go_wp2_with (first|(go_at_call 232;refine bM (QU _ _) λw' b=>?_;have b:=b.symm;subst b)|(go_at_call 233;refine bM (Qa _ _ _ f g) λw' b=>?_;have b:=b.symm;subst b)|(go_at_call 191;refine bM (zx _ _ _ _) λw' b=>?_;have b:=b.symm;subst b))
  go_ret;exact⟨zh i,c⟩
 have y:=by exact Jd g2
 by_cases g3:0<=d
 case neg =>
  have z:decide (0<=d)=false:=by simpa using g3
  have i:Hid (¬ Ql ⟨x,fr,tt,d,a,k,l,mo⟩):=λh=>g3 h.2.2.2.2.1
  clear g1 g2 g3;go_enter func177,ntmps177;go_wp2_with (first|(go_at_call 232;refine bM (QU _ _) λw' b=>?_;have b:=b.symm;subst b)|(go_at_call 233;refine bM (Qa _ _ _ f g) λw' b=>?_;have b:=b.symm;subst b)|(go_at_call 191;refine bM (zx _ _ _ _) λw' b=>?_;have b:=b.symm;subst b))
  go_ret;exact⟨zh i,c⟩
 have z:decide (0<=d)=true:=by simpa using g3
 by_cases g4:d<a
 case neg =>
  have A:decide (d<a)=false:=by simpa using g4
  have i:Hid (¬ Ql ⟨x,fr,tt,d,a,k,l,mo⟩):=λh=>g4 h.2.2.2.2.2.1
  clear g1 g2 g3 g4;go_enter func177,ntmps177;go_wp2_with (first|(go_at_call 232;refine bM (QU _ _) λw' b=>?_;have b:=b.symm;subst b)|(go_at_call 233;refine bM (Qa _ _ _ f g) λw' b=>?_;have b:=b.symm;subst b)|(go_at_call 191;refine bM (zx _ _ _ _) λw' b=>?_;have b:=b.symm;subst b))
  go_ret;exact⟨zh i,c⟩
 have A:decide (d<a)=true:=by simpa using g4
 by_cases g5:a<=10000
 case neg =>
  have B:decide (a<=10000)=false:=by simpa using g5
  have i:Hid (¬ Ql ⟨x,fr,tt,d,a,k,l,mo⟩):=λh=>g5 h.2.2.2.2.2.2.1
  clear g1 g2 g3 g4 g5;go_enter func177,ntmps177;go_wp2_with (first|(go_at_call 232;refine bM (QU _ _) λw' b=>?_;have b:=b.symm;subst b)|(go_at_call 233;refine bM (Qa _ _ _ f g) λw' b=>?_;have b:=b.symm;subst b)|(go_at_call 191;refine bM (zx _ _ _ _) λw' b=>?_;have b:=b.symm;subst b))
  go_ret;exact⟨zh i,c⟩
 have B:decide (a<=10000)=true:=by simpa using g5
 have o:Hid (_/\_/\_/\_/\_):=⟨g1,g2,g3,g4,g5⟩;clear g1 g2 g3 g4 g5;go_enter func177,ntmps177;go_wp2_with (first|(go_at_call 232;refine bM (QU _ _) λw' b=>?_;have b:=b.symm;subst b)|(go_at_call 233;refine bM (Qa _ _ _ f g) λw' b=>?_;have b:=b.symm;subst b)|(go_at_call 191;refine bM (zx _ _ _ _) λw' b=>?_;have b:=b.symm;subst b))
 refine(FR lo n c1 k _ I O (P.j0 c)).mono ?_;rintro e w1 ⟨⟨K,rfl,i1⟩,p⟩;have t:=za C p;have j:=zb c p;have D:=hI i1;clear i1 C c p
 cases K with
 |false =>
  go_wp2;go_ret;exact⟨zh (λh=>by have:=D.2 h.2.2.2.2.2.2.2.1;cases this),j⟩
 |true =>
  have R:=bC t 6;go_wp2_with fail;refine(Fj s m c2 l _ J N (Q.j0 j)).mono ?_;rintro e w2 ⟨⟨L,rfl,i2⟩,q⟩;have H:=za t q;have r:=zb j q;have E:=hI i2;clear i2 t j q R
  cases L with
  |false =>
   go_wp2;go_ret;exact⟨zh (λh=>by have:=E.2 h.2.2.2.2.2.2.2.2.1;cases this),r⟩
  |true =>
   have q7:=bC H 7
   by_cases g8:In mo 0 500
   ·have M:=Jd g8
    have u:=hI g8;clear g8;go_wp2_with (first|(go_at_call 232;refine bM (QU _ _) λw' b=>?_;have b:=b.symm;subst b)|(go_at_call 233;refine bM (Qa _ _ _ f g) λw' b=>?_;have b:=b.symm;subst b)|(go_at_call 191;refine bM (zx _ _ _ _) λw' b=>?_;have b:=b.symm;subst b))
    go_ret;exact⟨zN ⟨o.1,o.2.1.1,o.2.1.2.1,o.2.1.2.2,o.2.2.1,o.2.2.2.1,o.2.2.2.2,D.1 sM,E.1 sM,u⟩,r⟩
   ·have M:=Jc g8
    have u:=hI g8;clear g8;go_wp2_with (first|(go_at_call 232;refine bM (QU _ _) λw' b=>?_;have b:=b.symm;subst b)|(go_at_call 233;refine bM (Qa _ _ _ f g) λw' b=>?_;have b:=b.symm;subst b)|(go_at_call 191;refine bM (zx _ _ _ _) λw' b=>?_;have b:=b.symm;subst b))
    go_ret;exact⟨zh (λh=>u h.2.2.2.2.2.2.2.2.2),r⟩
theorem IR (B:Option Addr)(N c:Nat)(S:Nat->qe)(w:World)(hN:N<=1048576)(O:Qz N S 1048576)(Q:qy w B N S) :
  Calls prog 97 #[(B,N,c)] w λe w'=>qH (At N S) e/\Below w w w':=by
 have U:=hI O;clear O
 by_cases h6:N<=6
 ·have I:decide (6<N)=false:=by simp;omega
  go_enter func97,ntmps97;go_wp2;go_loopw [3,4,10] (λ_ _ i wr=>∃ k,k<=N/\i=int i64 k/\(∀ j,j<k->Ql (S j)/\(0<j->(S (j - 1)).S<(S j).S))/\Below w w wr) (λ_ _ i _=>N - (intOf i).toNat)
  case atStart=>exact⟨0,Jq _,rfl,λj Z=>by omega,bZ⟩
  case round =>
   obtain⟨k,hk,rfl,p,l⟩:=hrel;have F:=hI p;clear p I
   by_cases hlt:k<N
   ·have G:Hid (0<k->∀ b off,B=some ⟨b,off,none⟩->w.cell? ⟨b,off+(k - 1)*8,none⟩=some (int i64 (S (k - 1)).S)):=by
     intro h b off e;obtain⟨b',T,_,_,_,_,C,g,_⟩:=Q (k - 1) oM;rw[e] at C;simp only[Option.some.injEq,Addr.mk.injEq,and_true] at C;obtain⟨rfl,rfl⟩:=C;exact g
    obtain⟨b,off,la,R,ca,H,rfl,J,h1,h2,h3,K,L,s,M,h8,h9,_,_⟩:=Q k hlt;have z:=hI (λh=>G h b off rfl)
    clear G;have D:=Ja w _ h1;obtain⟨V,c1,c2,c3,c4,c5,c6,c7⟩:=OR l J h1 h2 h3 K L s M D;obtain⟨s1,s2,u,x⟩:=U k hlt;have m:(S k).U.size<=1000000000000000:=oM;have n:(S k).dst.size<=1000000000000000:=oM;clear s1 s2;have d:=zd l (.cells (S k,la,R,ca,H) 140);have a:=Jb wr (.cells (S k,la,R,ca,H) 140);clear J h1 h2 h3 K L s M;go_upto_region 6 with fail;generalize hW:wr.alloc _=W at d a ⊢;clear hW;have a4:=zD a;have z0:=gC a 0;have z1:=gC a 1;have z2:=gC a 2;have z3:=gC a 3;have z4:=gC a 4;have z5:=gC a 5;have z6:=gC a 6;have z7:=gC a 7;have Y:b<W.heap.size:=Nat.lt_of_lt_of_le D d.size;clear V c1 c2 c3 c4 c5 c6 c7 a;go_cut [10,32] (λi c wx=>i=int i64 k/\Kr (Ql (S k)/\(0<k->(S (k - 1)).S<(S k).S)) c/\Below w w wx)
    case first =>
     by_cases hg:Ql (S k)
     ·have o:=hI hg
      clear hg
      by_cases k0:k=0
      ·subst k0
       refine ze kR kR ?_
       repeat(go_big_quiet_step ((rename_i g;go_at_call 177;refine zr (v:=.bool true) ((AZ _ _ _ _ _ _ _ _ _ _ _ _ _ _ _ rfl rfl m n u x (h8.j0 (zb d g.o)) (h9.j0 (zb d g.o))).mono ?_);rintro e E ⟨⟨bb,rfl,r⟩,f⟩;obtain rfl:=r.2 o;exact⟨rfl,f⟩)))
       refine Jl ?_;rintro _ ⟨g,rfl⟩;go_wp2;go_meet;exact⟨rfl,Ag ⟨o,λh=>by omega⟩,zb d g.o⟩
      ·have d0:decide (0<k)=true:=by simp;omega
       have a0:((k:Int) - 1).toNat=k - 1:=oM;have a1:(k:Int) - 1<(N:Int):=oM;have a2:(0:Int)<=(k:Int) - 1:=oM;have a3:IntKind.i64.wrap ((k:Int) - 1)=(k:Int) - 1:=by rw[Jk];omega
       have y0:=gW d (z oM) D
       by_cases hle:(S k).S<=(S (k - 1)).S
       ·have X:decide ((S k).S<=(S (k - 1)).S)=true:=by simpa using hle
        refine ze kR kR ?_
        repeat(go_big_quiet_step ((rename_i g;go_at_call 177;refine zr (v:=.bool true) ((AZ _ _ _ _ _ _ _ _ _ _ _ _ _ _ _ rfl rfl m n u x (h8.j0 (zb d g.o)) (h9.j0 (zb d g.o))).mono ?_);rintro e E ⟨⟨bb,rfl,r⟩,f⟩;obtain rfl:=r.2 o;exact⟨rfl,f⟩)))
        refine Jl ?_;rintro _ ⟨g,rfl⟩;go_wp2;go_meet;exact⟨rfl,Q4 (λh=>by have:=h.2 oM;omega),zb d g.o⟩
       ·have X:decide ((S k).S<=(S (k - 1)).S)=false:=by simpa using hle
        refine ze kR kR ?_
        repeat(go_big_quiet_step ((rename_i g;go_at_call 177;refine zr (v:=.bool true) ((AZ _ _ _ _ _ _ _ _ _ _ _ _ _ _ _ rfl rfl m n u x (h8.j0 (zb d g.o)) (h9.j0 (zb d g.o))).mono ?_);rintro e E ⟨⟨bb,rfl,r⟩,f⟩;obtain rfl:=r.2 o;exact⟨rfl,f⟩)))
        refine Jl ?_;rintro _ ⟨g,rfl⟩;go_wp2;go_meet;exact⟨rfl,Ag ⟨o,λ_=>by omega⟩,zb d g.o⟩
     ·have o:=hI hg
      clear hg;refine ze kR kR ?_
      repeat(go_big_quiet_step ((rename_i g;go_at_call 177;refine zr (v:=.bool false) ((AZ _ _ _ _ _ _ _ _ _ _ _ _ _ _ _ rfl rfl m n u x (h8.j0 (zb d g.o)) (h9.j0 (zb d g.o))).mono ?_);rintro e E ⟨⟨bb,rfl,r⟩,f⟩;obtain rfl:=Bool.eq_false_iff.2 (λe=>o (r.1 e));exact⟨rfl,f⟩)))
      refine Jl ?_;rintro _ ⟨g,rfl⟩;go_wp2;go_meet;exact⟨rfl,Q4 (λh=>o h.1),zb d g.o⟩
    case rest =>
     obtain⟨rfl,⟨t,rfl,P⟩,q⟩:=hcut;have A:=hI P;clear P z0 z1 z2 z3 z4 z5 z6 z7
     cases t with
     |true =>
      go_wp2;go_ret;exact⟨zh (λh=>by have:=A.2 (h.2 k hlt);cases this),q⟩
     |false =>
      have y:=A.1 rfl;have y:=hI y;clear A;go_wp2;go_roundw
      case rel=>exact⟨k+1,by omega,by go_num,λj Z=>by
       by_cases e:j=k
       ·subst e;exact y
       ·exact F j oM,q⟩
      case measure=>simp[intOf];omega
   ·obtain rfl:k=N:=by omega
    go_wp2;go_ret;exact⟨zN ⟨h6,F⟩,l⟩
 ·have I:decide (6<N)=true:=by simp;omega
  go_enter func97,ntmps97;go_wp2;go_ret;exact⟨zh (λh=>h6 h.1),bZ⟩
def pb (N:Nat)(S:Nat->qe)(G:Nat->Int)(w:World)(B k:Nat):Prop :=
 ∃ la lc ls pl t,w.heap[B]?=some (.cells #[.slice la k lc,.string pl,int i64 t] 329 (0,0))/\ls.length=k/\zS w la k (Pr ls)/\(la=none->k=0/\lc=0) /\
  (0<k->pl=(S (zX S (G (k - 1)) N)).dst/\t=(S (zX S (G (k - 1)) N)).T)
theorem Q9 (Y bo:Option Addr)(N n c c':Nat)(S:Nat->qe)(G:Nat->Int)(w:World)(hN:N<=1048576)(hn:n<=1048576)(hs:Qz N S 1048576)(hx:qy w Y N S)(hy:zS w bo n G) :
  Calls prog 195 #[.slice Y N c,.slice bo n c'] w λe w'=>qH (At N S/\Q6 N S n G) e/\Below w w w':=by
 have HS:=hI hs;clear hs;go_enter func195,ntmps195;go_wp2_with fail;refine(IR Y N c S _ hN HS.out hx).mono ?_;rintro e M ⟨⟨b1,rfl,A⟩,r⟩
 cases b1 with
 |false =>
  have HN:Hid (¬ _):=λh=>by have:=A.2 h;cases this
  clear A;go_wp2;go_ret;exact⟨zh (λh=>HN.out h.1),r⟩
 |true =>
  have HT:=hI (A.1 rfl);clear A
  by_cases g3:In (n:Int) 1 3
  case neg =>
   have d3:=Jc g3;have HN:Hid (¬ Q6 N S n G):=λh=>g3 ⟨by have:=h.1;omega,by have:=h.2.1;omega⟩
   clear g3;go_wp2_with (first|(go_at_call 191;refine bM (zx _ _ _ _) λw' p=>?_;have p:=p.symm;subst p))
   go_ret;exact⟨zh (λh=>HN.out h.2),r⟩
  have d3:=Jd g3;have H3:Hid (1<=n/\n<=3):=⟨by have:=g3.1;omega,by have:=g3.2;omega⟩
  have a8:=H3.2;clear g3;go_wp2_with (first|(go_at_call 191;refine bM (zx _ _ _ _) λw' p=>?_;have p:=p.symm;subst p))
  have T:Below _ w (M.alloc (.cells #[.slice none 0 0,.string ⟨#[]⟩,int i64 0] 329)):=zd r _;have D:=Jb M (.cells #[.slice none 0 0,.string ⟨#[]⟩,int i64 0] 329);have hB:=r.size;go_loopw [6,7,8,9,21] (λ_ _ _ _ i wr=>∃ k,k<=n/\i=int i64 k/\(∀ j,j<k->KZ N S G j)/\pb N S G wr M.heap.size k/\Below w w wr) (λ_ _ _ _ i _=>n - (intOf i).toNat)
  case atStart=>exact⟨0,Jq _,rfl,λj hj=>by omega,⟨_,0,[],_,0,D,rfl,λk hk=>by omega,λ_=>⟨rfl,rfl⟩,λh=>by omega⟩,T⟩
  case round =>
   clear T D d3 r;obtain⟨k,hk,rfl,C,F,m⟩:=hrel;have HA:=hI C;have HW:=hI F;clear C F
   by_cases hlt:k<n
   ·obtain⟨qb,a5,rfl,hq⟩:=hy k hlt
    have a4:=Ja w _ hq;have p0:=tR m hq a4;clear hq;go_wp2_with fail;refine(AY Y N c S _ _ hN (hx.j0 m)).mono ?_;rintro e w2 ⟨hr,y⟩;obtain⟨la,lc,ls,pl,t,d,V,l,a3,E⟩:=HW.out;have d:=za d y;have l:=l.j0 y;have f:=zb m y;have I:=hI V;have P:=hI E;clear V E y m p0 HW
    rcases hr with⟨K,rfl⟩|⟨K,rfl⟩
    ·obtain⟨x,L⟩:=nM (zX S (G k) N)
     rw[← L] at K ⊢;have Q:=hI L;clear L;have x1:(x:Int)<(N:Int):=oM;have x0:=n0 x;obtain⟨sb,a6,b4,b5,a9,b3,rfl,h0,h1,h2,h3,h4,h5,h6,h7,_,_,_,_⟩:=hx x K;have X:=Ja w _ h1;have b:sb<w2.heap.size:=Nat.lt_of_lt_of_le X f.size;obtain⟨Z,s1,s2,s3,s4,s5,s6,s7⟩:=OR f h0 h1 h2 h3 h4 h5 h6 h7 X;clear h0 h1 h2 h3 h4 h5 h6 h7;have a7:=zD d;have g0:=gC d 0;have g1:=gC d 1;have g2:=gC d 2;have r0:=gT Z b;have r1:=gT s1 b;have r2:=gT s2 b;have r3:=gT s3 b;have r4:=gT s4 b;have r5:=gT s5 b;have r6:=gT s6 b;have r7:=gT s7 b;go_upto_region 8 with fail;go_cut [8,21,46] (λj i v wx=>j=int i64 x/\i=int i64 k/\Kr (KZ N S G k) v/\Below w2 w2 wx)
     case first =>
      by_cases k0:k=0
      ·subst k0
       refine ze kR kR ?_
       repeat(go_big_quiet_step (fail))
       refine Jl ?_;rintro _ ⟨g,rfl⟩;go_wp2;go_meet;exact⟨rfl,rfl,Ag ⟨by rw[← Q.out];exact K,λh=>by omega⟩,g.o⟩
      ·have d0:decide (0<k)=true:=by simp;omega
       by_cases q:Hq pl t (S x).U (S x).O=true
       ·refine ze kR kR ?_
        repeat(go_big_quiet_step ((go_at_call 247;refine gF (v:=.bool true) (Ls _ _ _ _ _ _ _ _ _ _ _ _ _ _ _ _ _ _) (by rw[q]))))
        refine Jl ?_;rintro _ ⟨g,rfl⟩;go_wp2;go_meet;exact⟨rfl,rfl,Ag ⟨by rw[← Q.out];exact K,λh=>by
         have h1:=Do.1 q;have h2:=P.out h;rw[← Q.out];exact⟨by rw[← h2.1];exact h1.1.symm,by rw[← h2.2];exact h1.2⟩⟩,g.o⟩
       ·have q:=Bool.eq_false_iff.2 q
        refine ze kR kR ?_
        repeat(go_big_quiet_step ((go_at_call 247;refine gF (v:=.bool false) (Ls _ _ _ _ _ _ _ _ _ _ _ _ _ _ _ _ _ _) (by rw[q]))))
        refine Jl ?_;rintro _ ⟨g,rfl⟩;go_wp2;go_meet;exact⟨rfl,rfl,Q4 (λh=>by
         have h1:=h.2 oM;have h2:=P.out oM;rw[← Q.out] at h1;have h3:=Do.2 (show(S x).U=pl/\t<=_ from ⟨by rw[h2.1];exact h1.1.symm,by rw[h2.2];exact h1.2⟩)
         rw[q] at h3;cases h3),g.o⟩
     case rest =>
      clear g0 g1 g2 r0 r1 r2 r3 r4 r5 r6 r7;obtain⟨rfl,rfl,⟨tb,rfl,ht⟩,z⟩:=hcut;have J:=hI ht;clear ht;obtain⟨w3,a2⟩:=nM wc;subst a2;have s:=zb f z
      cases tb with
      |true =>
       clear Z s1 s2 s3 s4 s5 s6 s7;go_wp2;go_ret;exact⟨zh (λh=>by have:=J.2 (h.2.2.2 k hlt);cases this),s⟩
      |false =>
       have HK:=hI (J.1 rfl);clear J;have o:=za d z;obtain⟨Z,s1,s2,s3,s4,s5,s6,s7⟩:=OR z Z s1 s2 s3 s4 s5 s6 s7 b;obtain⟨b0,b1,b2⟩:=ZE o;have B:=(l.j0 z).j0 (Ji _ w3).drew;have u:Hid (w3.drew.heap[M.heap.size]?=_):=o;clear d o l;go_upto_region 10 with fail;go_region_with (first|(go_at_call 248;refine Jm (ij la k lc ls pl t _ _ _ _ _ _ _ _ _ _ _ _ _ I.out ?_ B a3) ?_;(focus omega);rintro e w5 ⟨R,c5,rfl,W,U⟩;have O:=za u.out U;have o0:=bC O 0;have o1:=bC O 1;have o2:=bC O 2;have f0:=zc O 0;have f1:=zc O 1;have f2:=zc O 2))
       all_goals
        have a0:Hid _:=W;clear W;go_wp2;go_roundw
        case rel =>
         refine⟨k+1,by omega,by go_num,λj hj=>?_,?_,?_⟩
         ·by_cases e:j=k
          ·subst e;exact HK.out
          ·exact HA.out j oM
         ·have H:=ZR (ZR (ZR a0.out (a:=⟨M.heap.size,0,none⟩) (zD u.out) (.slice R (k+1) c5)) (a:=⟨M.heap.size,1,none⟩) (zD u.out) (.string (S x).dst)) (a:=⟨M.heap.size,2,none⟩) (zD u.out) (int i64 (S x).T)
          obtain⟨_,_,e5,_,_,a1⟩:=zn H;simp only[Value.slice.injEq,true_and] at e5;obtain⟨rfl,rfl⟩:=e5;exact⟨R,c5,_,_,_,zk (zk (zk O 0 _) 1 _) 2 _,by rw[List.length_append,I.out];rfl,fk (by rw[List.length_append,I.out];rfl) H,λh=>absurd (a1 h).1 oM,λ_=>by
           rw[Nat.add_sub_cancel,← Q.out];exact⟨rfl,rfl⟩⟩
         ·exact(((zb s.drew U).setCell hB _).setCell hB _).setCell hB _
        case measure=>simp[intOf];omega
    ·have HF:=hI K
     clear K;go_upto_region 8 with fail;refine ze kR kR ?_
     repeat(go_big_quiet_step (fail))
     refine Jl ?_;rintro _ ⟨g,rfl⟩;go_wp2;go_ret;exact⟨zh (λh=>by have:=(h.2.2.2 k hlt).1;have:=HF.out;omega),zb f g.o⟩
   ·obtain rfl:k=n:=by omega
    go_wp2;go_ret;exact⟨zN ⟨HT.out,H3.1,H3.2,HA.out⟩,m⟩
theorem kw (g base N R S Q q t m:Nat)(M K J d:Option Addr)(z:Int)(y:qD)(x:zY)(L C A B D E:Nat->Value)(w:World)(hq:w.heap[g]?=some (.cells #[(M,N,S),(K,N,Q),(J,R,q)] 38 (0,0)))(Z:zz w base (M,N,S) (K,N,Q) (J,R,q) N N R x L C A B D E)(b8:x.g=R)(b1:base<=w.heap.size)(U:y.d=4)(e5:In y.v 0 20)(g0:y.c<=3)(b3:zS w d y.c y.J)(b7:qm d y.c t)(b4:0<y.c->∀ a,d=some a->a.block<base)(b5:y.k=(m:Int)+1)(hm:m<R)(l:R<=1048576) :
  Calls prog 93 #[.pointer (some (g,0)),z,.agg (y,d,t)] w λe w'=>Ct g base N S Q M K (λb=>b=g∨(Value.slice J R q).ownBlock=some b) { x with u:=Qq x.u m (Zd (x.u m) z y) } 0 y.k ((x.u m).j2) (λ_ v=>v=.slice none 0 0) L C A B D w e w':=by
 rw[U,b5];have HO:=hI Z;have HQ:=hI hq;have c9:=hI U;have d2:=hI b8;have f4:=hI b1;have f6:=hI b3;have f9:=hI b7;have f7:=hI b4;obtain⟨gb,rfl,b0,d9⟩:=qr Z.u.row oM;obtain⟨cs,b2⟩:=zC Z.u.row gb rfl;obtain⟨d5,d4,eE,q1,q2,q3⟩:=zn (Z.u.j4 m hm);obtain⟨b,T⟩:=nM (x.u m);have f1:=hI T;have a1:=hI b2;have H:Hid (∀ V,Below _ w V->∀ j v,(AM _ E m)[j]?=some v->V.cell? _=some v):=λV hV j v hv=>by
  have hj:j<13:=by
   have h:=(List.getElem?_eq_some_iff.1 hv).1;exact h
  have h:=zs Z.u.row (m*13+j) oM rfl;rw[zO 13 _ m j hj,List.getD_eq_getElem?_getD,hv] at h;exact tR hV h d9
 have f5:Hid (E m=.slice d5 b.c d4):=by rw[T];exact eE
 have i1:=n0 m;have i2:(m:Int)<(R:Int):=oM;have g1:IntKind.i64.wrap ((m:Int)+1 - 1)=(m:Int):=by rw[Jk];omega
 have HM:=hI hm;have f2:=hI b0;clear b2 eE q1 q2 q3 T b0;clear Z hq U b8 b1 b3 b7 b4 b5 hm;obtain⟨pr,Y⟩:=nM (zP ⟨y.v,y.f,y.j,y.w,y.h,y.x⟩ (y.c:Int));have f8:=hI Y;have c:Below _ w ((w.alloc (.cells #[int i64 4,y.j1,int i64 ((m:Int)+1),(d,y.c,t),y.v,y.f,y.j,y.w,y.h,y.x,y.y,y.D] 47)).alloc (.cells #[(),(),(),True] 41)):=zd (zd bZ _) _;have p:=zg (Jb w (.cells #[int i64 4,y.j1,int i64 ((m:Int)+1),(d,y.c,t),y.v,y.f,y.j,y.w,y.h,y.x,y.y,y.D] 47)) (.cells #[(),(),(),True] 41);have s:=EB w (.cells #[int i64 4,y.j1,int i64 ((m:Int)+1),(d,y.c,t),y.v,y.f,y.j,y.w,y.h,y.x,y.y,y.D] 47) (.cells #[(),(),(),True] 41);go_enter func93,ntmps93;go_wp2_with fail;generalize ((w.alloc _).alloc _)=W at c p s ⊢;refine bM (Z6 _ _ _ _ _ _ _ _ e5 (by unfold In;omega)) λV F=>?_
 rw[← Y];clear Y;replace c:=zb c F;replace p:=za p F;replace s:=za s F;clear F W;have o0:=bC p 0;have n2:∀ G:zy V,G.val.cell? _=some (.slice _ R q):=λG=>bC (za HQ (zb c G.o)) 2
 have m2:∀ G:zy V,G.val.cell? _=some (.int _ _):=λG=>bC (za p G.o) 2
 go_upto_region 17 with fail;refine ze kR kR ?_
 repeat(first|go_big_quiet_skip|(go_big_quiet_want;go_big_quiet_op;first|go_big_quiet_on|fail))
 refine Jl ?_;rintro _ ⟨G,rfl⟩;replace c:=zb c G.o;replace p:=za p G.o;replace s:=za s G.o;have e6:=zD s;have o2:=bC p 2;clear o0 n2 m2;have o0:=aC p 0;go_upto_region 20 with fail;replace c:=zd c (.cells #[(),int i64 ((m:Int)+1),(),True] 41);replace p:=zg p (.cells #[(),int i64 ((m:Int)+1),(),True] 41);replace s:=zg s (.cells #[(),int i64 ((m:Int)+1),(),True] 41);have bT:=Jb G.val (.cells #[(),int i64 ((m:Int)+1),(),True] 41);generalize G.val.alloc _=X at c p s bT ⊢;generalize G.val.heap.size=tb at bT e6 ⊢;clear o0 o2 G V;have P:=za a1 c;have e7:=H X c 10 _ rfl;have e8:=H X c 11 _ rfl;have e9:=H X c 12 _ rfl;have d6:=zc P (m*13+10);have d7:=zc P (m*13+11);obtain⟨t0,t1,t2,t3⟩:=Qk bT;go_upto_region 23 with fail;have I:Hid (Zd (x.u m) z y={ x.u m with C:=2,y:=0 }):=by show _=_;simp[Zd,c9.out]
 have n:zl X ((X.setCell _ (int i64 2)).setCell _ ()) _:=(((zl.refl X (λb=>b=gb)).set (a:=(gb,m*13+10)) rfl _).set (a:=(gb,m*13+11)) rfl _)
 have o:Hid (((X.setCell (gb,m*13+10) (int i64 2)).setCell (gb,m*13+11) ()).ownsRow base 150 13 (some (gb,0),R,q) R (AQ (Qq x.u m (Zd (x.u m) z y)) (AP E m (E m)) R)):=by
  refine qX (zI (zI ((HO.j0 c).u.row) _ _) _ _) (λj _=>Fu 13 dC (k:=m) (C:=AM x.u E) (f:=λi=>if i=_ then _ else if i=_ then _ else _) (λr hr=>?_) (λj hj=>?_) (λi hi=>?_) j)
  ·have l:=zO 13 (AM x.u E) m r hr
   unfold AM;rw[ZS,qg,I.out];unfold AM at l;have b6:r=0∨r=1∨r=2∨r=3∨r=4∨r=5∨r=6∨r=7∨r=8∨r=9∨r=10∨r=11∨r=12:=oM
   rcases b6 with rfl|rfl|rfl|rfl|rfl|rfl|rfl|rfl|rfl|rfl|rfl|rfl|rfl
   ·rw[Je oM,Je oM,l];rfl
   ·rw[Je oM,Je oM,l];rfl
   ·rw[Je oM,Je oM,l];rfl
   ·rw[Je oM,Je oM,l];rfl
   ·rw[Je oM,Je oM,l];rfl
   ·rw[Je oM,Je oM,l];rfl
   ·rw[Je oM,Je oM,l];rfl
   ·rw[Je oM,Je oM,l];rfl
   ·rw[Je oM,Je oM,l];rfl
   ·rw[Je oM,Je oM,l];rfl
   ·rw[Je oM,Jf rfl];rfl
   ·rw[Jf rfl];rfl
   ·rw[Je oM,Je oM,l];rfl
  ·rw[Je oM,Je oM]
  ·unfold AM
   rw[Au _ _ _ hi,zV _ _ _ _ hi]
 have a5:=hI ((HO.j0 c).k4 n o (by rw[I.out];exact(HO.j0 c).u.j4 m HM) (HO.u.far_same HM))
 have e4:g≠gb:=λe=>by have h:=a1.out;rw[← e,HQ.out] at h;simp at h
 have a6:=hI (n.blk (za HQ c) e4);have u:=n.blk bT (by show _;omega)
 have a7:=n.blk s (by show _;omega)
 have a3:Hid (zl w _ (λb=>b=g∨(Value.slice (some (gb,0)) R q).ownBlock=some b)):=(zl.of_below c).trans (n.mono (λb e=>.inr (by rw[show _ from e];rfl)))
 have f0:((X.setCell (gb,m*13+10) (int i64 2)).setCell (gb,m*13+11) ()).cell? (gb,m*13+12)=some (x.u m).j2:=by
  have h:=zs o (m*13+12) (by have:=HM;omega) rfl
  rw[zO 13 _ m 12 dC] at h;unfold AM at h;rw[ZS,I.out] at h;exact h
 generalize ((X.setCell _ _).setCell _ _)=Z1 at n o a5 a6 u a7 a3 f0 ⊢;clear n o bT s p P t0 t1 t2 t3 e7 e8 e9 d6 d7;have a9:w.heap.size+1≠tb:=oM;obtain⟨d1,d8,d0,O,d3⟩:=Hf a3 a5 a6 a7 u a9 oM ((x.u m).j2) rfl;obtain⟨a4,a8,a2,bF⟩:=BY d0 d1 d8 O oM () (int i64 ((m:Int)+1)) ((x.u m).j2) True rfl;obtain⟨t0,t1,t2,t3⟩:=Qk d3;have s2:=bC u 2;have s3:=zc u 2;obtain⟨v0,v1,v2,v3⟩:=Qk O;obtain⟨e0,e1,e2,e3⟩:=EV O;have a0:=hI a4;have c0:=hI a8;have b9:=hI a2;clear a4 a8 a2;go_wp2;obtain⟨x0,x1,x2,x3⟩:=Qk bF;refine Jj (v:=.agg #[(),int i64 ((m:Int)+1),((x.u m).j2),True]) (by simp[results,results93,go_sem,x0,x1,x2,x3]) rfl ?_
 have l:=d2;subst l;exact⟨_,_,_,_,rfl,rfl,a0,c0,b9⟩
theorem kz (g base N R M K p t m:Nat)(J I H l:Option Addr)(z:Int)(y:qD)(x:zY)(L C A B D E:Nat->Value)(w:World)(hq:w.heap[g]?=some (.cells #[(J,N,M),(I,N,K),(H,R,p)] 38 (0,0)))(S:zz w base (J,N,M) (I,N,K) (H,R,p) N N R x L C A B D E)(b5:x.g=R)(a8:base<=w.heap.size)(P:y.d=7)(d3:In y.v 0 20)(e9:y.c<=3)(b0:zS w l y.c y.J)(b4:qm l y.c t)(b1:0<y.c->∀ a,l=some a->a.block<base)(b2:y.k=(m:Int)+1)(hm:m<R)(d:R<=1048576) :
  Calls prog 93 #[.pointer (some (g,0)),z,.agg (y,l,t)] w λe w'=>Ct g base N M K J I (λb=>b=g∨(Value.slice H R p).ownBlock=some b) { x with u:=Qq x.u m (Zd (x.u m) z y) } 0 y.k (0) (λ_ v=>v=.slice none 0 0) L C A B D w e w':=by
 rw[P,b2];have HO:=hI S;have HQ:=hI hq;have b9:=hI P;have c0:=hI b5;have d9:=hI a8;have e5:=hI b0;have e8:=hI b4;have e6:=hI b1;obtain⟨gb,rfl,a7,d1⟩:=qr S.u.row oM;obtain⟨cs,a9⟩:=zC S.u.row gb rfl;obtain⟨d0,c9,eE,q1,q2,q3⟩:=zn (S.u.j4 m hm);obtain⟨b,O⟩:=nM (x.u m);have d7:=hI O;have U:=hI a9;have b6:Hid (∀ V,Below _ w V->∀ j v,(AM _ E m)[j]?=some v->V.cell? _=some v):=λV hV j v hv=>by
  have hj:j<13:=by
   have h:=(List.getElem?_eq_some_iff.1 hv).1;exact h
  have h:=zs S.u.row (m*13+j) oM rfl;rw[zO 13 _ m j hj,List.getD_eq_getElem?_getD,hv] at h;exact tR hV h d1
 have e4:Hid (E m=.slice d0 b.c c9):=by rw[O];exact eE
 have i1:=n0 m;have i2:(m:Int)<(R:Int):=oM;have f0:IntKind.i64.wrap ((m:Int)+1 - 1)=(m:Int):=by rw[Jk];omega
 have HM:=hI hm;have d8:=hI a7;clear a9 eE q1 q2 q3 O a7;clear S hq P b5 a8 b0 b4 b1 b2 hm;obtain⟨pr,Q⟩:=nM (zP ⟨y.v,y.f,y.j,y.w,y.h,y.x⟩ (y.c:Int));have e7:=hI Q;have c:Below _ w ((w.alloc (.cells #[int i64 7,y.j1,int i64 ((m:Int)+1),(l,y.c,t),y.v,y.f,y.j,y.w,y.h,y.x,y.y,y.D] 47)).alloc (.cells #[(),(),(),True] 41)):=zd (zd bZ _) _;have o:=zg (Jb w (.cells #[int i64 7,y.j1,int i64 ((m:Int)+1),(l,y.c,t),y.v,y.f,y.j,y.w,y.h,y.x,y.y,y.D] 47)) (.cells #[(),(),(),True] 41);have s:=EB w (.cells #[int i64 7,y.j1,int i64 ((m:Int)+1),(l,y.c,t),y.v,y.f,y.j,y.w,y.h,y.x,y.y,y.D] 47) (.cells #[(),(),(),True] 41);go_enter func93,ntmps93;go_wp2_with fail;generalize ((w.alloc _).alloc _)=W at c o s ⊢;refine bM (Z6 _ _ _ _ _ _ _ _ d3 (by unfold In;omega)) λV F=>?_
 rw[← Q];clear Q;replace c:=zb c F;replace o:=za o F;replace s:=za s F;clear F W;have o0:=bC o 0;have n2:∀ G:zy V,G.val.cell? _=some (.slice _ R p):=λG=>bC (za HQ (zb c G.o)) 2
 have m2:∀ G:zy V,G.val.cell? _=some (.int _ _):=λG=>bC (za o G.o) 2
 go_upto_region 17 with fail;refine ze kR kR ?_
 repeat(first|go_big_quiet_skip|(go_big_quiet_want;go_big_quiet_op;first|go_big_quiet_on|fail))
 refine Jl ?_;rintro _ ⟨G,rfl⟩;replace c:=zb c G.o;replace o:=za o G.o;replace s:=za s G.o;have d4:=zD s;have o2:=bC o 2;clear o0 n2 m2;have o0:=aC o 0;go_upto_region 20 with fail;replace c:=zd c (.cells #[(),int i64 ((m:Int)+1),(),True] 41);replace o:=zg o (.cells #[(),int i64 ((m:Int)+1),(),True] 41);replace s:=zg s (.cells #[(),int i64 ((m:Int)+1),(),True] 41);have bT:=Jb G.val (.cells #[(),int i64 ((m:Int)+1),(),True] 41);generalize G.val.alloc _=X at c o s bT ⊢;generalize G.val.heap.size=tb at bT d4 ⊢;clear o0 o2 G V;have a4:=za U c;have k2:=b6 X c 2 _ rfl;have f2:=zc a4 (m*13+2);obtain⟨t0,t1,t2,t3⟩:=Qk bT;have d5:=bC o 1;go_upto_region 38 with fail;have a0:Hid (Zd (x.u m) z y={ x.u m with j1:=y.j1 }):=by show _=_;simp[Zd,b9.out]
 have n:zl X (X.setCell _ y.j1) _:=((zl.refl X (λb=>b=gb)).set (a:=(gb,m*13+2)) rfl _)
 have q:Hid ((X.setCell (gb,m*13+2) y.j1).ownsRow base 150 13 (some (gb,0),R,p) R (AQ (Qq x.u m (Zd (x.u m) z y)) (AP E m (E m)) R)):=by
  refine qX (zI ((HO.j0 c).u.row) _ _) (λj _=>Fu 13 dC (k:=m) (C:=AM x.u E) (f:=λi=>if i=_ then _ else _) (λr hr=>?_) (λj hj=>?_) (λi hi=>?_) j)
  ·have d:=zO 13 (AM x.u E) m r hr
   unfold AM;rw[ZS,qg,a0.out];unfold AM at d;have b3:r=0∨r=1∨r=2∨r=3∨r=4∨r=5∨r=6∨r=7∨r=8∨r=9∨r=10∨r=11∨r=12:=oM
   rcases b3 with rfl|rfl|rfl|rfl|rfl|rfl|rfl|rfl|rfl|rfl|rfl|rfl|rfl
   ·rw[Je oM,d];rfl
   ·rw[Je oM,d];rfl
   ·rw[Jf rfl];rfl
   ·rw[Je oM,d];rfl
   ·rw[Je oM,d];rfl
   ·rw[Je oM,d];rfl
   ·rw[Je oM,d];rfl
   ·rw[Je oM,d];rfl
   ·rw[Je oM,d];rfl
   ·rw[Je oM,d];rfl
   ·rw[Je oM,d];rfl
   ·rw[Je oM,d];rfl
   ·rw[Je oM,d];rfl
  ·rw[Je oM]
  ·unfold AM
   rw[Au _ _ _ hi,zV _ _ _ _ hi]
 have a2:=hI ((HO.j0 c).k4 n q (by rw[a0.out];exact(HO.j0 c).u.j4 m HM) (HO.u.far_same HM))
 have d2:g≠gb:=λe=>by have h:=U.out;rw[← e,HQ.out] at h;simp at h
 have a3:=hI (n.blk (za HQ c) d2);have a5:=n.blk bT (by show _;omega)
 have u:=n.blk s (by show _;omega)
 have Z:Hid (zl w _ (λb=>b=g∨(Value.slice (some (gb,0)) R p).ownBlock=some b)):=(zl.of_below c).trans (n.mono (λb e=>.inr (by rw[show _ from e];rfl)))
 generalize (X.setCell _ _)=Z1 at n q a2 a3 a5 u Z ⊢;clear n q bT s d5 o a4 t0 t1 t2 t3 k2 f2;have d6:w.heap.size+1≠tb:=oM;obtain⟨a1,a6,Y,bF⟩:=BY Z a2 a3 u oM () (int i64 ((m:Int)+1)) () True rfl;obtain⟨t0,t1,t2,t3⟩:=Qk a5;obtain⟨v0,v1,v2,v3⟩:=Qk u;obtain⟨e0,e1,e2,e3⟩:=EV u;have T:=hI a1;have b8:=hI a6;have b7:=hI Y;clear a1 a6 Y;go_wp2;obtain⟨x0,x1,x2,x3⟩:=Qk bF;refine Jj (v:=.agg #[int i64 0,int i64 ((m:Int)+1),int i64 (0),.slice none 0 0]) (by simp[results,results93,go_sem,x0,x1,x2,x3]) rfl ?_
 have d:=c0;subst d;exact⟨_,_,_,_,rfl,rfl,T,b8,b7⟩
theorem le (g base N R M K p t m:Nat)(J I H l:Option Addr)(z:Int)(y:qD)(x:zY)(L C A B D E:Nat->Value)(w:World)(hq:w.heap[g]?=some (.cells #[(J,N,M),(I,N,K),(H,R,p)] 38 (0,0)))(S:zz w base (J,N,M) (I,N,K) (H,R,p) N N R x L C A B D E)(b5:x.g=R)(a8:base<=w.heap.size)(P:y.d=8)(d4:In y.v 0 20)(f0:y.c<=3)(b0:zS w l y.c y.J)(b4:qm l y.c t)(b1:0<y.c->∀ a,l=some a->a.block<base)(b2:y.k=(m:Int)+1)(hm:m<R)(d:R<=1048576) :
  Calls prog 93 #[.pointer (some (g,0)),z,.agg (y,l,t)] w λe w'=>Ct g base N M K J I (λb=>b=g∨(Value.slice H R p).ownBlock=some b) { x with u:=Qq x.u m (Zd (x.u m) z y) } 0 y.k (0) (λ_ v=>v=.slice none 0 0) L C A B D w e w':=by
 rw[P,b2];have HO:=hI S;have HQ:=hI hq;have b9:=hI P;have c0:=hI b5;have e4:=hI a8;have e6:=hI b0;have e9:=hI b4;have e7:=hI b1;obtain⟨gb,rfl,a7,d2⟩:=qr S.u.row oM;obtain⟨cs,a9⟩:=zC S.u.row gb rfl;obtain⟨d0,c9,eE,q1,q2,q3⟩:=zn (S.u.j4 m hm);obtain⟨b,O⟩:=nM (x.u m);have d8:=hI O;have U:=hI a9;have b6:Hid (∀ V,Below _ w V->∀ j v,(AM _ E m)[j]?=some v->V.cell? _=some v):=λV hV j v hv=>by
  have hj:j<13:=by
   have h:=(List.getElem?_eq_some_iff.1 hv).1;exact h
  have h:=zs S.u.row (m*13+j) oM rfl;rw[zO 13 _ m j hj,List.getD_eq_getElem?_getD,hv] at h;exact tR hV h d2
 have e5:Hid (E m=.slice d0 b.c c9):=by rw[O];exact eE
 have i1:=n0 m;have i2:(m:Int)<(R:Int):=oM;have f1:IntKind.i64.wrap ((m:Int)+1 - 1)=(m:Int):=by rw[Jk];omega
 have HM:=hI hm;have d9:=hI a7;clear a9 eE q1 q2 q3 O a7;clear S hq P b5 a8 b0 b4 b1 b2 hm;obtain⟨pr,Q⟩:=nM (zP ⟨y.v,y.f,y.j,y.w,y.h,y.x⟩ (y.c:Int));have e8:=hI Q;have c:Below _ w ((w.alloc (.cells #[int i64 8,y.j1,int i64 ((m:Int)+1),(l,y.c,t),y.v,y.f,y.j,y.w,y.h,y.x,y.y,y.D] 47)).alloc (.cells #[(),(),(),True] 41)):=zd (zd bZ _) _;have o:=zg (Jb w (.cells #[int i64 8,y.j1,int i64 ((m:Int)+1),(l,y.c,t),y.v,y.f,y.j,y.w,y.h,y.x,y.y,y.D] 47)) (.cells #[(),(),(),True] 41);have s:=EB w (.cells #[int i64 8,y.j1,int i64 ((m:Int)+1),(l,y.c,t),y.v,y.f,y.j,y.w,y.h,y.x,y.y,y.D] 47) (.cells #[(),(),(),True] 41);go_enter func93,ntmps93;go_wp2_with fail;generalize ((w.alloc _).alloc _)=W at c o s ⊢;refine bM (Z6 _ _ _ _ _ _ _ _ d4 (by unfold In;omega)) λV F=>?_
 rw[← Q];clear Q;replace c:=zb c F;replace o:=za o F;replace s:=za s F;clear F W;have o0:=bC o 0;have n2:∀ G:zy V,G.val.cell? _=some (.slice _ R p):=λG=>bC (za HQ (zb c G.o)) 2
 have m2:∀ G:zy V,G.val.cell? _=some (.int _ _):=λG=>bC (za o G.o) 2
 go_upto_region 17 with fail;refine ze kR kR ?_
 repeat(first|go_big_quiet_skip|(go_big_quiet_want;go_big_quiet_op;first|go_big_quiet_on|fail))
 refine Jl ?_;rintro _ ⟨G,rfl⟩;replace c:=zb c G.o;replace o:=za o G.o;replace s:=za s G.o;have d5:=zD s;have o2:=bC o 2;clear o0 n2 m2;have o0:=aC o 0;go_upto_region 20 with fail;replace c:=zd c (.cells #[(),int i64 ((m:Int)+1),(),True] 41);replace o:=zg o (.cells #[(),int i64 ((m:Int)+1),(),True] 41);replace s:=zg s (.cells #[(),int i64 ((m:Int)+1),(),True] 41);have bT:=Jb G.val (.cells #[(),int i64 ((m:Int)+1),(),True] 41);generalize G.val.alloc _=X at c o s bT ⊢;generalize G.val.heap.size=tb at bT d5 ⊢;clear o0 o2 G V;have a4:=za U c;have d6:=b6 X c 10 _ rfl;have d1:=zc a4 (m*13+10);obtain⟨t0,t1,t2,t3⟩:=Qk bT;go_upto_region 38 with fail;have a0:Hid (Zd (x.u m) z y={ x.u m with C:=4 }):=by show _=_;simp[Zd,b9.out]
 have n:zl X (X.setCell _ (int i64 4)) _:=((zl.refl X (λb=>b=gb)).set (a:=(gb,m*13+10)) rfl _)
 have q:Hid ((X.setCell (gb,m*13+10) (int i64 4)).ownsRow base 150 13 (some (gb,0),R,p) R (AQ (Qq x.u m (Zd (x.u m) z y)) (AP E m (E m)) R)):=by
  refine qX (zI ((HO.j0 c).u.row) _ _) (λj _=>Fu 13 dC (k:=m) (C:=AM x.u E) (f:=λi=>if i=_ then _ else _) (λr hr=>?_) (λj hj=>?_) (λi hi=>?_) j)
  ·have d:=zO 13 (AM x.u E) m r hr
   unfold AM;rw[ZS,qg,a0.out];unfold AM at d;have b3:r=0∨r=1∨r=2∨r=3∨r=4∨r=5∨r=6∨r=7∨r=8∨r=9∨r=10∨r=11∨r=12:=oM
   rcases b3 with rfl|rfl|rfl|rfl|rfl|rfl|rfl|rfl|rfl|rfl|rfl|rfl|rfl
   ·rw[Je oM,d];rfl
   ·rw[Je oM,d];rfl
   ·rw[Je oM,d];rfl
   ·rw[Je oM,d];rfl
   ·rw[Je oM,d];rfl
   ·rw[Je oM,d];rfl
   ·rw[Je oM,d];rfl
   ·rw[Je oM,d];rfl
   ·rw[Je oM,d];rfl
   ·rw[Je oM,d];rfl
   ·rw[Jf rfl];rfl
   ·rw[Je oM,d];rfl
   ·rw[Je oM,d];rfl
  ·rw[Je oM]
  ·unfold AM
   rw[Au _ _ _ hi,zV _ _ _ _ hi]
 have a2:=hI ((HO.j0 c).k4 n q (by rw[a0.out];exact(HO.j0 c).u.j4 m HM) (HO.u.far_same HM))
 have d3:g≠gb:=λe=>by have h:=U.out;rw[← e,HQ.out] at h;simp at h
 have a3:=hI (n.blk (za HQ c) d3);have a5:=n.blk bT (by show _;omega)
 have u:=n.blk s (by show _;omega)
 have Z:Hid (zl w _ (λb=>b=g∨(Value.slice (some (gb,0)) R p).ownBlock=some b)):=(zl.of_below c).trans (n.mono (λb e=>.inr (by rw[show _ from e];rfl)))
 generalize (X.setCell _ _)=Z1 at n q a2 a3 a5 u Z ⊢;clear n q bT s o a4 t0 t1 t2 t3 d6 d1;have d7:w.heap.size+1≠tb:=oM;obtain⟨a1,a6,Y,bF⟩:=BY Z a2 a3 u oM () (int i64 ((m:Int)+1)) () True rfl;obtain⟨t0,t1,t2,t3⟩:=Qk a5;obtain⟨v0,v1,v2,v3⟩:=Qk u;obtain⟨e0,e1,e2,e3⟩:=EV u;have T:=hI a1;have b8:=hI a6;have b7:=hI Y;clear a1 a6 Y;go_wp2;obtain⟨x0,x1,x2,x3⟩:=Qk bF;refine Jj (v:=.agg #[int i64 0,int i64 ((m:Int)+1),int i64 (0),.slice none 0 0]) (by simp[results,results93,go_sem,x0,x1,x2,x3]) rfl ?_
 have d:=c0;subst d;exact⟨_,_,_,_,rfl,rfl,T,b8,b7⟩
theorem lf (g base N R l k u d:Nat)(j i t b:Option Addr)(P:Int)(y:qD)(x:zY)(L C A B D E:Nat->Value)(w:World)(U:w.heap[g]?=some (.cells #[(j,N,l),(i,N,k),(t,R,u)] 38 (0,0)))(S:zz w base (j,N,l) (i,N,k) (t,R,u) N N R x L C A B D E)(J:x.g=R)(F:base<=w.heap.size)(m:y.d=1)(Q:In y.v 0 20)(a3:y.c<=3)(G:zS w b y.c y.J)(I:qm b y.c d)(H:0<y.c->∀ a,b=some a->a.block<base) :
  Calls prog 93 #[.pointer (some (g,0)),P,.agg (y,b,d)] w λe w'=>Ct g base N l k j i (λ_=>False) x 0 0 (zP ⟨y.v,y.f,y.j,y.w,y.h,y.x⟩ (y.c:Int)) (λ_ v=>v=.slice none 0 0) L C A B D w e w':=by
 rw[m];have HO:=hI S;have HQ:=hI U;have Z:=hI m;have O:=hI J;have Y:=hI F;have a0:=hI G;have a2:=hI I;have a1:=hI H;clear S U m J F G I H;obtain⟨X,n⟩:=nM (zP ⟨y.v,y.f,y.j,y.w,y.h,y.x⟩ (y.c:Int));have M:=hI n;have c:Below _ w ((w.alloc (.cells #[int i64 1,y.j1,y.k,(b,y.c,d),y.v,y.f,y.j,y.w,y.h,y.x,y.y,y.D] 47)).alloc (.cells #[(),(),(),True] 41)):=zd (zd bZ _) _;have K:=zg (Jb w (.cells #[int i64 1,y.j1,y.k,(b,y.c,d),y.v,y.f,y.j,y.w,y.h,y.x,y.y,y.D] 47)) (.cells #[(),(),(),True] 41);have o:=EB w (.cells #[int i64 1,y.j1,y.k,(b,y.c,d),y.v,y.f,y.j,y.w,y.h,y.x,y.y,y.D] 47) (.cells #[(),(),(),True] 41);go_enter func93,ntmps93;go_wp2_with fail;generalize ((w.alloc _).alloc _)=W at c K o ⊢;refine bM (Z6 _ _ _ _ _ _ _ _ Q (by unfold In;omega)) λV f=>?_
 rw[← n];clear n;replace c:=zb c f;replace K:=za K f;replace o:=za o f;clear f W;have o0:=bC K 0;obtain⟨s,z,r,bF⟩:=BY (T:=(λ_=>False)) (zl.of_below c) (HO.j0 c) (za HQ c) o oM () () X True rfl
 obtain⟨v0,v1,v2,v3⟩:=Qk o;obtain⟨e0,e1,e2,e3⟩:=EV o;have h:=hI s;have q:=hI z;have p:=hI r;clear s z r;go_wp2;obtain⟨x0,x1,x2,x3⟩:=Qk bF;refine Jj (v:=.agg #[(),(),X,True]) (by simp[results,results93,go_sem,x0,x1,x2,x3]) rfl ?_
 have hR:=O;subst hR;rw[M.out] at h q p ⊢;exact⟨_,_,_,_,rfl,rfl,h,q,p⟩
theorem iq (g base N R k j t d:Nat)(i h s b:Option Addr)(O:Int)(y:qD)(x:zY)(L C A B D E:Nat->Value)(w:World)(U:w.heap[g]?=some (.cells #[(i,N,k),(h,N,j),(s,R,t)] 38 (0,0)))(S:zz w base (i,N,k) (h,N,j) (s,R,t) N N R x L C A B D E)(I:x.g=R)(z:base<=w.heap.size)(l:y.d=2)(P:In y.v 0 20)(a3:y.c<=3)(F:zS w b y.c y.J)(H:qm b y.c d)(G:0<y.c->∀ a,b=some a->a.block<base)(hR:R=30) :
  Calls prog 93 #[.pointer (some (g,0)),O,.agg (y,b,d)] w λe w'=>Ct g base N k j i h (λ_=>False) x 8 0 0 (λ_ v=>v=.slice none 0 0) L C A B D w e w':=by
 subst hR;rw[l];have HO:=hI S;have Q:=hI U;have Y:=hI l;have r:=hI I;have X:=hI z;have Z:=hI F;have a2:=hI H;have a0:=hI G;clear S U l I z F H G;obtain⟨pr,m⟩:=nM (zP ⟨y.v,y.f,y.j,y.w,y.h,y.x⟩ (y.c:Int));have a1:=hI m;have c:Below _ w ((w.alloc (.cells #[int i64 2,y.j1,y.k,(b,y.c,d),y.v,y.f,y.j,y.w,y.h,y.x,y.y,y.D] 47)).alloc (.cells #[(),(),(),True] 41)):=zd (zd bZ _) _;have J:=zg (Jb w (.cells #[int i64 2,y.j1,y.k,(b,y.c,d),y.v,y.f,y.j,y.w,y.h,y.x,y.y,y.D] 47)) (.cells #[(),(),(),True] 41);have n:=EB w (.cells #[int i64 2,y.j1,y.k,(b,y.c,d),y.v,y.f,y.j,y.w,y.h,y.x,y.y,y.D] 47) (.cells #[(),(),(),True] 41);go_enter func93,ntmps93;go_wp2_with fail;generalize ((w.alloc _).alloc _)=W at c J n ⊢;refine bM (Z6 _ _ _ _ _ _ _ _ P (by unfold In;omega)) λV f=>?_
 rw[← m];clear m;replace c:=zb c f;replace J:=za J f;replace n:=za n f;clear f W;have o0:=bC J 0;have zq:=bC (za Q c) 2;obtain⟨q,u,p,bF⟩:=BY (T:=(λ_=>False)) (zl.of_below c) (HO.j0 c) (za Q c) n oM (int i64 8) () () True rfl
 obtain⟨v0,v1,v2,v3⟩:=Qk n;obtain⟨e0,e1,e2,e3⟩:=EV n;have o:=hI q;have M:=hI u;have K:=hI p;clear q u p;go_wp2;obtain⟨x0,x1,x2,x3⟩:=Qk bF;refine Jj (v:=.agg #[int i64 8,(),(),True]) (by simp[results,results93,go_sem,x0,x1,x2,x3]) rfl ?_
 exact⟨_,_,_,_,rfl,rfl,by rw[r.out];exact o,by rw[r.out];exact M,K⟩
theorem ir (g base N R k j t d:Nat)(i h s b:Option Addr)(O:Int)(y:qD)(x:zY)(L C A B D E:Nat->Value)(w:World)(U:w.heap[g]?=some (.cells #[(i,N,k),(h,N,j),(s,R,t)] 38 (0,0)))(S:zz w base (i,N,k) (h,N,j) (s,R,t) N N R x L C A B D E)(I:x.g=R)(z:base<=w.heap.size)(l:y.d=3)(P:In y.v 0 20)(a3:y.c<=3)(F:zS w b y.c y.J)(H:qm b y.c d)(G:0<y.c->∀ a,b=some a->a.block<base)(hR:R=30) :
  Calls prog 93 #[.pointer (some (g,0)),O,.agg (y,b,d)] w λe w'=>Ct g base N k j i h (λ_=>False) x 8 0 0 (λ_ v=>v=.slice none 0 0) L C A B D w e w':=by
 subst hR;rw[l];have HO:=hI S;have Q:=hI U;have Y:=hI l;have r:=hI I;have X:=hI z;have Z:=hI F;have a2:=hI H;have a0:=hI G;clear S U l I z F H G;obtain⟨pr,m⟩:=nM (zP ⟨y.v,y.f,y.j,y.w,y.h,y.x⟩ (y.c:Int));have a1:=hI m;have c:Below _ w ((w.alloc (.cells #[int i64 3,y.j1,y.k,(b,y.c,d),y.v,y.f,y.j,y.w,y.h,y.x,y.y,y.D] 47)).alloc (.cells #[(),(),(),True] 41)):=zd (zd bZ _) _;have J:=zg (Jb w (.cells #[int i64 3,y.j1,y.k,(b,y.c,d),y.v,y.f,y.j,y.w,y.h,y.x,y.y,y.D] 47)) (.cells #[(),(),(),True] 41);have n:=EB w (.cells #[int i64 3,y.j1,y.k,(b,y.c,d),y.v,y.f,y.j,y.w,y.h,y.x,y.y,y.D] 47) (.cells #[(),(),(),True] 41);go_enter func93,ntmps93;go_wp2_with fail;generalize ((w.alloc _).alloc _)=W at c J n ⊢;refine bM (Z6 _ _ _ _ _ _ _ _ P (by unfold In;omega)) λV f=>?_
 rw[← m];clear m;replace c:=zb c f;replace J:=za J f;replace n:=za n f;clear f W;have o0:=bC J 0;have zq:=bC (za Q c) 2;obtain⟨q,u,p,bF⟩:=BY (T:=(λ_=>False)) (zl.of_below c) (HO.j0 c) (za Q c) n oM (int i64 8) () () True rfl
 obtain⟨v0,v1,v2,v3⟩:=Qk n;obtain⟨e0,e1,e2,e3⟩:=EV n;have o:=hI q;have M:=hI u;have K:=hI p;clear q u p;go_wp2;obtain⟨x0,x1,x2,x3⟩:=Qk bF;refine Jj (v:=.agg #[int i64 8,(),(),True]) (by simp[results,results93,go_sem,x0,x1,x2,x3]) rfl ?_
 exact⟨_,_,_,_,rfl,rfl,by rw[r.out];exact o,by rw[r.out];exact M,K⟩
def Cq (n:Nat)(S:Nat->zA)(a:Int):Prop:=In a 1 9999/\∀ i,i<n->(S i).e≠a
theorem Rb (r q k:Option Addr)(N M R v u s:Nat)(x:zY)(f:Int)(w:World)(hR:R<=1048576)(y:qL w k R x.u) :
  Calls prog 43 #[.agg #[(r,N,v),(q,M,u),(k,R,s)],f] w λe w'=>qH (Cq R x.u f) e/\Below w w w':=by
 have B:=hI y;clear y;have E:Below _ w (w.alloc (.cells #[(r,N,v),(q,M,u),(k,R,s)] 38)):=zd bZ _;go_enter func43,ntmps43;go_wp2;go_loopw [6,10] (λ_ i wr=>∃ t,t<=R/\i=int i64 t/\Hid (∀ j,j<t->(x.u j).e≠f)/\Below w w wr) (λ_ i _=>R - (intOf i).toNat)
 case atStart=>exact⟨0,Jq _,rfl,(λj P=>by omega),E⟩
 case round =>
  obtain⟨t,ht,rfl,F,a⟩:=hrel
  by_cases hlt:t<R
  ·obtain⟨Cc,A,z⟩:=B
   obtain⟨gb,off,rfl,g⟩:=A t hlt;obtain⟨D,C,l,O,Q⟩:=z t hlt;obtain⟨b,m⟩:=nM (x.u t);rw[← m] at l;have o:=hI m.symm;rw[l] at g;have d:=Ja w _ (g 0 dC);have i0:=n0 t;have i1:(t:Int)<(R:Int):=by omega
   have c0:wr.cell? _=some (.int _ _):=(a.cell (p:=⟨gb,off+_,_⟩) d).trans (g 0 (by decide))
   have c1:wr.cell? _=some (.int _ _):=(a.cell (p:=⟨gb,_+1,_⟩) d).trans (g 1 (by decide))
   have c2:wr.cell? _=some (.string _):=(a.cell (p:=⟨gb,_+2,_⟩) d).trans (g 2 (by decide))
   have c3:wr.cell? _=some (.slice D _ C):=(a.cell (p:=⟨gb,_+3,_⟩) d).trans (g 3 (by decide))
   have c4:wr.cell? _=some (.int _ _):=(a.cell (p:=⟨gb,_+4,_⟩) d).trans (g 4 (by decide))
   have c5:wr.cell? _=some (.int _ _):=(a.cell (p:=⟨gb,_+5,_⟩) d).trans (g 5 (by decide))
   have c6:wr.cell? _=some (.int _ _):=(a.cell (p:=⟨gb,_+6,_⟩) d).trans (g 6 (by decide))
   have c7:wr.cell? _=some (.int _ _):=(a.cell (p:=⟨gb,_+7,_⟩) d).trans (g 7 (by decide))
   have c8:wr.cell? _=some (.bool _):=(a.cell (p:=⟨gb,_+8,_⟩) d).trans (g 8 (by decide))
   have c9:wr.cell? _=some (.int _ _):=(a.cell (p:=⟨gb,_+9,_⟩) d).trans (g 9 (by decide))
   have I:wr.cell? _=some (.int _ _):=(a.cell (p:=⟨gb,_+10,_⟩) d).trans (g 10 (by decide))
   have J:wr.cell? _=some (.int _ _):=(a.cell (p:=⟨gb,_+11,_⟩) d).trans (g 11 (by decide))
   have K:wr.cell? _=some (.int _ _):=(a.cell (p:=⟨gb,_+12,_⟩) d).trans (g 12 (by decide))
   clear g l O Q A z m
   by_cases he:b.e=f
   ·have L:(b.e == f)=true:=by simpa using he
    have H:Hid (¬ Cq R x.u f):=λh=>h.2 t hlt (by rw[o.out];exact he)
    clear he;go_wp2;go_ret;exact⟨zh H,zd a _⟩
   ·have L:(b.e == f)=false:=by simpa using he
    have G:Hid (∀ j,j<t+1->(x.u j).e≠f):=λj P=>by
     by_cases c:j=t
     ·rw[c,o.out];exact he
     ·exact F j (by omega)
    clear he;go_wp2;go_roundw
    case rel=>exact⟨_,by omega,by go_num,G,zd a _⟩
    case measure=>simp[intOf];omega
  ·obtain rfl:t=R:=by omega
   go_wp2_with (first|(go_at_call 89;refine bM (Qt _ _) λw' n=>?_;have n:=n.symm;subst n))
   go_ret;refine⟨⟨_,rfl,?_⟩,a⟩;rw[decide_eq_true_eq];exact⟨λh=>⟨h,F⟩,λh=>h.1⟩

def kB (S:Nat->zA)(k0:Nat):Nat->Nat
 |0=>k0
 |i+1=>kB S k0 i+(12+(S i).c)
def mB (S:Nat->zA)(k0:Nat)(i:Nat):zA :=
 ⟨(kB S k0 i:Nat),(kB S k0 i+1:Nat),BF (kB S k0 i+2),(S i).c,λj=>((kB S k0 i+3:Nat):Int)+j,(kB S k0 i+3+(S i).c:Nat),(kB S k0 i+4+(S i).c:Nat),(kB S k0 i+5+(S i).c:Nat),(kB S k0 i+6+(S i).c:Nat),
  (((kB S k0 i+7+(S i).c:Nat):Int) % 3 == 0),(kB S k0 i+8+(S i).c:Nat),(kB S k0 i+9+(S i).c:Nat),(kB S k0 i+10+(S i).c:Nat),(kB S k0 i+11+(S i).c:Nat)⟩
def Th (S:Nat->zA)(k0 t:Nat)(i:Nat):zA:=if i<t then mB S k0 i else S i
theorem GW {S:Nat->zA}(h:i<t):Th S k0 t i=mB S k0 i:=Jf h
theorem GX {S:Nat->zA}(h:¬ i<t):Th S k0 t i=S i:=Je h
theorem LA {S:Nat->zA}(h:i≠t):Th S k0 (t+1) i=Th S k0 t i:=by
 by_cases h1:i<t
 ·rw[GW h1,GW oM]
 ·rw[GX h1,GX oM]
theorem TB {S:Nat->zA}{N:Nat}(h:∀ i,i<N->(S i).c<=1048576):∀ i,i<=N->kB S k0 i<=k0+i*1048600
 |0,_=>by unfold kB;omega
 |i+1,hi=>by
  have:kB S k0 i<=_:=TB h i oM;have:=h i oM;unfold kB
  omega
def rh (v:Value)(N:Nat)(L:Nat->Value)(b:Nat):Prop:=v.ownBlock=some b∨∃ i,i<N/\(L i).ownBlock=some b
theorem je (z:Int)(v:Value)(n base k0:Nat)(F:Nat->Int)(w:World)(f:z=(k0:Int))(hn:n<=1048576)(h1:k0<=100000000000000)(a:w.ownsRow base 3 1 v n (qp F n)) :
  Calls prog 28 #[v,z] w λe w'=>e=.returned ((k0+n:Nat):Int)/\w'.ownsRow base 3 1 v n (qp (λj=>(k0:Int)+j) n)/\zl w w' (λb=>v.ownBlock=some b):=by
 subst f;obtain⟨d,c,rfl,_⟩:=zn a;refine(EH d n c _ F k0 w oM oM oM a).mono ?_;rintro e w' ⟨rfl,h2,h3⟩;refine⟨by rw[show((k0+n:Nat):Int)=(k0:Int)+n by omega],h2,h3.mono (λb e=>?_)⟩
 obtain⟨g,rfl,rfl⟩:=e
 rfl
theorem jf (z:Int)(a:Option Addr)(n c k0:Nat)(w:World)(b:z=(k0:Int))(hn:n<=1048576)(h1:k0<=100000000000000)(h:zS w a n (λj=>(k0:Int)+j)) :
  Calls prog 137 #[(a,n,c),z] w λe w'=>e=.returned ((k0+n:Nat):Int)/\Below w w w':=by
 subst b;refine(OD a n c k0 w oM oM oM h).mono ?_;rintro e w' h2;rw[show((k0+n:Nat):Int)=(k0:Int)+n by omega]
 exact⟨h2.1,by rw[h2.2];exact bZ⟩
theorem Rn (D:Option Addr)(N c base k0:Nat)(S:Nat->zA)(L:Nat->Value)(w:World)(hN:N<=1048576)(h1:k0<=8000000000000)(hs:∀ i,i<N->(S i).c<=1048576)(ho:Zq w base (D,N,c) N S L) :
  Calls prog 64 #[(D,N,c),(k0:Int)] w λe w'=>e=.returned ((kB S k0 N:Nat):Int)/\Zq w' base (D,N,c) N (mB S k0) L/\zl w w' (rh (D,N,c) N L):=by
 have HS:=hI hs;have J:=hI ho;clear hs ho;go_enter func64,ntmps64;go_wp2;go_loopw [1,5] (λq i wr=>∃ (t k:Nat),t<=N/\i=int i64 t/\q=int i64 k/\k=kB S k0 t/\Zq wr base (D,N,c) N (Th S k0 t) L/\zl w wr (rh (D,N,c) N L)) (λ_ i _=>N - (intOf i).toNat)
 case atStart =>
  refine⟨0,k0,Jq _,rfl,rfl,rfl,?_,zl.refl _ _⟩;have e:Th S k0 0=S:=by funext i;exact GX oM
  rw[e];exact J
 case round =>
  clear J;obtain⟨t,k,ht,rfl,rfl,P,o,hk⟩:=hrel;have j:=hI P;have kb:k<=10000000000000:=by have:=TB (k0:=k0) HS t ht;omega
  clear P
  by_cases hlt:t<N
  ·have R:Th S k0 t t=S t:=GX oM
   have x:=o.j4 t hlt;rw[R] at x;obtain⟨al,cl,Z,_⟩:=zn x;obtain⟨g,rfl,a8,a9⟩:=qr o.row oM;obtain⟨u0,q0⟩:∃ v,wr.cell? ⟨g,_+0,_⟩=some v:=⟨_,zT o.row hlt dC⟩;obtain⟨u1,q1⟩:∃ v,wr.cell? ⟨g,_+1,_⟩=some v:=⟨_,zT o.row hlt dC⟩;rw[Nat.add_zero] at q0;have f0:=o.row.frozenAt (t*13);have f1:=o.row.frozenAt (t*13+1);have s:=hI o;have r:=hI Z;have I:=hI (Z ▸ x);have V:=hI hk;have a2:=HS t hlt;clear o x Z hk R;go_wp2_with fail;refine bM (AL _ _ oM oM) λU z=>?_
   have K:Hid _:=Zo s.row t 0 (k:Int) rfl dC;have l:Hid _:=Zo K t 1 (int i64 ((k:Int)+1)) (by rw[qV];rfl) dC
   rw[Nat.add_zero] at l;have m:Hid _:=zm z l;have O:=(((zl.refl wr (λb=>b=g)).set rfl _).set rfl _).trans (zl.of_below z)
   have T:((k:Int)+1+1).toNat=kB S k0 t+2:=by have:=j.out;omega
   rw[T];clear T q0 q1 f0 f1 z K l;obtain⟨u2,q2⟩:∃ v,U.cell? ⟨g,_+2,_⟩=some v:=⟨_,zT m hlt dC⟩;have q3:U.cell? (g,t*13+3)=some (al,(S t).c,cl):=by
    rw[zT m.out hlt dC,qV,qV]
    show some (L t)=_
    rw[r.out]
   have f2:=Jn m (t*13+2);go_wp2_with fail;have y:Hid _:=Zo m t 2 (.string (BF (kB S k0 t+2))) (by rw[qV,qV];rfl) dC
   have u:zl wr (U.setCell _ (.string (BF (kB S k0 t+2)))) _:=O.set (a:=(g,t*13+2)) rfl _;clear q2 q3 f2 O m;generalize U.setCell _ _=W4 at y u ⊢;have f:∀ b,(Value.slice (some (g,0)) N c).ownBlock=some b↔_:=λb=>by simp[Value.ownBlock];exact eq_comm
   have G:=hI (u.j1 I (λb n e=>zE s.row I dC b ((f b).2 e) n))
   refine(je _ _ _ _ (kB S k0 t+3) _ _ (by have:=j.out;omega) a2 (by have:=j.out;omega) G.out).mono ?_
   rintro e p ⟨rfl,Q,B⟩;have d:Hid _:=B.j1 y (λb n e=>zE y G dC b n e)
   have H:=hI Q;have E:=hI B;have F:=hI u;have b0:kB S k0 t+3+(S t).c<=20000000000000:=by have:=j.out;omega
   clear Q B u;obtain⟨u4,q4⟩:∃ v,p.cell? ⟨g,_+4,_⟩=some v:=⟨_,zT d hlt dC⟩;have f4:=Jn d (t*13+4);obtain⟨u5,q5⟩:∃ v,p.cell? ⟨g,_+5,_⟩=some v:=⟨_,zT d hlt dC⟩;have f5:=Jn d (t*13+5);obtain⟨u6,q6⟩:∃ v,p.cell? ⟨g,_+6,_⟩=some v:=⟨_,zT d hlt dC⟩;have f6:=Jn d (t*13+6);obtain⟨u7,q7⟩:∃ v,p.cell? ⟨g,_+7,_⟩=some v:=⟨_,zT d hlt dC⟩;have f7:=Jn d (t*13+7);obtain⟨u8,q8⟩:∃ v,p.cell? ⟨g,_+8,_⟩=some v:=⟨_,zT d hlt dC⟩;have f8:=Jn d (t*13+8);obtain⟨u9,q9⟩:∃ v,p.cell? ⟨g,_+9,_⟩=some v:=⟨_,zT d hlt dC⟩;have f9:=Jn d (t*13+9);obtain⟨u10,b1⟩:∃ v,p.cell? ⟨g,_+10,_⟩=some v:=⟨_,zT d hlt dC⟩;have a3:=Jn d (t*13+10);obtain⟨u11,b2⟩:∃ v,p.cell? ⟨g,_+11,_⟩=some v:=⟨_,zT d hlt dC⟩;have a6:=Jn d (t*13+11);obtain⟨u12,b3⟩:∃ v,p.cell? ⟨g,_+12,_⟩=some v:=⟨_,zT d hlt dC⟩;have a7:=Jn d (t*13+12);go_wp2;go_roundw
   case rel =>
    have e0:=j;have S4:=Zo d t 4 (((kB S k0 t+3+(S t).c:Nat):Int)) (by simp only[qV,List.length_set];rfl) dC
    have S5:=Zo S4 t 5 (int i64 (((kB S k0 t+3+(S t).c:Nat):Int)+1)) (by simp only[qV,List.length_set];rfl) dC
    have S6:=Zo S5 t 6 (int i64 (((kB S k0 t+3+(S t).c:Nat):Int)+1+1)) (by simp only[qV,List.length_set];rfl) dC
    have S7:=Zo S6 t 7 (int i64 (((kB S k0 t+3+(S t).c:Nat):Int)+1+1+1)) (by simp only[qV,List.length_set];rfl) dC
    have S8:=Zo S7 t 8 (.bool ((((kB S k0 t+3+(S t).c:Nat):Int)+1+1+1+1) % 3 == 0)) (by simp only[qV,List.length_set];rfl) dC
    have S9:=Zo S8 t 9 (int i64 (((kB S k0 t+3+(S t).c:Nat):Int)+1+1+1+1+1)) (by simp only[qV,List.length_set];rfl) dC
    have W:=Zo S9 t 10 (int i64 (((kB S k0 t+3+(S t).c:Nat):Int)+1+1+1+1+1+1)) (by simp only[qV,List.length_set];rfl) dC
    have X:=Zo W t 11 (int i64 (((kB S k0 t+3+(S t).c:Nat):Int)+1+1+1+1+1+1+1)) (by simp only[qV,List.length_set];rfl) dC
    have Y:=Zo X t 12 (int i64 (((kB S k0 t+3+(S t).c:Nat):Int)+1+1+1+1+1+1+1+1)) (by simp only[qV,List.length_set];rfl) dC
    have C:=((((((((((zl.refl p (λb=>b=g)).set (a:=(g,t*13+4)) rfl (((kB S k0 t+3+(S t).c:Nat):Int))).set (a:=(g,t*13+5)) rfl (int i64 (((kB S k0 t+3+(S t).c:Nat):Int)+1))).set (a:=(g,t*13+6)) rfl (int i64 (((kB S k0 t+3+(S t).c:Nat):Int)+1+1))).set (a:=(g,t*13+7)) rfl (int i64 (((kB S k0 t+3+(S t).c:Nat):Int)+1+1+1))).set (a:=(g,t*13+8)) rfl (.bool ((((kB S k0 t+3+(S t).c:Nat):Int)+1+1+1+1) % 3 == 0))).set (a:=(g,t*13+9)) rfl (int i64 (((kB S k0 t+3+(S t).c:Nat):Int)+1+1+1+1+1))).set (a:=(g,t*13+10)) rfl (int i64 (((kB S k0 t+3+(S t).c:Nat):Int)+1+1+1+1+1+1))).set (a:=(g,t*13+11)) rfl (int i64 (((kB S k0 t+3+(S t).c:Nat):Int)+1+1+1+1+1+1+1))).set (a:=(g,t*13+12)) rfl (int i64 (((kB S k0 t+3+(S t).c:Nat):Int)+1+1+1+1+1+1+1+1)))
    have M:∀ i,_->_->∀ b,_->_≠_:=λi A a0 b h1 h2=>by
     rcases Nat.lt_or_gt_of_ne a0 with h|h
     ·exact s.apart i t h hlt b h1 h2
     ·exact s.apart t i h A b h2 h1
    rw[r.out] at M;refine⟨_,kB S k0 (t+1),by omega,by go_num,?_,rfl,⟨Bs Y dC (λi A=>?_),λi A=>?_,s.apart⟩,?_⟩
    ·congr 1
     show _=((_+_:Nat):Int)
     (try unfold wrap64);omega
    ·by_cases e:i=t
     ·subst e
      simp only[qV];unfold AM;rw[GW (show i<i+1 by omega),GX (show ¬ i<i by omega)]
      simp only[sZ,sS,mB];rw[e0];simp only[List.cons.injEq,Value.int.injEq,true_and,and_true];refine⟨by omega,by omega,by omega,by omega,?_,by omega,by omega,by omega,by omega⟩
      rw[show((kB S k0 i+3+(S i).c:Nat):Int)+1+1+1+1=((kB S k0 i+7+(S i).c:Nat):Int) by omega]
     ·simp only[Ki _ _ _ e]
      unfold AM;rw[LA e]
    ·by_cases e:i=t
     ·subst e
      rw[GW oM,r.out];exact C.j1 H (λb n e=>zE d H dC b ((f b).2 e) n)
     ·rw[LA e]
      have a1:=s.j4 i A;have a4:=F.j1 a1 (λb n e=>zE s.row a1 dC b ((f b).2 e) n)
      have a5:=E.j1 a4 (λb n e2=>M i A e b n e2)
      exact C.j1 a5 (λb n e=>zE d a5 dC b ((f b).2 e) n)
    ·exact V.trans ((F.mono (λb e=>.inl ((f b).2 e))).trans ((E.mono (λb e=>.inr ⟨t,hlt,by rw[r.out];exact e⟩)).trans (C.mono (λb e=>.inl ((f b).2 e)))))
   case measure=>simp[intOf];omega
  ·obtain rfl:t=N:=by omega
   have s:=hI o;clear o;go_wp2;go_ret;refine⟨by rw[j.out];rfl,?_,hk⟩
   exact s.congr (λi A=>GW A)
end Go.Proofs.YtmdnjgihooflfaaGreatDoor
