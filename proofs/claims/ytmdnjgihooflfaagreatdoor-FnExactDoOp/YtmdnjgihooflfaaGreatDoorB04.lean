/-
  OWN TEXT: Ints, IntsSz, PlainS, PlainFa, LParty, LPartyEq, LBooking.
-/
import Derived.Test.YtmdnjgihooflfaaGreatDoorRows
import Derived.Deep.DeepCutAuto
import Derived.Deep.RegionHeld3
import Derived.Test.YtmdnjgihooflfaaGreatDoorB03
namespace Go.Proofs.YtmdnjgihooflfaaGreatDoor
open Go.RowKit
open Go.Value (int)
open Go.IntKind (i64)
open Tryz
set_option maxHeartbeats 64000000
set_option maxRecDepth 100000
/-- toIntS: a copy of the numbers in a new row. -/
theorem zhM (m:Option Addr)(n h:Nat)(f:Nat->Int)(w:World)(hn:n<=1048576)(s:zT w m n f) :
  Calls prog 22 #[(m,n,h)] w λe w'=>∃ g,e=.returned (some (g,0),n,n)/\w.heap.size<=g /\
   w'.rowIs g 3 n (λk=>int i64 (f k))/\Below w.heap.size w w':=by
 have q:=run_make_row' 27 3 _ 8 underlying27 Tryz.infoInt rfl .i64 .i64 n (by omega) (by omega)
 go_enter func22,ntmps22;go_wp2;go_loopw [4] (λi wr=>∃ k,k<=n/\i=int i64 k/\wr.rowIs w.heap.size 3 n (λj=>if j<k then int i64 (f j) else int i64 0)/\Below w.heap.size w wr)
  (λi _=>n - (intOf i).toNat)
 case atStart=>exact⟨0,Jq _,rfl,(World.rowIs_made _ _ _ _).congr (by simp),bZ.alloc (Jr _) _⟩
 case round =>
  obtain⟨k,hk,rfl,c,d⟩:=hrel
  by_cases hlt:k<n
  ·obtain⟨b,off,rfl,l⟩:=(s k (by omega))
   have o:=(d.cell (Ja w _ l)).trans l;have r:=c.cell hlt;have hf:=c.frozen k;simp only[Nat.lt_irrefl,if_false] at r;clear l;go_wp2;go_roundw
   case rel=>exact⟨_,by omega,by go_num,(c.set k _).congr (λj p=>fill_step (λj=>Value.int _ _) _ k j),d.setCell (Jr _) _⟩
   case measure=>simp[intOf];omega
  ·go_wp2
   go_ret;exact⟨_,rfl,Jr _,c.congr (λj p=>by rw[Jf (by omega)]),d⟩
theorem zhN (a:Option Addr)(n c:Nat)(L:Int)(w:World)(h0:0<=L)(hL:L<=1048576)(hn:n<=1000000000000000) :
  Calls prog 41 #[.slice a n c,int i64 L] w λe w'=>∃ r:Int,e=.returned (int i64 r)/\(r=-1∨(0<=r/\r<=L/\n<=1048576))/\Below w.heap.size w w':=by
 by_cases h:(n:Int)<=L
 ·go_enter func41,ntmps41
  go_wp2;go_ret;exact⟨_,rfl,.inr ⟨by omega,by omega,by omega⟩,bZ⟩
 ·go_enter func41,ntmps41
  go_wp2;go_ret;exact⟨_,rfl,.inl rfl,bZ⟩
section
open Go.RowKit
variable{a b:ByteArray}
def zcj (b:Int):Prop:=(97<=b/\b<=122)∨(65<=b/\b<=90)
def zed (s:ByteArray)(k:Nat):Int:=if h:k<s.size then ((s[k]'h).toNat:Int) else 0
theorem zgk (s:ByteArray)(k:Nat)(h:k<s.size):((s[k]'h).toNat:Int)=zed s k:=by unfold zed;rw[dif_pos h]
instance (b:Int):Decidable (zcj b):=by unfold zcj;exact inferInstance
def Zg (s:ByteArray):Prop:=1<=s.size/\s.size<=12/\∀ k,k<s.size->zcj (zed s k)
instance (s:ByteArray):Decidable (Zg s):=by unfold Zg;exact inferInstance
def In (x lo a:Int):Prop:=lo<=x/\x<=a
instance (x lo a:Int):Decidable (In x lo a):=by unfold In;exact inferInstance
def zaZ (p:zH)(most:Nat)(a b c d:Int):Prop:=p.n<=most/\∀ k,k<p.n->In (p.A k) a b/\In (p.B k) c d
def Zf (s:Zj):Prop :=
 In s.id 1 99/\Zg s.fr/\Zg s.dst/\s.fr≠s.dst/\0<=s.dep/\s.dep<s.arr/\s.arr<=10000/\zaZ s.la 4 1 5000 100 500/\zaZ s.ca 6 1 3 1 4/\In s.most 0 500
def QJ (N:Nat)(S:Nat->Zj):Prop:=N<=6/\∀ k,k<N->Zf (S k)/\(0<k->(S (k - 1)).id<(S k).id)
theorem zhO (h:a.toList=b.toList):a=b:=by
 rw[ByteArray.toList_eq,ByteArray.toList_eq] at h;obtain⟨⟨x⟩⟩:=a;obtain⟨⟨y⟩⟩:=b;simp at h;rw[h]
theorem zet:(a.toList == b.toList)=true↔a=b:=by
 rw[beq_iff_eq];exact⟨zhO,λh=>by rw[h]⟩
theorem zga:(a.toList == b.toList)=false↔a≠b:=by
 rw[beq_eq_false_iff_ne];exact⟨λh e=>h (by rw[e]),λh e=>h (zhO e)⟩
def zda (a b:ByteArray):Prop:=Zg a/\Zg b/\a≠b
instance (a b:ByteArray):Decidable (zda a b):=by unfold zda;exact inferInstance
theorem bool_eq {a b:Bool}{P:Prop}(h1:a=true↔P)(h2:b=true↔P):a=b:=by
 cases a <;> cases b <;> simp_all
end
structure Qh where
 pe:Int
 len:Int
 hei:Int
 cl:Int
 all:Bool
 be:Int
def zbA (l h:Int):Prop:=In l 1 2000/\In h 1 500
instance (l h:Int):Decidable (zbA l h):=by unfold zbA;exact inferInstance
def zfN (cl:Int)(all:Bool)(be:Int):Prop:=In cl 1 3/\((all=true/\be=0)∨(all=false/\In be 1 4))
instance (cl:Int) (all:Bool) (be:Int):Decidable (zfN cl all be):=by unfold zfN;exact inferInstance
def qI (p:Qh):Prop:=In p.pe 1 20/\((p.len=0/\p.hei=0)∨zbA p.len p.hei)/\((p.cl=0/\p.all=false/\p.be=0)∨zfN p.cl p.all p.be)
instance (p:Qh):Decidable (qI p):=by unfold qI;exact inferInstance
def Ql (l h:Int):Int:=if zbA l h then (if 600<l then 90+25*((l - 600+99) / 100) else if 450<l then 90 else 60)+(if 220<h then 30 else 0) else 0
def zdh (cl:Int):Int:=if cl=1 then 30 else if cl=2 then 50 else 80
def Zs (cl:Int)(all:Bool)(be:Int):Int:=if zfN cl all be then (if all then 3*zdh cl else zdh cl*be) else 0
def zdb (pe legs n:Int):Int :=
 let a:=if 8<=pe then n - n / 20 else n
 if legs=3 then a - a / 10 else a
def zE (p:Qh)(legs:Int):Int:=zdb p.pe legs (legs*(40*p.pe+Ql p.len p.hei+Zs p.cl p.all p.be))
def QU (p:Qh)(legs:Int):Prop:=qI p/\In legs 1 3
instance (p:Qh) (legs:Int):Decidable (QU p legs):=by unfold QU;exact inferInstance
def Z6 (price QW:Int):Int:=if In price 0 1000000/\In QW (-10000) 10000 then (if 100<=QW then price else if 20<=QW then price / 2 else 0) else 0
theorem zbV (l h:Int):0<=Ql l h/\Ql l h<=500:=by
 unfold Ql
 by_cases c:zbA l h
 ·have h1:=c.1
  unfold In at h1;rw[Jf c]
  repeat' split
  all_goals omega
 ·rw[Je c];omega
theorem zbf (cl:Int)(all:Bool)(be:Int):0<=Zs cl all be/\Zs cl all be<=320:=by
 have hb:30<=zdh cl/\zdh cl<=80:=by unfold zdh;repeat' split <;> omega
 unfold Zs
 by_cases c:zfN cl all be
 ·rw[Jf c]
  cases all with
  | true=>simp;omega
  | false =>
   rcases c.2 with⟨h,_⟩|⟨_,h⟩
   ·cases h
   ·unfold In at h
    have a:be=1∨be=2∨be=3∨be=4:=by omega
    rcases a with rfl|rfl|rfl|rfl <;> simp <;> omega
 ·rw[Je c];omega
theorem zgl (pe len hei cl:Int)(all:Bool)(be:Int)(w:World) :
  Calls prog 48 #[.agg #[int i64 pe,int i64 len,int i64 hei,int i64 cl,.bool all,int i64 be]] w λe w'=>e=.returned (.agg #[int i64 pe,int i64 len,int i64 hei,int i64 cl,.bool all,int i64 be])/\Below w.heap.size w w':=by
 go_enter func48,ntmps48;go_wp2;exact Jj (v:=.agg #[int i64 pe,int i64 len,int i64 hei,int i64 cl,.bool all,int i64 be]) (by simp[results,results48,go_sem]) rfl ⟨rfl,zk (zk (zk bZ _) _) _⟩
theorem zfC (pe len hei cl:Int)(all:Bool)(be:Int)(w:World) :
  Calls prog 61 #[.agg #[int i64 pe,int i64 len,int i64 hei,int i64 cl,.bool all,int i64 be],.agg #[int i64 pe,int i64 len,int i64 hei,int i64 cl,.bool all,int i64 be]] w λe w'=>e=.returned (.bool true)/\Below w.heap.size w w':=by
 go_enter func61,ntmps61;go_wp2;go_ret;exact⟨rfl,zk (zk bZ _) _⟩
section
open Go.RowKit
variable{w:World}{g t:Nat}{u0 u1 u2 u3 u4 u5 u6 u7 u8 u9 u10 u11 u12:Value}
theorem zgm {v3:Value}(h:w.heap[g]?=some (.cells #[u0,u1,u2,u3,u4,u5,u6,u7,u8,u9,u10,u11,u12] t (0,0))):(qH w g 3 [v3]).heap[g]?=some (.cells #[u0,u1,u2,v3,u4,u5,u6,u7,u8,u9,u10,u11,u12] t (0,0)):=by
 have:=(zm h 3 v3);simp only[qH]
 simpa using this
theorem zfO {v4 v5 v6 v7 d e a b c:Value}(h:w.heap[g]?=some (.cells #[u0,u1,u2,u3,u4,u5,u6,u7,u8,u9,u10,u11,u12] t (0,0))):(qH w g 4 [v4,v5,v6,v7,d,e,a,b,c]).heap[g]?=some (.cells #[u0,u1,u2,u3,v4,v5,v6,v7,d,e,a,b,c] t (0,0)):=by
 have:=(zm (zm (zm (zm (zm (zm (zm (zm (zm h 4 v4) 5 v5) 6 v6) 7 v7) 8 d) 9 e) 10 a) 11 b) 12 c);simp only[qH]
 simpa using this
theorem zfP {v0 v1 v2 v3 v4 v5 v6 v7 d e a b c:Value}(h:w.heap[g]?=some (.cells #[u0,u1,u2,u3,u4,u5,u6,u7,u8,u9,u10,u11,u12] t (0,0))):(qH w g 0 [v0,v1,v2,v3,v4,v5,v6,v7,d,e,a,b,c]).heap[g]?=some (.cells #[v0,v1,v2,v3,v4,v5,v6,v7,d,e,a,b,c] t (0,0)):=by
 have:=(zm (zm (zm (zm (zm (zm (zm (zm (zm (zm (zm (zm (zm h 0 v0) 1 v1) 2 v2) 3 v3) 4 v4) 5 v5) 6 v6) 7 v7) 8 d) 9 e) 10 a) 11 b) 12 c);simp only[qH]
 simpa using this
theorem zio (name:Int)(who:Int)(own:ByteArray)(c:Option Addr)(lgn d:Nat)(pe:Int)(len:Int)(hei:Int)(cl:Int)(all:Bool)(be:Int)(state:Int)(unt:Int)(price:Int)(L:Int)(w:World)(h0:0<=L)(hL:L<=1048576)(m:own.size<=1000000000000000)(h:lgn<=1000000000000000) :
  Calls prog 80 #[.agg #[name,who,own,(c,lgn,d),pe,len,hei,cl,all,be,state,unt,price],L] w λe w'=>∃ r:Int,e=.returned r/\(r=-1∨(0<=r/\r<=L/\own.size<=1048576/\lgn<=1048576))/\Below w.heap.size w w':=by
 have f:Below _ w (w.alloc (.cells #[name,who,own,(c,lgn,d),pe,len,hei,cl,all,be,state,unt,price] 135)):=zk bZ _;have i:=zoP f
 by_cases gown:(own.size:Int)<=L
 ·have g:decide (L - (own.size:Int)<0)=false:=by simp;omega
  go_enter func80,ntmps80;go_wp2_with fail;refine(zhN c lgn d _ _ (by omega) (by omega) h).mono ?_
  rintro e w1 ⟨o,rfl,j,a⟩;have n:=zb i a;have b:=ze f a
  rcases j with rfl|⟨k,p,l⟩
  ·go_wp2
   go_ret;exact⟨_,rfl,.inl rfl,b⟩
  ·have d1:decide (o<0)=false:=by simpa using k
   go_wp2;go_ret;exact⟨_,rfl,.inr ⟨by omega,by omega,by omega,l⟩,b⟩
 ·have g:decide (L - (own.size:Int)<0)=true:=by simp;omega
  go_enter func80,ntmps80;go_wp2;go_ret;exact⟨_,rfl,.inl rfl,f⟩
theorem zip (name:Int)(who:Int)(own:ByteArray)(g:Option Addr)(lgn l:Nat)(lg:Nat->Int)(pe:Int)(len:Int)(hei:Int)(cl:Int)(all:Bool)(be:Int)(state:Int)(unt:Int)(price:Int)(w:World)(a5:lgn<=1048576)(a4:zT w g lgn lg) :
  Calls prog 96 #[.agg #[name,who,own,(g,lgn,l),pe,len,hei,cl,all,be,state,unt,price]] w λe w'=>∃ b,e=.returned (.agg #[name,who,own,(some (b,0),lgn,lgn),pe,len,hei,cl,all,be,state,unt,price])/\(w.heap.size<=b/\b<w'.heap.size/\w'.rowIs b 3 lgn (λk=>int i64 (lg k)))/\Below w.heap.size w w':=by
 go_enter func96,ntmps96;go_wp2_with fail;obtain⟨T,m⟩:∃ W,W=(((w.alloc (.cells #[name,who,own,(g,lgn,l),pe,len,hei,cl,all,be,state,unt,price] 135)).alloc (.cells #[(),(),False,True,(),(),(),(),.bool false,(),(),(),()] 150)).alloc (.cells #[name,who,own,True,(),(),(),(),.bool false,(),(),(),()] 150)):=⟨_,rfl⟩;have U:Below w.heap.size w T:=by rw[m];exact zk (zk (zk bZ _) _) _
 have A0:T.heap[w.heap.size]?=some (.cells #[name,who,own,(g,lgn,l),pe,len,hei,cl,all,be,state,unt,price] 135 (0,0)):=by rw[m];exact zd (zd (Jb w _) _) _
 have R0:T.heap[w.heap.size+1]?=some (.cells #[(),(),False,True,(),(),(),(),.bool false,(),(),(),()] 150 (0,0)):=by rw[m];exact zd (by simpa using Jb (w.alloc _) _) _
 have V:T.heap[w.heap.size+1+1]?=some (.cells #[name,who,own,True,(),(),(),(),.bool false,(),(),(),()] 150 (0,0)):=by rw[m];simpa using Jb ((w.alloc _).alloc _) _
 rw[← m];clear m;refine(zhM g lgn l lg _ a5 (a4.below U)).mono ?_;rintro e v0 ⟨b,rfl,I,a,p⟩;have f:=zb A0 p;have C:=zb R0 p;have q:=zb V p;have A:=ze U p;have d2:w.heap.size+1+1<b:=by have:=zM V;omega
 have H:w.heap.size<=b:=by omega
 clear A0 R0 V U p I;have a6:=za f 4 _ rfl;have a7:=za f 5 _ rfl;have a8:=za f 6 _ rfl;have a9:=za f 7 _ rfl;have b0:=za f 8 _ rfl;have b1:=za f 9 _ rfl;have u:=za q 3 _ rfl;have X:=zg q 3;go_wp2_with fail;clear a6 a7 a8 a9 b0 b1 X u;obtain⟨z,h⟩:∃ W,W=qH v0 (w.heap.size+1+1) 3 [(some (b,0),lgn,lgn)]:=⟨_,rfl⟩;have A1:z.heap[w.heap.size]?=some (.cells #[name,who,own,(g,lgn,l),pe,len,hei,cl,all,be,state,unt,price] 135 (0,0)):=by rw[h];exact qe (by omega) _ _ _ f
 have R1:z.heap[w.heap.size+1]?=some (.cells #[(),(),False,True,(),(),(),(),.bool false,(),(),(),()] 150 (0,0)):=by rw[h];exact qe (by omega) _ _ _ C
 have O1:z.heap[w.heap.size+1+1]?=some (.cells #[name,who,own,(some (b,0),lgn,lgn),(),(),(),(),.bool false,(),(),(),()] 150 (0,0)):=by rw[h];exact zgm q
 have H1:Below w.heap.size w z:=by rw[h];exact qZ (by omega) _ _ _ A
 have c:z.rowIs b 3 lgn (λk=>int i64 (lg k)):=by rw[h];exact qD (by omega) _ _ _ a
 have J:z=(v0.setCell (w.heap.size+1+1,3) (some (b,0),lgn,lgn)):=by rw[h];rfl
 rw[← J];clear h J f C q A a;have a:=c;clear c;refine(zgl pe len hei cl all be _).mono ?_;rintro e v1 ⟨rfl,n⟩;have o:=zb A1 n;have r:=zb R1 n;have d:=zb O1 n;have B:=ze H1 n;have j:=qo a n;clear A1 R1 O1 H1 n a;have a:=j;clear j;have N:=za o 10 _ rfl;have O:=za o 11 _ rfl;have P:=za o 12 _ rfl;obtain⟨b2,b3,b4,u,b5,b6,b7,b8,b9,c0,Q,R,S⟩:=zeX d;have Y:=zg d 4;have Z:=zg d 5;have a0:=zg d 6;have a1:=zg d 7;have a2:=zg d 8;have a3:=zg d 9;have D:=zg d 10;have E:=zg d 11;have G:=zg d 12;obtain⟨y0,y1,y2,y3,y4,y5,y6,y7,y8,y9,c9,d0,d1⟩:=zeX r;obtain⟨z0,z1,z2,z3,z4,z5,z6,z7,z8,z9,v,x,y⟩:=fe13 r;go_wp2;clear N O P Y Z a0 a1 a2 a3 D E G b2 b3 b4 u b5 b6 b7 b8 b9 c0 Q R S z0 y0 z1 y1 z2 y2 z3 y3 z4 y4 z5 y5 z6 y6 z7 y7 z8 y8 z9 y9 v c9 x d0 y d1;obtain⟨s,i⟩:∃ W,W=qH v1 (w.heap.size+1+1) 4 [pe,len,hei,cl,all,be,state,unt,price]:=⟨_,rfl⟩;have A2:s.heap[w.heap.size]?=some (.cells #[name,who,own,(g,lgn,l),pe,len,hei,cl,all,be,state,unt,price] 135 (0,0)):=by rw[i];exact qe (by omega) _ _ _ o
 have R2:s.heap[w.heap.size+1]?=some (.cells #[(),(),False,True,(),(),(),(),.bool false,(),(),(),()] 150 (0,0)):=by rw[i];exact qe (by omega) _ _ _ r
 have O2:s.heap[w.heap.size+1+1]?=some (.cells #[name,who,own,(some (b,0),lgn,lgn),pe,len,hei,cl,all,be,state,unt,price] 150 (0,0)):=by rw[i];exact zfO d
 have H2:Below w.heap.size w s:=by rw[i];exact qZ (by omega) _ _ _ B
 have c:s.rowIs b 3 lgn (λk=>int i64 (lg k)):=by rw[i];exact qD (by omega) _ _ _ a
 have K:s=(((((((((v1.setCell (w.heap.size+1+1,4) pe).setCell (w.heap.size+1+1,5) len).setCell (w.heap.size+1+1,6) hei).setCell (w.heap.size+1+1,7) cl).setCell (w.heap.size+1+1,8) all).setCell (w.heap.size+1+1,9) be).setCell (w.heap.size+1+1,10) state).setCell (w.heap.size+1+1,11) unt).setCell (w.heap.size+1+1,12) price):=by rw[i];rfl
 rw[← K];clear i K o r d B a;have a:=c;clear c;obtain⟨F,M⟩:∃ F,F=qH s (w.heap.size+1) 0 [name,who,own,(some (b,0),lgn,lgn),pe,len,hei,cl,all,be,state,unt,price]:=⟨_,rfl⟩;have RF:F.heap[w.heap.size+1]?=some (.cells #[name,who,own,(some (b,0),lgn,lgn),pe,len,hei,cl,all,be,state,unt,price] 150 (0,0)):=by rw[M];exact zfP R2
 have HF:Below w.heap.size w F:=by rw[M];exact qZ (by omega) _ _ _ H2
 have t:F.rowIs b 3 lgn (λk=>int i64 (lg k)):=by rw[M];exact qD (by omega) _ _ _ a
 have L:F=(((((((((((((s.setCell (w.heap.size+1,0) name).setCell (w.heap.size+1,1) who).setCell (w.heap.size+1,2) own).setCell (w.heap.size+1,3) (some (b,0),lgn,lgn)).setCell (w.heap.size+1,4) pe).setCell (w.heap.size+1,5) len).setCell (w.heap.size+1,6) hei).setCell (w.heap.size+1,7) cl).setCell (w.heap.size+1,8) all).setCell (w.heap.size+1,9) be).setCell (w.heap.size+1,10) state).setCell (w.heap.size+1,11) unt).setCell (w.heap.size+1,12) price):=by rw[M];rfl
 rw[← L];clear M L;obtain⟨z0,z1,z2,z3,z4,z5,z6,z7,z8,z9,v,x,y⟩:=zeX RF;exact Jj (by simp[results,results96,go_sem,z0,z1,z2,z3,z4,z5,z6,z7,z8,z9,v,x,y]) rfl ⟨b,rfl,⟨H,t.lt,t⟩,HF⟩
theorem ziq (name:Int)(who:Int)(own:ByteArray)(b:Option Addr)(lgn j:Nat)(lg:Nat->Int)(pe:Int)(len:Int)(hei:Int)(cl:Int)(all:Bool)(be:Int)(state:Int)(unt:Int)(price:Int)(a:Option Addr)(h:Nat)(w:World)(q:lgn<=1048576)(p:zT w b lgn lg)(k:zT w a lgn lg) :
  Calls prog 125 #[.agg #[name,who,own,(b,lgn,j),pe,len,hei,cl,all,be,state,unt,price],.agg #[name,who,own,(a,lgn,h),pe,len,hei,cl,all,be,state,unt,price]] w λe w'=>e=.returned (.bool true)/\Below w.heap.size w w':=by
 have i:Below _ w ((w.alloc (.cells #[name,who,own,(b,lgn,j),pe,len,hei,cl,all,be,state,unt,price] 150)).alloc (.cells #[name,who,own,(a,lgn,h),pe,len,hei,cl,all,be,state,unt,price] 150)):=zk (zk bZ _) _;have l:=zoQ i;have n:=zoR i;go_enter func125,ntmps125;go_wp2_with fail;generalize (w.alloc _).alloc _=v at i l n ⊢;refine(zgj b _ lgn j _ lg _ q (p.below i) (k.below i)).mono ?_;rintro e v0 ⟨rfl,c⟩;have f:=zb l c;have g:=zb n c;have F:=ze i c;clear l n i c;have r:=za f 4 _ rfl;have z:=za g 4 _ rfl;have s:=za f 5 _ rfl;have A:=za g 5 _ rfl;have t:=za f 6 _ rfl;have B:=za g 6 _ rfl;have u:=za f 7 _ rfl;have C:=za g 7 _ rfl;have x:=za f 8 _ rfl;have D:=za g 8 _ rfl;have y:=za f 9 _ rfl;have E:=za g 9 _ rfl;go_wp2_with fail;clear r z s A t B u C x D y E;refine(zfC pe len hei cl all be _).mono ?_;rintro e v1 ⟨rfl,d⟩;have m:=zb f d;have o:=zb g d;have M:=ze F d;clear f g F d;have G:=za m 10 _ rfl;have J:=za o 10 _ rfl;have H:=za m 11 _ rfl;have K:=za o 11 _ rfl;have I:=za m 12 _ rfl;have L:=za o 12 _ rfl;go_wp2;go_ret;exact⟨rfl,M⟩
theorem zir (cs:List Value)(x:ql)(L:Int)(w:World)(f:0<=L)(g:L<=1048576)(j:ql.Short x 1000000000000000)(h:ql.Is w cs x) :
  Calls prog 80 #[.agg cs.toArray,L] w λe w'=>∃ r:Int,e=.returned r/\(r=-1∨(0<=r/\r<=L/\ql.Short x 1048576))/\Below w.heap.size w w':=by
 obtain⟨c,d,rfl,i,k⟩:=h;obtain⟨a,b⟩:=j;exact zio _ _ _ _ _ _ _ _ _ _ _ _ _ _ _ L w f g a b
theorem zis (cs:List Value)(x:ql)(w:World)(k:ql.Short x 1048576)(h:ql.Is w cs x) :
  Calls prog 96 #[.agg cs.toArray] w λe w'=>∃ cs',e=.returned (.agg cs'.toArray)/\ql.In w' w.heap.size w'.heap.size cs' x/\Below w.heap.size w w':=by
 obtain⟨f,g,rfl,b,l⟩:=h;obtain⟨_,a⟩:=k;refine(zip _ _ _ _ _ _ _ _ _ _ _ _ _ _ _ _ w a b).mono ?_;rintro e w' ⟨c,j,d,i⟩;exact⟨_,j,⟨c,rfl,d⟩,i⟩
theorem zhw (cs g:List Value)(x:ql)(w:World)(m:ql.Short x 1048576)(h:ql.Is w cs x)(l:ql.Is w g x) :
  Calls prog 125 #[.agg cs.toArray,.agg g.toArray] w λe w'=>e=.returned (.bool true)/\Below w.heap.size w w':=by
 obtain⟨j,k,rfl,c,n⟩:=h;obtain⟨d,f,rfl,a,i⟩:=l;obtain⟨_,b⟩:=m;exact ziq _ _ _ _ _ _ _ _ _ _ _ _ _ _ _ _ _ _ w b c a
end
end Go.Proofs.YtmdnjgihooflfaaGreatDoor
