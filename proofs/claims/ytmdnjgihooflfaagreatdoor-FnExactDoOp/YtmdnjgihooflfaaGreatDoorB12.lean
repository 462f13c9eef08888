/-
  OWN TEXT: PlainF, PlainOff, SpecWk, WorkI, FreeW, SettC, SettD.
-/
import Derived.Great.Walk
import Derived.Test.YtmdnjgihooflfaaGreatDoorB10
import Derived.Test.YtmdnjgihooflfaaGreatDoorB11
namespace Go.Proofs.YtmdnjgihooflfaaGreatDoor
open Go.RowKit
open Go.Value (int)
open Go.IntKind (i64)
open Tryz
set_option maxHeartbeats 64000000
set_option maxRecDepth 100000
def zW (S:Nat->Zj)(x:Int):Nat->Nat
 | 0=>0
 | n+1=>if zW S x n<n then zW S x n else if (S n).id=x then n else n+1
theorem zcm (S:Nat->Zj)(x:Int)(n:Nat):zW S x n<=n:=by
 induction n with
 | zero=>exact Jr _
 | succ n ih=>unfold zW;split <;> (try split) <;> omega
theorem ziI (S:Nat->Zj)(x:Int)(n:Nat):∀ j,j<zW S x n->(S j).id≠x:=by
 induction n with
 | zero=>intro j a;unfold zW at a;omega
 | succ n ih =>
  intro j a;unfold zW at a;have hl:=zcm S x n
  split at a
  ·exact ih j a
  ·rename_i h
   split at a
   ·exact ih j (by omega)
   ·rename_i h2
    by_cases e:j=n
    ·subst e;exact h2
    ·exact ih j (by omega)
theorem zcn (S:Nat->Zj)(x:Int)(n:Nat)(h:zW S x n<n):(S (zW S x n)).id=x:=by
 induction n with
 | zero=>omega
 | succ n ih =>
  unfold zW at h ⊢
  split
  ·rename_i h1;exact ih h1
  ·rename_i h1
   rw[Je h1] at h
   split
   ·rename_i h2;exact h2
   ·rename_i h2;rw[Je h2] at h;omega
theorem zkg {S:Nat->Zj}{x:Int}{n r:Nat}(hr:r<n)(b:(S r).id=x)(a:∀ j,j<r->(S j).id≠x):zW S x n=r:=by
 have h1:=ziI S x n
 by_cases c:zW S x n<r
 ·exact absurd (zcn S x n (by omega)) (a _ c)
 ·by_cases c2:r<zW S x n
  ·exact absurd b (h1 r c2)
  ·omega
theorem zgD {S:Nat->Zj}{x:Int}{n:Nat}(a:∀ j,j<n->(S j).id≠x):zW S x n=n:=by
 have h1:=zcm S x n
 by_cases c:zW S x n<n
 ·exact absurd (zcn S x n c) (a _ c)
 ·omega
def zkh (N:Nat)(S:Nat->Zj)(G:Nat->Int)(i:Nat):Prop :=
 zW S (G i) N<N/\(0<i->(S (zW S (G (i - 1)) N)).dst=(S (zW S (G i) N)).fr/\(S (zW S (G (i - 1)) N)).arr<=(S (zW S (G i) N)).dep)
def zad (N:Nat)(S:Nat->Zj)(n:Nat)(G:Nat->Int):Prop:=1<=n/\n<=3/\∀ i,i<n->zkh N S G i
section
open Go.RowKit
def ql.p (b:ql):Qh:=⟨b.pe,b.len,b.hei,b.cl,b.all,b.be⟩
def zez (b:ql):Prop:=b.state=1∨b.state=2
instance (b:ql):Decidable (zez b):=by unfold zez;exact inferInstance
def HasLeg (b:ql)(x:Int):Prop:=∃ j,j<b.lgn/\b.lg j=x
def zaA (b:ql):Prop:=if b.state=1∨b.state=4 then In b.unt 0 10000 else b.unt=0
instance (b:ql):Decidable (zaA b):=by unfold zaA;exact inferInstance
def Zt (o:Off)(i:Nat):Prop :=
 (o.bk i).name=i+1/\In (o.bk i).who 1 9999/\Zg (o.bk i).own/\zad o.san o.sa (o.bk i).lgn (o.bk i).lg/\qI (o.bk i).p/\In (o.bk i).state 1 4/\In (o.bk i).price 0 1000000 /\
  (∀ j,j<i->(o.bk j).who≠(o.bk i).who)/\zaA (o.bk i)
def zeA (x:zY)(b:ql)(n:Nat):Prop:=∃ j,j<n/\(x.se j).who=b.who/\(x.se j).many=b.pe
def zeB (x:zY)(b:ql)(n:Nat):Prop:=∃ j,j<n/\(x.st j).who=b.who/\(x.st j).len=b.len/\(x.st j).hei=b.hei
def zmD (s:Zj)(b:ql)(r:qN):Prop:=r.who=b.who/\r.all=b.all/\s.ca.A r.cab.toNat=b.cl/\(b.all=true∨r.many=b.be)
def zdt (s:Zj)(x:zY)(b:ql)(n:Nat):Prop:=∃ j,j<n/\zmD s b (x.ro j)
def zbX (s:Zj)(x:zY)(b:ql):Prop:=zeA x b x.sen/\(b.len=0∨zeB x b x.stn)/\(b.cl=0∨zdt s x b x.ron)
open Classical in
/-- How many of the first n are so. -/
noncomputable def cnt (P:Nat->Prop):Nat->Nat
 | 0=>0
 | n+1=>cnt P n+(if P n then 1 else 0)
theorem Qy {P:Nat->Prop}{n:Nat}(h:P n):cnt P (n+1)=cnt P n+1:=by rw[cnt,Jf h]
theorem zae {P:Nat->Prop}{n:Nat}(h:¬ P n):cnt P (n+1)=cnt P n:=by rw[cnt,Je h];rfl
theorem zhT (P:Nat->Prop)(n:Nat):cnt P n<=n:=by
 induction n with
 | zero=>exact Jr _
 | succ n ih =>
  by_cases h:P n
  ·rw[Qy h];omega
  ·rw[zae h];omega
def qm (s:Zj)(x:zY):Prop:=DeckS s.la x.stn x.st/\Qr s.ca x.ron x.ro/\Qx s.most x.sen x.se
theorem zki {p:zH}{n:Nat}{S:Nat->qN}(h:Qr p n S):∀ j,j<n->0<=(S j).cab/\(S j).cab<p.n:=λj a=>by
 have:=(h.2.2.1 j a).1;unfold OkR0 In at this
 omega
def On (o:Off)(k i:Nat):Prop:=zez (o.bk i)/\HasLeg (o.bk i) (o.sa k).id
def zaQ (o:Off)(k:Nat):Prop :=
 (∀ i,i<o.bkn->On o k i->zbX (o.sa k) (o.ld k) (o.bk i))/\(o.ld k).stn=cnt (λi=>On o k i/\0<(o.bk i).len) o.bkn/\(o.ld k).ron=cnt (λi=>On o k i/\0<(o.bk i).cl) o.bkn/\(o.ld k).sen=cnt (On o k) o.bkn
def Zk (o:Off):Prop :=
 QJ o.san o.sa/\o.ldn=o.san/\o.bkn<=30/\(∀ k,k<o.san->qm (o.sa k) (o.ld k))/\(∀ i,i<o.bkn->Zt o i)/\∀ k,k<o.san->zaQ o k
end
structure Wk where
 leg:Int
 res:Nat
 goes:Bool
 who:Int
 p:Qh
def wkC (k:Wk):List Value:=[k.leg,(k.res:Int),k.goes,k.who,k.p.pe,k.p.len,k.p.hei,k.p.cl,k.p.all,k.p.be]
def zgE (l:List Wk):List Value:=l.flatMap wkC
theorem zfm (l:List Wk)(k:Wk):zgE (l++[k])=zgE l++wkC k:=by simp[zgE]
def Zd (goes:Bool)(who:Int)(p:Qh)(leg:Int):Nat->List Wk
 | 0=>[]
 | j+1=>if zaI p.len p.cl j=true then Zd goes who p leg j++[⟨leg,j,goes,who,p⟩] else Zd goes who p leg j
def Zh (goes:Bool)(who:Int)(p:Qh)(F:Nat->Int):Nat->List Wk
 | 0=>[]
 | k+1=>Zh goes who p F k++Zd goes who p (F k) 3
theorem zco (goes:Bool)(who:Int)(p:Qh)(leg:Int):∀ j,(Zd goes who p leg j).length<=j
 | 0=>Jr _
 | j+1=>by
  have ih:=zco goes who p leg j;unfold Zd
  split
  ·rw[List.length_append];simp;omega
  ·omega
theorem QD (goes:Bool)(who:Int)(p:Qh)(F:Nat->Int):∀ k,(Zh goes who p F k).length<=3*k
 | 0=>Jr _
 | k+1=>by
  have ih:=QD goes who p F k;have h:=zco goes who p (F k) 3;unfold Zh;rw[List.length_append]
  omega
theorem zcp {goes:Bool}{who:Int}{p:Qh}{leg:Int}:∀ {j:Nat}{k:Wk},k ∈ Zd goes who p leg j->k.leg=leg/\k.res<j/\k.goes=goes/\k.who=who/\k.p=p/\zaI p.len p.cl k.res=true
 | 0,k,h=>by simp[Zd] at h
 | j+1,k,h=>by
  unfold Zd at h
  split at h
  ·rename_i hu
   rcases List.mem_append.1 h with h|h
   ·obtain⟨a,b,c⟩:=zcp h;exact⟨a,by omega,c⟩
   ·simp at h;subst h;exact⟨rfl,Nat.lt_succ_self _,rfl,rfl,rfl,hu⟩
  ·obtain⟨a,b,c⟩:=zcp h;exact⟨a,by omega,c⟩
theorem zbb {goes:Bool}{who:Int}{p:Qh}{F:Nat->Int}:∀ {n:Nat}{k:Wk},k ∈ Zh goes who p F n->(∃ i,i<n/\k.leg=F i)/\k.res<3/\k.goes=goes/\k.who=who/\k.p=p/\zaI p.len p.cl k.res=true
 | 0,k,h=>by simp[Zh] at h
 | n+1,k,h=>by
  unfold Zh at h
  rcases List.mem_append.1 h with h|h
  ·obtain⟨⟨i,hi,e⟩,c⟩:=zbb h;exact⟨⟨i,by omega,e⟩,c⟩
  ·obtain⟨a,c⟩:=zcp h;exact⟨⟨n,Nat.lt_succ_self _,a⟩,c⟩
theorem Tryz.infoWork:(Tryz.prog.info? 159).map (λi=>(i.zero,i.size,i.bytes))=some (some (.agg #[(),(),.bool false,(),(),(),(),(),.bool false,()]),10,80):=by kernel_rfl
def Qj (w:World)(base:Nat)(v:Value)(l:List Wk):Prop:=w.ownsRow base 159 10 v l.length (zgE l)
theorem Qj.nil (w:World)(base:Nat):Qj w base True []:=World.ownsRow_nil _ _ _ _
def Qt (k:Int):Prop:=k=5∨k=6∨k=8
instance (k:Int):Decidable (Qt k):=by unfold Qt;exact inferInstance
def qk (x:Off)(a:Int)(y:OpD)(m:Nat):List Wk :=
 (if Qt y.kind then Zh true (x.bk m).who ⟨(x.bk m).pe,(x.bk m).len,(x.bk m).hei,(x.bk m).cl,(x.bk m).all,(x.bk m).be⟩ (x.bk m).lg (x.bk m).lgn else [])++(if zJ y.kind then Zh false a ⟨y.pe,y.len,y.hei,y.cl,y.all,y.be⟩ y.lg y.lgn else [])
theorem zlR (d8 d7 d2 a6:Option Addr)(N M R e1 e0 d9 b3 m:Nat)(x:Off)(y:OpD)(a:Int)(w:World)(hR:R<=1048576)(g2:Z2 R x.bk 1048576)(hl:y.lgn<=1048576)(f5:qO w d2 R x.bk)(f7:zT w a6 y.lgn y.lg)(hm:Qt y.kind->y.name=(m:Int)+1/\m<R) :
  Calls prog 91 #[.agg #[(d8,N,e1),(d7,M,e0),(d2,R,d9)],a,.agg (y,a6,b3)] w λe w'=>∃ v,e=.returned v/\Qj w' w.heap.size v (qk x a y m)/\Below w.heap.size w w':=by
 obtain⟨k0,ki,e7,e8,e9⟩:=info_parts Tryz.infoWork;have g3:=hI f5;have g5:=hI g2;have f4:=hI f7;clear f5 g2 f7;have g:Below _ w ((w.alloc (.cells #[(d8,N,e1),(d7,M,e0),(d2,R,d9)] 38)).alloc (.cells (y,a6,b3) 47)):=zk (zk bZ _) _;have bF:=zoQ g;have bO:=zoR g;obtain⟨c,e4⟩:∃ c:Qh,c=⟨y.pe,y.len,y.hei,y.cl,y.all,y.be⟩:=⟨_,rfl⟩;have d1:=hI e4
 by_cases hF:Qt y.kind
 ·obtain⟨f8,e3⟩:=hm hF
  obtain⟨Cc,g0,f6⟩:=g3;obtain⟨gb,off,d4,E⟩:=g0 m e3;have f0:=hI d4;clear d4;obtain⟨b2,b1,e2,g1,s1⟩:=f6 m e3;have e5:=g5 m e3;obtain⟨b,b5⟩:∃ b,b=x.bk m:=⟨_,rfl⟩;rw[← b5] at e2 g1 s1 e5;obtain⟨d,d3⟩:∃ d:Qh,d=⟨b.pe,b.len,b.hei,b.cl,b.all,b.be⟩:=⟨_,rfl⟩;have b0:Hid ((zJ y.kind->qk x a y m=Zh true b.who d b.lg b.lgn++Zh false a c y.lg y.lgn)/\(¬ zJ y.kind->qk x a y m=Zh true b.who d b.lg b.lgn)):=by
   constructor
   ·intro h;unfold qk;rw[Jf hF,Jf h,d3,b5,d1.out]
   ·intro h;unfold qk;rw[Jf hF,Je h,d3,b5,List.append_nil]
  have h5:=e5.2;have d5:Hid ((Zh true b.who d b.lg b.lgn).length<=3145728):=by have h:=QD true b.who d b.lg b.lgn;show _<=3145728;omega
  rw[e2] at E;have B:=Ja w _ (E 0 (by decide))
  have f1:=hI g1;have h4:=hI b5;have hk:(y.kind == 5)=true∨((y.kind == 5)=false/\(y.kind == 6)=true)∨((y.kind == 5)=false/\(y.kind == 6)=false/\(y.kind == 8)=true):=by
   unfold Qt at hF
   rcases hF with h|h|h <;> rw[h] <;> decide
  rw[f8] at bO g bF ⊢;go_enter func91,ntmps91;go_upto_region 2 with fail;generalize (w.alloc _).alloc _=V at g bF bO ⊢;have f2:=za bF 2 _ rfl;rw[f0.out] at f2;have o0:=za bO 0 _ rfl;have o2:=za bO 2 _ rfl;have c0:V.cell? _=some (.int _ _):=(g.cell (p:=⟨gb,off+_,_⟩) B).trans (E 0 (by decide))
  have c1:V.cell? _=some (.int _ _):=(g.cell (p:=⟨gb,_+1,_⟩) B).trans (E 1 (by decide))
  have c2:V.cell? _=some (.string _):=(g.cell (p:=⟨gb,_+2,_⟩) B).trans (E 2 (by decide))
  have c3:V.cell? _=some (.slice b2 _ b1):=(g.cell (p:=⟨gb,_+3,_⟩) B).trans (E 3 (by decide))
  have c4:V.cell? _=some (.int _ _):=(g.cell (p:=⟨gb,_+4,_⟩) B).trans (E 4 (by decide))
  have c5:V.cell? _=some (.int _ _):=(g.cell (p:=⟨gb,_+5,_⟩) B).trans (E 5 (by decide))
  have c6:V.cell? _=some (.int _ _):=(g.cell (p:=⟨gb,_+6,_⟩) B).trans (E 6 (by decide))
  have c7:V.cell? _=some (.int _ _):=(g.cell (p:=⟨gb,_+7,_⟩) B).trans (E 7 (by decide))
  have c8:V.cell? _=some (.bool _):=(g.cell (p:=⟨gb,_+8,_⟩) B).trans (E 8 (by decide))
  have c9:V.cell? _=some (.int _ _):=(g.cell (p:=⟨gb,_+9,_⟩) B).trans (E 9 (by decide))
  have g6:V.cell? _=some (.int _ _):=(g.cell (p:=⟨gb,_+10,_⟩) B).trans (E 10 (by decide))
  have g7:V.cell? _=some (.int _ _):=(g.cell (p:=⟨gb,_+11,_⟩) B).trans (E 11 (by decide))
  have g8:V.cell? _=some (.int _ _):=(g.cell (p:=⟨gb,_+12,_⟩) B).trans (E 12 (by decide))
  have i0:(0:Int)<=(m:Int):=by omega
  have i1:(m:Int)<(R:Int):=by omega
  have g9:IntKind.i64.wrap ((m:Int)+1 - 1)=(m:Int):=by rw[Jk];omega
  have bX:=Jb V (.cells (b,b2,b1) 150);have pX:=zoS bX;clear E e2 g1 s1 e5 g0 f6 b5;go_cut [27] (λv wx=>v=.bool true/\wx=V)
  case first =>
   rcases hk with h|⟨h,h6⟩|⟨h,h6,h8⟩
   all_goals
    go_wp2;go_meet;exact⟨rfl,rfl⟩
  case rest =>
  obtain⟨rfl,e6⟩:=hcut;have e6:=e6.symm;subst e6;clear hk o0;have g4:=hI bO;go_upto_region 4 with fail;have BO:Hid ((V.alloc (.cells (b,b2,b1) 150)).heap[w.heap.size+1]?=some (.cells #[y.kind,y.own,y.name,(a6,y.lgn,b3),c.pe,c.len,c.hei,c.cl,c.all,c.be,y.unt,y.now] 47 (0,0))):=by rw[d1.out,f8];exact zd bO _
  have BX:Hid ((V.alloc (.cells (b,b2,b1) 150)).heap[V.heap.size]?=some (.cells #[b.name,b.who,b.own,(b2,b.lgn,b1),d.pe,d.len,d.hei,d.cl,d.all,d.be,b.state,b.unt,b.price] 150 (0,0))):=by rw[d3];exact bX
  have l:=hI (ze g pX);generalize V.heap.size=xb at BX bX ⊢;generalize V.alloc _=W at bX pX BO BX l ⊢;clear c0 c1 c2 c3 c4 c5 c6 c7 c8 c9 g6 g7 g8 f2 o2 bO bF g pX g4 i0 i1 g9;have x3:=za bX 3 _ rfl;have a9:=hI (f1.below l);have d6:=hI (f4.below l);have C:Hid (Qj W W.heap.size _ []):=Qj.nil _ _;have U:Hid (Below W.heap.size W W):=bZ;have b4:([]:List Wk).length<=3145728:=Jq _;have T:W.heap.size<=W.heap.size:=Jr _;clear bX e4 d3;go_wp2;clear x3;go_loopw [7,10,11,38] (λv _ _ i wr=>∃ k,k<=b.lgn/\i=int i64 k/\Hid (Qj wr W.heap.size v ([]++Zh true b.who d b.lg k))/\Hid (Below W.heap.size W wr)) (λ_ _ _ i _=>b.lgn - (intOf i).toNat)
  case atStart=>exact⟨0,Jq _,rfl,(by show Qj _ _ _ ([]++[]);rw[List.append_nil];exact C),U⟩
  case round =>
   clear C U;obtain⟨k,hk,rfl,D,n⟩:=hrel
   by_cases hlt:k<b.lgn
   ·obtain⟨gb,go,b6,L⟩:=a9 k hlt
    subst b6;have E:=(n.cell (Ja W _ L)).trans L;obtain⟨leg,o⟩:∃ leg,leg=b.lg k:=⟨_,rfl⟩;rw[← o] at E;have Y:=hI o;have b8:([]++Zh true b.who d b.lg k).length<=3145728+3*k:=by have h1:=QD true b.who d b.lg k;have h2:=b4;rw[List.length_append];omega
    obtain⟨P,hP⟩:∃ P,P=[]++Zh true b.who d b.lg k:=⟨_,rfl⟩;rw[← hP] at b8;have HP:=hI hP;have a0:Hid (Qj wr W.heap.size u7 P):=by rw[hP];exact D
    clear o hP D L;go_wp2;clear E;obtain⟨wo,d0⟩:∃ z,z=wr:=⟨_,rfl⟩;subst d0;go_loopw [7,11] (λv r wr=>∃ j:Nat,j<=3/\r=int i64 j/\Hid (Qj wr W.heap.size v (P++Zd true b.who d leg j))/\Hid (Below W.heap.size W wr)) (λ_ r _=>3 - (intOf r).toNat)
    case atStart=>exact⟨0,Jq _,rfl,(by show Qj _ _ _ (P++[]);rw[List.append_nil];exact a0),n⟩
    case round =>
     clear a0 n;obtain⟨j,hj,rfl,A,s⟩:=hrel
     by_cases hj3:j<3
     ·have f:=zb BX s
      have y1:=za f 1 _ rfl;have y4:=za f 4 _ rfl;have y5:=za f 5 _ rfl;have y6:=za f 6 _ rfl;have y7:=za f 7 _ rfl;have y8:=za f 8 _ rfl;have y9:=za f 9 _ rfl;have b7:=zco true b.who d leg j;obtain⟨Q,hQ⟩:∃ Q,Q=P++Zd true b.who d leg j:=⟨_,rfl⟩;have f9:Q.length<=3145731+3*k:=by rw[hQ,List.length_append];omega
      rw[← hQ] at A;have HQ:=hI hQ;clear hQ b7;have cu:=zfk d.pe d.len d.hei d.cl d.be d.all j wr hj3;obtain⟨ub,S⟩:∃ ub,ub=zaI d.len d.cl j:=⟨_,rfl⟩;rw[← S] at cu;have a1:=hI S.symm;clear S;go_wp2_with fail;refine cu.mono ?_;clear cu;rintro e w4 ⟨rfl,K⟩;have t:=hI (zo K A);have G:=hI (ze s K);clear A s K y1 y4 y5 y6 y7 y8 y9 f
      cases ub with
      | false =>
       have X:Hid (Qj w4 W.heap.size u7 (P++Zd true b.who d leg (j+1))):=by
        have e:Zd true b.who d leg (j+1)=Zd true b.who d leg j:=by rw[Zd,Je (by rw[a1.out];decide)]
        rw[e,← HQ.out];exact t
       go_wp2;go_roundw
       case rel=>exact⟨_,by omega,by go_num,X,G⟩
       case measure=>simp[intOf];omega
      | true =>
       have f:=zb BX G;have y1:=za f 1 _ rfl;have y4:=za f 4 _ rfl;have y5:=za f 5 _ rfl;have y6:=za f 6 _ rfl;have y7:=za f 7 _ rfl;have y8:=za f 8 _ rfl;have y9:=za f 9 _ rfl;obtain⟨qa,qc,O,_⟩:=zp t;have O:=O;subst O;have H:Hid (Qj (w4.alloc (.cells #[leg,(j:Int),.bool true,b.who,d.pe,d.len,d.hei,d.cl,d.all,d.be] 159)) _ _ Q):=zo (zk bZ _) t;have q:Hid (Below _ W (w4.alloc (.cells #[leg,(j:Int),.bool true,b.who,d.pe,d.len,d.hei,d.cl,d.all,d.be] 159))):=zk G _;have b9:=Jp T q.size;have Z:Hid (∀ m u,([_,_,_,_,_,_,_,_,_,_]:List Value)[m]?=_->(w4.alloc (.cells #[leg,(j:Int),.bool true,b.who,d.pe,d.len,d.hei,d.cl,d.all,d.be] 159)).cell? _=_):=Jo (Jb w4 _);clear t f;go_wp2_with (first|(at_builtin;refine zv _ (by rfl) _ _ 156 (by rfl) _ 159 k0 _ 10 80 underlying156 ki e7 e8 e9 rfl (by decide) _ _ _ (by rfl) H _ 1 1 [_,_,_,_,_,_,_,_,_,_] (by rfl) (λh=>(by cases h)) (by rfl) (λad e=>by cases e;exact Z) (by intro u hu;simp at hu;rcases hu with rfl|rfl|rfl|rfl|rfl|rfl|rfl|rfl|rfl|rfl <;> rfl) (by unfold maxLen;omega) (by omega) b9 ?_;intro v9 w9 a3 a2))
       have X:Hid (Qj w9 W.heap.size v9 (P++Zd true b.who d leg (j+1))):=by
        have e:P++Zd true b.who d leg (j+1)=Q++[⟨leg,j,true,b.who,d⟩]:=by rw[HQ.out,List.append_assoc];congr 1;rw[Zd,Jf a1.out]
        show w9.ownsRow _ _ 10 v9 _ _
        rw[e,zfm,List.length_append];exact a3
       have a7:=hI (q.grown a2 q.size (λb hb=>by have:=(H.lt b hb).1;omega))
       clear y1 y4 y5 y6 y7 y8 y9 a3 a2 H q Z;go_wp2;go_roundw
       case rel=>exact⟨_,by omega,by go_num,X,a7⟩
       case measure=>simp[intOf];omega
     ·obtain rfl:j=3:=by omega
      have X:Hid (Qj wr W.heap.size u7 ([]++Zh true b.who d b.lg (k+1))):=by
       have e:[]++Zh true b.who d b.lg (k+1)=P++Zd true b.who d leg 3:=by rw[HP.out,Y.out,List.append_assoc];rfl
       rw[e];exact A
      go_wp2;go_roundw
      case rel=>exact⟨_,by omega,by go_num,X,s⟩
      case measure=>simp[intOf];omega
   ·obtain rfl:k=b.lgn:=by omega
    have I:=hI D;have F:=n;clear D n hlt hk
    by_cases hL:zJ y.kind
    ·have dL:=Jd hL
     have a8:Hid (∀ (z) (v),Qj z _ v _->Below W.heap.size W z->Qj z _ v (qk x a y m)):=λz v h _=>by
      have e:=b0.1 hL;rw[e];exact zu h l.size
     have J:=zb BO F;have o0:=za J 0 _ rfl;have o3:=za J 3 _ rfl;go_wp2_with (first|(go_at_call 160;refine sC (zV _ _) ?_))
     clear o0 o3 J hL dL;have BX:=BO;have a9:=d6;have C:=I;have U:=F;have b4:=d5.out;clear I F;go_loopw [7,13,14,67] (λv _ _ i wr=>∃ k,k<=y.lgn/\i=int i64 k/\Hid (Qj wr W.heap.size v ((Zh true b.who d b.lg b.lgn)++Zh false a c y.lg k))/\Hid (Below W.heap.size W wr)) (λ_ _ _ i _=>y.lgn - (intOf i).toNat)
     case atStart=>exact⟨0,Jq _,rfl,(by show Qj _ _ _ (_++[]);rw[List.append_nil];exact C.out),U.out⟩
     case round =>
      clear C U;obtain⟨k,hk,rfl,D,n⟩:=hrel
      by_cases hlt:k<y.lgn
      ·obtain⟨gb,go,b6,L⟩:=a9.out k hlt
       subst b6;have E:=(n.out.cell (Ja W _ L)).trans L;obtain⟨leg,o⟩:∃ leg,leg=y.lg k:=⟨_,rfl⟩;rw[← o] at E;have Y:=hI o;have b8:((Zh true b.who d b.lg b.lgn)++Zh false a c y.lg k).length<=3145728+3*k:=by have h1:=QD false a c y.lg k;have h2:=b4;rw[List.length_append];omega
       obtain⟨P,hP⟩:∃ P,P=(Zh true b.who d b.lg b.lgn)++Zh false a c y.lg k:=⟨_,rfl⟩;rw[← hP] at b8;have HP:=hI hP;have a0:Hid (Qj wr W.heap.size u7 P):=by rw[hP];exact D
       clear o hP D L;go_wp2;clear E;obtain⟨wo,d0⟩:∃ z,z=wr:=⟨_,rfl⟩;subst d0;go_loopw [7,14] (λv r wr=>∃ j:Nat,j<=3/\r=int i64 j/\Hid (Qj wr W.heap.size v (P++Zd false a c leg j))/\Hid (Below W.heap.size W wr)) (λ_ r _=>3 - (intOf r).toNat)
       case atStart=>exact⟨0,Jq _,rfl,(by show Qj _ _ _ (P++[]);rw[List.append_nil];exact a0),n⟩
       case round =>
        clear a0 n;obtain⟨j,hj,rfl,A,s⟩:=hrel
        by_cases hj3:j<3
        ·have f:=zb BX s
         have y4:=za f 4 _ rfl;have y5:=za f 5 _ rfl;have y6:=za f 6 _ rfl;have y7:=za f 7 _ rfl;have y8:=za f 8 _ rfl;have y9:=za f 9 _ rfl;have b7:=zco false a c leg j;obtain⟨Q,hQ⟩:∃ Q,Q=P++Zd false a c leg j:=⟨_,rfl⟩;have f9:Q.length<=3145731+3*k:=by rw[hQ,List.length_append];omega
         rw[← hQ] at A;have HQ:=hI hQ;clear hQ b7;have cu:=zfk c.pe c.len c.hei c.cl c.be c.all j wr hj3;obtain⟨ub,S⟩:∃ ub,ub=zaI c.len c.cl j:=⟨_,rfl⟩;rw[← S] at cu;have a1:=hI S.symm;clear S;go_wp2_with fail;refine cu.mono ?_;clear cu;rintro e w4 ⟨rfl,K⟩;have t:=hI (zo K A);have G:=hI (ze s K);clear A s K y4 y5 y6 y7 y8 y9 f
         cases ub with
         | false =>
          have X:Hid (Qj w4 W.heap.size u7 (P++Zd false a c leg (j+1))):=by
           have e:Zd false a c leg (j+1)=Zd false a c leg j:=by rw[Zd,Je (by rw[a1.out];decide)]
           rw[e,← HQ.out];exact t
          go_wp2;go_roundw
          case rel=>exact⟨_,by omega,by go_num,X,G⟩
          case measure=>simp[intOf];omega
         | true =>
          have f:=zb BX G;have y4:=za f 4 _ rfl;have y5:=za f 5 _ rfl;have y6:=za f 6 _ rfl;have y7:=za f 7 _ rfl;have y8:=za f 8 _ rfl;have y9:=za f 9 _ rfl;obtain⟨qa,qc,O,_⟩:=zp t;have O:=O;subst O;have H:Hid (Qj (w4.alloc (.cells #[leg,(j:Int),.bool false,a,c.pe,c.len,c.hei,c.cl,c.all,c.be] 159)) _ _ Q):=zo (zk bZ _) t;have q:Hid (Below _ W (w4.alloc (.cells #[leg,(j:Int),.bool false,a,c.pe,c.len,c.hei,c.cl,c.all,c.be] 159))):=zk G _;have b9:=Jp T q.size;have Z:Hid (∀ m u,([_,_,_,_,_,_,_,_,_,_]:List Value)[m]?=_->(w4.alloc (.cells #[leg,(j:Int),.bool false,a,c.pe,c.len,c.hei,c.cl,c.all,c.be] 159)).cell? _=_):=Jo (Jb w4 _);clear t f;go_wp2_with (first|(at_builtin;refine zv _ (by rfl) _ _ 156 (by rfl) _ 159 k0 _ 10 80 underlying156 ki e7 e8 e9 rfl (by decide) _ _ _ (by rfl) H _ 1 1 [_,_,_,_,_,_,_,_,_,_] (by rfl) (λh=>(by cases h)) (by rfl) (λad e=>by cases e;exact Z) (by intro u hu;simp at hu;rcases hu with rfl|rfl|rfl|rfl|rfl|rfl|rfl|rfl|rfl|rfl <;> rfl) (by unfold maxLen;omega) (by omega) b9 ?_;intro v9 w9 a3 a2))
          have X:Hid (Qj w9 W.heap.size v9 (P++Zd false a c leg (j+1))):=by
           have e:P++Zd false a c leg (j+1)=Q++[⟨leg,j,false,a,c⟩]:=by rw[HQ.out,List.append_assoc];congr 1;rw[Zd,Jf a1.out]
           show w9.ownsRow _ _ 10 v9 _ _
           rw[e,zfm,List.length_append];exact a3
          have a7:=hI (q.grown a2 q.size (λb hb=>by have:=(H.lt b hb).1;omega))
          clear y4 y5 y6 y7 y8 y9 a3 a2 H q Z;go_wp2;go_roundw
          case rel=>exact⟨_,by omega,by go_num,X,a7⟩
          case measure=>simp[intOf];omega
        ·obtain rfl:j=3:=by omega
         have X:Hid (Qj wr W.heap.size u7 ((Zh true b.who d b.lg b.lgn)++Zh false a c y.lg (k+1))):=by
          have e:(Zh true b.who d b.lg b.lgn)++Zh false a c y.lg (k+1)=P++Zd false a c leg 3:=by rw[HP.out,Y.out,List.append_assoc];rfl
          rw[e];exact A
         go_wp2;go_roundw
         case rel=>exact⟨_,by omega,by go_num,X,s⟩
         case measure=>simp[intOf];omega
      ·obtain rfl:k=y.lgn:=by omega
       have a5:=hI (a8 _ _ D n);have a4:=hI (ze l n);go_wp2;go_ret;exact⟨_,rfl,a5,a4⟩
    ·have dL:=Jc hL
     have a5:Hid (Qj wr w.heap.size u7 (qk x a y m)):=by
      have e:=b0.2 hL;rw[e];exact zu I l.size
     have a4:=hI (ze l F);have J:=zb BO F;have o0:=za J 0 _ rfl;go_wp2_with (first|(go_at_call 160;refine sC (zV _ _) ?_))
     go_ret;exact⟨_,rfl,a5,a4⟩
 ·have b0:Hid ((zJ y.kind->qk x a y m=([]:_)++Zh false a c y.lg y.lgn)/\(¬ zJ y.kind->qk x a y m=([]:_))):=by
   constructor
   ·intro h;unfold qk;rw[Je hF,Jf h,d1.out]
   ·intro h;unfold qk;rw[Je hF,Je h];rfl
  have k5:(y.kind == 5)=false:=by rw[beq_eq_false_iff_ne];intro h;exact hF (.inl h)
  have k6:(y.kind == 6)=false:=by rw[beq_eq_false_iff_ne];intro h;exact hF (.inr (.inl h))
  have k8:(y.kind == 8)=false:=by rw[beq_eq_false_iff_ne];intro h;exact hF (.inr (.inr h))
  have d5:Hid (([]:List Wk).length<=3145728):=Jq _;go_enter func91,ntmps91;go_upto_region 2 with fail;have BO:Hid (((w.alloc (.cells #[(d8,N,e1),(d7,M,e0),(d2,R,d9)] 38)).alloc (.cells (y,a6,b3) 47)).heap[w.heap.size+1]?=some (.cells #[y.kind,y.own,y.name,(a6,y.lgn,b3),c.pe,c.len,c.hei,c.cl,c.all,c.be,y.unt,y.now] 47 (0,0))):=by rw[d1.out];exact bO
  have l:=hI g;generalize (w.alloc _).alloc _=W at g bF bO BO l ⊢;have h0:=za bO 0 _ rfl;have d6:=hI (f4.below l);have I:Hid (Qj W W.heap.size _ _):=Qj.nil _ _;have F:Hid (Below W.heap.size W W):=bZ;have T:W.heap.size<=W.heap.size:=Jr _;clear bF bO g hF e4 hm;go_upto_region 13 with fail;clear h0 k5 k6 k8
  by_cases hL:zJ y.kind
  ·have dL:=Jd hL
   have a8:Hid (∀ (z) (v),Qj z _ v _->Below W.heap.size W z->Qj z _ v (qk x a y m)):=λz v h _=>by
    have e:=b0.1 hL;rw[e];exact zu h l.size
   have J:=zb BO F;have o0:=za J 0 _ rfl;have o3:=za J 3 _ rfl;go_wp2_with (first|(go_at_call 160;refine sC (zV _ _) ?_))
   clear o0 o3 J hL dL;have BX:=BO;have a9:=d6;have C:=I;have U:=F;have b4:=d5.out;clear I F;go_loopw [7,13,14,67] (λv _ _ i wr=>∃ k,k<=y.lgn/\i=int i64 k/\Hid (Qj wr W.heap.size v (([]:_)++Zh false a c y.lg k))/\Hid (Below W.heap.size W wr)) (λ_ _ _ i _=>y.lgn - (intOf i).toNat)
   case atStart=>exact⟨0,Jq _,rfl,(by show Qj _ _ _ (_++[]);rw[List.append_nil];exact C.out),U.out⟩
   case round =>
    clear C U;obtain⟨k,hk,rfl,D,n⟩:=hrel
    by_cases hlt:k<y.lgn
    ·obtain⟨gb,go,b6,L⟩:=a9.out k hlt
     subst b6;have E:=(n.out.cell (Ja W _ L)).trans L;obtain⟨leg,o⟩:∃ leg,leg=y.lg k:=⟨_,rfl⟩;rw[← o] at E;have Y:=hI o;have b8:(([]:_)++Zh false a c y.lg k).length<=3145728+3*k:=by have h1:=QD false a c y.lg k;have h2:=b4;rw[List.length_append];omega
     obtain⟨P,hP⟩:∃ P,P=([]:_)++Zh false a c y.lg k:=⟨_,rfl⟩;rw[← hP] at b8;have HP:=hI hP;have a0:Hid (Qj wr W.heap.size u7 P):=by rw[hP];exact D
     clear o hP D L;go_wp2;clear E;obtain⟨wo,d0⟩:∃ z,z=wr:=⟨_,rfl⟩;subst d0;go_loopw [7,14] (λv r wr=>∃ j:Nat,j<=3/\r=int i64 j/\Hid (Qj wr W.heap.size v (P++Zd false a c leg j))/\Hid (Below W.heap.size W wr)) (λ_ r _=>3 - (intOf r).toNat)
     case atStart=>exact⟨0,Jq _,rfl,(by show Qj _ _ _ (P++[]);rw[List.append_nil];exact a0),n⟩
     case round =>
      clear a0 n;obtain⟨j,hj,rfl,A,s⟩:=hrel
      by_cases hj3:j<3
      ·have f:=zb BX s
       have y4:=za f 4 _ rfl;have y5:=za f 5 _ rfl;have y6:=za f 6 _ rfl;have y7:=za f 7 _ rfl;have y8:=za f 8 _ rfl;have y9:=za f 9 _ rfl;have b7:=zco false a c leg j;obtain⟨Q,hQ⟩:∃ Q,Q=P++Zd false a c leg j:=⟨_,rfl⟩;have f9:Q.length<=3145731+3*k:=by rw[hQ,List.length_append];omega
       rw[← hQ] at A;have HQ:=hI hQ;clear hQ b7;have cu:=zfk c.pe c.len c.hei c.cl c.be c.all j wr hj3;obtain⟨ub,S⟩:∃ ub,ub=zaI c.len c.cl j:=⟨_,rfl⟩;rw[← S] at cu;have a1:=hI S.symm;clear S;go_wp2_with fail;refine cu.mono ?_;clear cu;rintro e w4 ⟨rfl,K⟩;have t:=hI (zo K A);have G:=hI (ze s K);clear A s K y4 y5 y6 y7 y8 y9 f
       cases ub with
       | false =>
        have X:Hid (Qj w4 W.heap.size u7 (P++Zd false a c leg (j+1))):=by
         have e:Zd false a c leg (j+1)=Zd false a c leg j:=by rw[Zd,Je (by rw[a1.out];decide)]
         rw[e,← HQ.out];exact t
        go_wp2;go_roundw
        case rel=>exact⟨_,by omega,by go_num,X,G⟩
        case measure=>simp[intOf];omega
       | true =>
        have f:=zb BX G;have y4:=za f 4 _ rfl;have y5:=za f 5 _ rfl;have y6:=za f 6 _ rfl;have y7:=za f 7 _ rfl;have y8:=za f 8 _ rfl;have y9:=za f 9 _ rfl;obtain⟨qa,qc,O,_⟩:=zp t;have O:=O;subst O;have H:Hid (Qj (w4.alloc (.cells #[leg,(j:Int),.bool false,a,c.pe,c.len,c.hei,c.cl,c.all,c.be] 159)) _ _ Q):=zo (zk bZ _) t;have q:Hid (Below _ W (w4.alloc (.cells #[leg,(j:Int),.bool false,a,c.pe,c.len,c.hei,c.cl,c.all,c.be] 159))):=zk G _;have b9:=Jp T q.size;have Z:Hid (∀ m u,([_,_,_,_,_,_,_,_,_,_]:List Value)[m]?=_->(w4.alloc (.cells #[leg,(j:Int),.bool false,a,c.pe,c.len,c.hei,c.cl,c.all,c.be] 159)).cell? _=_):=Jo (Jb w4 _);clear t f;go_wp2_with (first|(at_builtin;refine zv _ (by rfl) _ _ 156 (by rfl) _ 159 k0 _ 10 80 underlying156 ki e7 e8 e9 rfl (by decide) _ _ _ (by rfl) H _ 1 1 [_,_,_,_,_,_,_,_,_,_] (by rfl) (λh=>(by cases h)) (by rfl) (λad e=>by cases e;exact Z) (by intro u hu;simp at hu;rcases hu with rfl|rfl|rfl|rfl|rfl|rfl|rfl|rfl|rfl|rfl <;> rfl) (by unfold maxLen;omega) (by omega) b9 ?_;intro v9 w9 a3 a2))
        have X:Hid (Qj w9 W.heap.size v9 (P++Zd false a c leg (j+1))):=by
         have e:P++Zd false a c leg (j+1)=Q++[⟨leg,j,false,a,c⟩]:=by rw[HQ.out,List.append_assoc];congr 1;rw[Zd,Jf a1.out]
         show w9.ownsRow _ _ 10 v9 _ _
         rw[e,zfm,List.length_append];exact a3
        have a7:=hI (q.grown a2 q.size (λb hb=>by have:=(H.lt b hb).1;omega))
        clear y4 y5 y6 y7 y8 y9 a3 a2 H q Z;go_wp2;go_roundw
        case rel=>exact⟨_,by omega,by go_num,X,a7⟩
        case measure=>simp[intOf];omega
      ·obtain rfl:j=3:=by omega
       have X:Hid (Qj wr W.heap.size u7 (([]:_)++Zh false a c y.lg (k+1))):=by
        have e:([]:_)++Zh false a c y.lg (k+1)=P++Zd false a c leg 3:=by rw[HP.out,Y.out,List.append_assoc];rfl
        rw[e];exact A
       go_wp2;go_roundw
       case rel=>exact⟨_,by omega,by go_num,X,s⟩
       case measure=>simp[intOf];omega
    ·obtain rfl:k=y.lgn:=by omega
     have a5:=hI (a8 _ _ D n);have a4:=hI (ze l n);go_wp2;go_ret;exact⟨_,rfl,a5,a4⟩
  ·have dL:=Jc hL
   have a5:Hid (Qj W w.heap.size True (qk x a y m)):=by
    have e:=b0.2 hL;rw[e];exact zu I l.size
   have a4:=hI (ze l F);have J:=zb BO F;have o0:=za J 0 _ rfl;go_wp2_with (first|(go_at_call 160;refine sC (zV _ _) ?_))
   go_ret;exact⟨_,rfl,a5,a4⟩
def wkI (k:Wk):List Value:=[k.leg,(k.res:Int),k.who,k.p.pe,k.p.len,k.p.hei,k.p.cl,k.p.all,k.p.be,k.goes]
def zgF (l:List Wk):List Value:=l.flatMap wkI
theorem wkRI_snoc (l:List Wk)(k:Wk):zgF (l++[k])=zgF l++wkI k:=by simp[zgF]
theorem wkRI_app (l m:List Wk):zgF (l++m)=zgF l++zgF m:=by simp[zgF]
theorem zmE (l:List Wk):(zgF l).length=l.length*10:=by
 induction l with
 | nil=>rfl
 | cons a l ih=>show(_++zgF l).length=_;rw[List.length_append,ih,List.length_cons];show 10+_=_;omega
theorem zmF (l:List Wk):∀ u ∈ zgF l,u.oneCell'=true:=by
 intro u a;obtain⟨k,_,h⟩:=List.mem_flatMap.1 a;simp only[wkI,List.mem_cons,List.not_mem_nil,or_false] at h
 rcases h with rfl|rfl|rfl|rfl|rfl|rfl|rfl|rfl|rfl|rfl <;> rfl
theorem Tryz.infoWorkI:(Tryz.prog.info? 268).map (λi=>(i.zero,i.size,i.bytes))=some (some (.agg #[(),(),(),(),(),(),(),.bool false,(),.bool false]),10,80):=by kernel_rfl
theorem Tryz.sizeWorkI:(Tryz.prog.info? 268).map (·.size)=some 10:=by kernel_rfl
theorem builtWork (a b who pe len hei cl be:Int)(all goes:Bool) :
  Tryz.prog.builtSlice 268 1 [(0,.agg #[int i64 a,int i64 b,int i64 who,int i64 pe,int i64 len,int i64 hei,int i64 cl,.bool all,int i64 be,.bool goes])]=some #[int i64 a,int i64 b,int i64 who,int i64 pe,int i64 len,int i64 hei,int i64 cl,.bool all,int i64 be,.bool goes]:=by kernel_rfl
def resN (a b:Bool):List Nat:=(if a=true then [0] else [])++(if b=true then [1] else [])++[2]
theorem resN_len (a b:Bool):(resN a b).length=(resL a b).length:=by cases a <;> cases b <;> rfl
theorem resN_at (a b:Bool)(k:Nat)(c:k<(resN a b).length):(resL a b)[k]?=some (((resN a b)[k]:Nat):Int):=by
 cases a <;> cases b <;> simp only[resN,resL] at c ⊢ <;> simp at c
 ·have:=by omega
  subst this;rfl
 ·have:k=0∨k=1:=by omega
  rcases this with rfl|rfl <;> rfl
 ·have:k=0∨k=1:=by omega
  rcases this with rfl|rfl <;> rfl
 ·have:k=0∨k=1∨k=2:=by omega
  rcases this with rfl|rfl|rfl <;> rfl
def FitP (p:Qh):Prop:=carP p=zaI p.len p.cl 0/\cabP p=zaI p.len p.cl 1
theorem leg_res {goes:Bool}{who:Int}{p:Qh}{leg:Int}(h:FitP p):Zd goes who p leg 3=(resN (carP p) (cabP p)).map (λr=>⟨leg,r,goes,who,p⟩):=by
 have h2:zaI p.len p.cl 2=true:=rfl;rw[h.1,h.2];unfold Zd;rw[Jf h2];unfold Zd
 cases h1:zaI _ _ 1 <;> cases h0:zaI _ _ 0 <;> simp[Zd,h0,resN]
theorem zkj {p:Qh}(h:qI p):FitP p:=by
 refine⟨?_,?_⟩
 ·unfold carP zaI
  rw[Je (by decide),Jf rfl,decide_eq_decide]
  rcases h.2.1 with⟨h1,h2⟩|h1
  ·simp[h1,h2]
  ·unfold zbA In at h1
   constructor <;> intro _ <;> omega
 ·unfold cabP zaI
  rw[Je (by decide),Je (by decide),decide_eq_decide]
  rcases h.2.2 with⟨h1,h2,h3⟩|h1
  ·simp[h1,h2,h3]
  ·unfold zfN In at h1
   constructor
   ·intro _;omega
   ·rintro _ ⟨h2,_⟩;omega
theorem zgG (ao:Option Addr)(n c:Nat)(F:Nat->Int)(who:Int)(p:Qh)(goes:Bool)(w:World)(hn:n<=3)(hp:FitP p)(hx:zT w ao n F) :
  Calls prog 200 #[.slice ao n c,.agg #[int i64 0,int i64 0,int i64 who,int i64 p.pe,int i64 p.len,int i64 p.hei,int i64 p.cl,.bool p.all,int i64 p.be,.bool goes]] w λe w'=>(∃ v,e=.returned v/\w'.ownsRow w.heap.size 268 10 v (Zh goes who p F n).length (zgF (Zh goes who p F n)))/\Below w.heap.size w w':=by
 obtain⟨j0,ji,a9,b0,b1⟩:=info_parts Tryz.infoWorkI;have HX:=hI hx;have HP:=hI hp;clear hx hp;have o:Below _ w (w.alloc (.cells #[int i64 0,int i64 0,int i64 who,int i64 p.pe,int i64 p.len,int i64 p.hei,int i64 p.cl,.bool p.all,int i64 p.be,.bool goes] 268)):=zk bZ _;have K:=zoP o;have Z:=nw1BS o;go_enter func200,ntmps200;go_wp2;generalize w.alloc _=V at o K Z ⊢;go_loopw [5,7,9,12] (λs5 _ _ q wr=>∃ i,i<=n/\q=int i64 i/\wr.ownsRow (w.heap.size+1) 268 10 s5 (Zh goes who p F i).length (zgF (Zh goes who p F i))/\(∃ a b,wr.heap[w.heap.size]?=some (.cells #[int i64 a,int i64 b,int i64 who,int i64 p.pe,int i64 p.len,int i64 p.hei,int i64 p.cl,.bool p.all,int i64 p.be,.bool goes] 268 (0,0)))/\Below w.heap.size w wr/\w.heap.size+1<=wr.heap.size) (λ_ _ _ q _=>n - (intOf q).toNat)
 case atStart=>exact⟨0,Jq _,rfl,World.ownsRow_nil _ _ _ _,⟨0,0,K⟩,o,by omega⟩
 case round =>
  obtain⟨i,hi,rfl,m,⟨a,b,l⟩,d,h⟩:=hrel;clear o K Z V
  by_cases hlt:i<n
  ·obtain⟨gb,go,rfl,T⟩:=HX.out i hlt
   have cg:=(d.cell (Ja w _ T)).trans T;have x3:=za l 3 _ rfl;have x4:=za l 4 _ rfl;have x5:=za l 5 _ rfl;have x6:=za l 6 _ rfl;have x7:=za l 7 _ rfl;have x8:=za l 8 _ rfl;go_wp2_with fail;clear x3 x4 x5 x6 x7 x8 cg;refine(ziH p _).mono ?_;rintro e W1 ⟨⟨rv,rfl,f⟩,s⟩;obtain⟨ra,rc,rfl,_,_,_⟩:=zp f;have I:=hI (zu f h);replace m:=zo s m;replace l:=zb l s;replace d:=ze d s;replace h:=Jp h s.size;clear s f;obtain⟨rs,G⟩:∃ rs,rs=resN (carP p) (cabP p):=⟨_,rfl⟩;obtain⟨M,R⟩:∃ M,M=(resL (carP p) (cabP p)).length:=⟨_,rfl⟩;have J:Hid (_/\M=rs.length):=⟨G,by rw[R,G,resN_len]⟩
   have P:Hid (∀ k (hk:k<rs.length),(resL (carP p) (cabP p))[k]?=some (int i64 ((rs[k]:Nat):Int))):=by subst G;exact λk hk=>resN_at _ _ k hk
   have b2:M<=3:=by rw[R];exact resL_le _ _
   obtain⟨xs,N⟩:∃ xs,xs=resL (carP p) (cabP p):=⟨_,rfl⟩;rw[← R,← N] at I;rw[← N] at P;rw[← R];clear G R N;obtain⟨y,z⟩:∃ y,y=Zh goes who p F i:=⟨_,rfl⟩;have a0:Hid (Zh goes who p F (i+1)=y++rs.map (λr=>(⟨F i,r,goes,who,p⟩:Wk))):=by show _=_;rw[z,J.out.1,← leg_res HP.out];rfl
   have b5:y.length<=9:=by rw[z];have:=QD goes who p F i;omega
   rw[← z] at m;clear z;go_wp2;go_loopw [5,9,20] (λs5 _ q w5=>∃ k,k<=M/\q=int i64 k/\w5.ownsRow (w.heap.size+1) 268 10 s5 (y++(rs.take k).map (λr=>(⟨F i,r,goes,who,p⟩:Wk))).length (zgF (y++(rs.take k).map (λr=>(⟨F i,r,goes,who,p⟩:Wk))))/\(∃ a b,w5.heap[w.heap.size]?=some (.cells #[int i64 a,int i64 b,int i64 who,int i64 p.pe,int i64 p.len,int i64 p.hei,int i64 p.cl,.bool p.all,int i64 p.be,.bool goes] 268 (0,0)))/\w5.ownsRow (w.heap.size+1) 3 1 (.slice ra M rc) M xs/\Below w.heap.size w w5/\w.heap.size+1<=w5.heap.size) (λ_ _ q _=>M - (intOf q).toNat)
   case atStart=>exact⟨0,Jq _,rfl,by simpa using m,⟨a,b,l⟩,I.out,d,h⟩
   case round =>
    clear m l I d h a b;obtain⟨k,hk,rfl,m,⟨a,b,l⟩,f,d,h⟩:=hrel;obtain⟨O,A⟩:∃ O,O=y++(rs.take k).map (λr=>(⟨F i,r,goes,who,p⟩:Wk)):=⟨_,rfl⟩
    have Q:=hI A;have b6:O.length<=12:=by rw[A,List.length_append,List.length_map,List.length_take];omega
    rw[← A] at m;clear A
    by_cases hlk:k<M
    ·obtain⟨g,a7,b3,b4⟩:=qh f (by omega)
     subst a7;have U:k<rs.length:=by rw[← J.out.2];exact hlk
     obtain⟨r,hr⟩:∃ r,r=rs[k]:=⟨_,rfl⟩;have ck:wr.cell? ⟨g,k,none⟩=some (int i64 (r:Int)):=by rw[f.cellAt k (by omega),P.out k U,hr]
     have a2:Hid (rs.take (k+1)=rs.take k++[r]):=by show _=_;rw[hr,List.take_add_one,List.getElem?_eq_getElem U];rfl
     have y0:=za l 0 _ rfl;have y1:=za l 1 _ rfl;have f0:=zg l 0;have f1:=zg l 1;have D:zx wr ((wr.setCell _ (int i64 (F i))).setCell _ (int i64 (r:Int))) _:=((zx.refl wr (λb=>b=w.heap.size)).set (a:=⟨w.heap.size,0,none⟩) rfl _).set (a:=⟨w.heap.size,1,none⟩) rfl _
     have L:((wr.setCell ⟨w.heap.size,0,none⟩ (int i64 (F i))).setCell ⟨w.heap.size,1,none⟩ (int i64 (r:Int))).heap[w.heap.size]?=some (.cells #[int i64 (F i),int i64 (r:Int),int i64 who,int i64 p.pe,int i64 p.len,int i64 p.hei,int i64 p.cl,.bool p.all,int i64 p.be,.bool goes] 268 (0,0)):=by simpa using zm (zm l 0 _) 1 _
     have W:=D.own m (λq h1 h2=>by have h2:=h2;have:=(m.lt q h1).1;omega)
     have t:=D.own f (λq h1 h2=>by have h2:=h2;have:=(f.lt q h1).1;omega)
     have S:Below _ w ((wr.setCell _ (int i64 (F i))).setCell _ (int i64 (r:Int))):=(d.setCell (p:=⟨w.heap.size,0,none⟩) (Jr _) _).setCell (p:=⟨w.heap.size,1,none⟩) (Jr _) _;have H:=Jp h D.size;clear hr D;go_upto_region 9 with fail;generalize (wr.setCell _ _).setCell _ _=Y at L W t S H ⊢;clear y0 y1 f0 f1 ck d h l m f;have E:=W.alloc (.cells #[int i64 (F i),int i64 (r:Int),int i64 who,int i64 p.pe,int i64 p.len,int i64 p.hei,int i64 p.cl,.bool p.all,int i64 p.be,.bool goes] 268);have a1:Hid (∀ j u,([_,_,_,_,_,_,_,_,_,_]:List Value)[j]?=_->(Y.alloc (.cells #[int i64 (F i),int i64 (r:Int),int i64 who,int i64 p.pe,int i64 p.len,int i64 p.hei,int i64 p.cl,.bool p.all,int i64 p.be,.bool goes] 268)).cell? _=_):=Jo (Jb Y _);have x:_<=(Y.alloc (.cells #[int i64 (F i),int i64 (r:Int),int i64 who,int i64 p.pe,int i64 p.len,int i64 p.hei,int i64 p.cl,.bool p.all,int i64 p.be,.bool goes] 268)).heap.size:=Jp H (by simp)
     refine wp_region_lit ?_;refine Go.Great.wpList_runTo rfl _ rfl _ _ (show _ from rfl) ?_;refine wpList_load_row rfl _ _ rfl _ rfl _ _ _ _ L underlying268 rfl Tryz.sizeWorkI ?_;refine Go.Great.wpList_buildSliceTo rfl _ _ 1 _ rfl _ rfl _ rfl underlying175 _ (Eq.trans (congrArg _ (show _ from by first|(simp[go_sem];done)|rfl|kernel_rfl)) (builtWork (F i) (r:Int) who p.pe p.len p.hei p.cl p.be p.all goes)) ?_
     go_wp2_with (first|(at_builtin;refine wpList_append_lies _ rfl _ _ 175 rfl _ 268 j0 _ 10 80 underlying175 ji a9 b0 b1 rfl (by decide) _ _ _ (by rfl) E _ 1 1 _ rfl rfl a1.out (by intro u hu;simp at hu;rcases hu with rfl|rfl|rfl|rfl|rfl|rfl|rfl|rfl|rfl|rfl <;> rfl) (by decide) (by unfold maxLen;omega) (by omega) x _ rfl ?_;intro g3 a5 w3 a8 C _ _))
     have B:Below _ Y (Y.alloc (.cells #[int i64 (F i),int i64 (r:Int),int i64 who,int i64 p.pe,int i64 p.len,int i64 p.hei,int i64 p.cl,.bool p.all,int i64 p.be,.bool goes] 268)):=zk bZ _;have a4:=(qJ C).blk (zb L B) (λe=>by have:=(E.lt _ e).1;omega)
     have X:=(qJ C).own (zo B t) (λq h1 h2=>zI E (zo B t) (by decide) q h2 h1)
     have a6:=(ze S B).grown C (Jp (Nat.le_succ _) x) (λj hj=>Jp (Nat.le_succ _) (E.lt j hj).1)
     have a3:Hid (w3.ownsRow (w.heap.size+1) 268 10 (.slice (some ⟨g3,0,none⟩) (O.length+1) a5) (y++(rs.take (k+1)).map (λr=>(⟨F i,r,goes,who,p⟩:Wk))).length (zgF (y++(rs.take (k+1)).map (λr=>(⟨F i,r,goes,who,p⟩:Wk))))):=by
      have e1:y++(rs.take (k+1)).map (λr=>(⟨F i,r,goes,who,p⟩:Wk))=O++[⟨F i,r,goes,who,p⟩]:=by rw[a2.out,Q.out,List.map_append,List.append_assoc];rfl
      rw[show Hid _=_ from rfl,e1,wkRI_snoc,List.length_append];exact a8
     go_roundw
     case rel=>exact⟨_,by omega,by go_num,a3.out,⟨_,_,a4⟩,X,a6,Jp x C.size⟩
     case measure=>simp[intOf];omega
    ·obtain rfl:k=M:=by omega
     have HE:Hid (O=Zh goes who p F (i+1)):=by show _=_;rw[Q.out,a0.out,List.take_of_length_le (by rw[← J.out.2];omega)]
     rw[HE.out] at m;go_wp2;go_roundw
     case rel=>exact⟨_,by omega,by go_num,m,⟨a,b,l⟩,d,h⟩
     case measure=>simp[intOf];omega
  ·obtain rfl:i=n:=by omega
   go_wp2;go_ret;exact⟨⟨_,rfl,zu m (Nat.le_succ _)⟩,d⟩
theorem zaB (w:World)(a b c:Obj):(((w.alloc a).alloc b).alloc c).heap[w.heap.size]?=some a/\(((w.alloc a).alloc b).alloc c).heap[w.heap.size+1]?=some b/\(((w.alloc a).alloc b).alloc c).heap[w.heap.size+2]?=some c/\(((w.alloc a).alloc b).alloc c).heap.size=w.heap.size+3:=by
 refine⟨zd (zd (Jb w a) b) c,zd (by simpa using Jb (w.alloc a) b) c,by simpa using Jb ((w.alloc a).alloc b) c,by simp⟩
theorem zlS {w:World}{g t:Nat}{u0 u1 u2:Value}(h:w.heap[g]?=some (.cells #[u0,u1,u2] t (0,0)))(v:Value) :
  (w.setCell (g,0) v).heap[g]?=some (.cells #[v,u1,u2] t (0,0))/\(w.setCell (g,1) v).heap[g]?=some (.cells #[u0,v,u2] t (0,0))/\(w.setCell (g,2) v).heap[g]?=some (.cells #[u0,u1,v] t (0,0)) :=
 ⟨by simpa using zm h 0 v,by simpa using zm h 1 v,by simpa using zm h 2 v⟩
theorem zcq {w:World}{g t:Nat}{u0 u1 u2:Value}(h:w.heap[g]?=some (.cells #[u0,u1,u2] t (0,0)))(v0 v1 v2:Value):(((w.setCell (g,0) v0).setCell (g,1) v1).setCell (g,2) v2).heap[g]?=some (.cells #[v0,v1,v2] t (0,0)):=by
 simpa using zm (zm (zm h 0 v0) 1 v1) 2 v2
theorem freed_0 (v:Wk)(l:zY)(i c d:Option Addr)(s f g r:Nat)(w:World)(X:v.res=0)(Z:l.stn<=1048576)(hr:r<l.stn)(W:(l.st r).who=v.who)(D:∀ j,j<l.stn->(l.st j).who=v.who->j=r)(hx:qw w i l.stn l.st) :
  Calls prog 249 #[.agg #[int i64 v.leg,int i64 (v.res:Int),int i64 v.who,int i64 v.p.pe,int i64 v.p.len,int i64 v.p.hei,int i64 v.p.cl,.bool v.p.all,int i64 v.p.be,.bool v.goes],.agg #[.slice i l.stn s,.slice c l.ron f,.slice d l.sen g]] w λe w'=>(∃ m n,e=.returned (.agg #[.slice m (l.stn - 1) n,.slice c l.ron f,.slice d l.sen g])/\w'.ownsRow w.heap.size 220 4 (.slice m (l.stn - 1) n) (l.stn - 1) (zy (Zx l.st r) (l.stn - 1)))/\Below w.heap.size w w':=by
 have L:(v.res:Int)=0:=by omega
 rw[L];clear L X;obtain⟨G,F,I,J⟩:=zaB w (.cells #[v.leg,(),v.who,v.p.pe,v.p.len,v.p.hei,v.p.cl,v.p.all,v.p.be,v.goes] 268) (.cells #[(i,l.stn,s),(c,l.ron,f),(d,l.sen,g)] 145) (.cells #[True,True,True] 145);have k:Below _ w (((w.alloc (.cells #[v.leg,(),v.who,v.p.pe,v.p.len,v.p.hei,v.p.cl,v.p.all,v.p.be,v.goes] 268)).alloc (.cells #[(i,l.stn,s),(c,l.ron,f),(d,l.sen,g)] 145)).alloc (.cells #[True,True,True] 145)):=zk (zk (zk bZ _) _) _;go_enter func249,ntmps249;go_upto_region 1 with fail;generalize ((w.alloc _).alloc _).alloc _=V at G F I J k ⊢;have y1:=za G 1 _ rfl;have M:=za G 2 _ rfl;have Q:=za F 0 _ rfl;go_wp2_with fail;clear y1 Q;refine(thoseStay i _ s _ _ r _ V Z hr W D (hx.below k) M).mono ?_;rintro e E ⟨⟨u,rfl,H⟩,t⟩;obtain⟨m,n,rfl,_⟩:=zp H;have o:=zb F t;have B:=zb I t;have q0:=za o 0 _ rfl;have U:=zg o 0;have C:=ze k t;have A:zx E (E.setCell _ (m,l.stn - 1,n)) _:=(zx.refl E (λb=>b=w.heap.size+1)).set (a:=⟨_,0,none⟩) rfl _
 have y:=(zlS o (m,l.stn - 1,n)).1;have h:=A.blk B (show ¬ w.heap.size+2=w.heap.size+1 by omega)
 have z:=C.setCell (p:=(w.heap.size+1,0)) (show w.heap.size<=w.heap.size+1 by omega) (m,l.stn - 1,n)
 have x:=A.own (zu H k.size) (λq h1 h2=>by have h2:=h2;have:=(World.ownsRow.lt H q h1).1;omega)
 go_upto_region 8 with fail;generalize E.setCell _ _=Y at y h z x ⊢;clear q0 U A o B C H t F I G k M;obtain⟨l0,l1,l2⟩:=ce3 y;obtain⟨r0,r1,r2⟩:=ce3 h;obtain⟨R,S,T⟩:=fe3 h;have P:=hI (zcq h (m,l.stn - 1,n) (c,l.ron,f) (d,l.sen,g));have N:Hid (Below _ w (((Y.setCell _ (m,l.stn - 1,n)).setCell _ (c,l.ron,f)).setCell _ (d,l.sen,g))):=((z.setCell (p:=⟨_,0,none⟩) (by show _<=w.heap.size+2;omega) _).setCell (p:=⟨_,1,none⟩) (by show _<=w.heap.size+2;omega) _).setCell (p:=⟨_,2,none⟩) (by show _<=w.heap.size+2;omega) _
 have O:Hid ((((Y.setCell _ (m,l.stn - 1,n)).setCell _ (c,l.ron,f)).setCell _ (d,l.sen,g)).ownsRow _ 220 4 _ _ _):=((((zx.refl Y _).set (a:=⟨_,0,none⟩) rfl _).set (a:=⟨_,1,none⟩) rfl _).set (a:=⟨_,2,none⟩) rfl _).own x (λq h1 h2=>by have h2:=h2;subst h2;obtain⟨cs,K⟩:=zA x _ h1;rw[h] at K;simp at K)
 clear y h z x;go_wp2;clear l0 l1 l2 r0 r1 r2 R S T;obtain⟨z0,z1,z2⟩:=ce3 P;exact Jj (by simp[results,results249,go_sem,z0,z1,z2]) rfl ⟨⟨m,n,rfl,O⟩,N⟩
theorem freed_1 (v:Wk)(l:zY)(d i c:Option Addr)(g s f r:Nat)(w:World)(X:v.res=1)(Z:l.ron<=1048576)(hr:r<l.ron)(W:(l.ro r).who=v.who)(D:∀ j,j<l.ron->(l.ro j).who=v.who->j=r)(hx:qp w i l.ron l.ro) :
  Calls prog 249 #[.agg #[int i64 v.leg,int i64 (v.res:Int),int i64 v.who,int i64 v.p.pe,int i64 v.p.len,int i64 v.p.hei,int i64 v.p.cl,.bool v.p.all,int i64 v.p.be,.bool v.goes],.agg #[.slice d l.stn g,.slice i l.ron s,.slice c l.sen f]] w λe w'=>(∃ m n,e=.returned (.agg #[.slice d l.stn g,.slice m (l.ron - 1) n,.slice c l.sen f])/\w'.ownsRow w.heap.size 228 4 (.slice m (l.ron - 1) n) (l.ron - 1) (zw (Z7 l.ro r) (l.ron - 1)))/\Below w.heap.size w w':=by
 have L:(v.res:Int)=1:=by omega
 rw[L];clear L X;obtain⟨G,F,I,J⟩:=zaB w (.cells #[v.leg,int i64 1,v.who,v.p.pe,v.p.len,v.p.hei,v.p.cl,v.p.all,v.p.be,v.goes] 268) (.cells #[(d,l.stn,g),(i,l.ron,s),(c,l.sen,f)] 145) (.cells #[True,True,True] 145);have k:Below _ w (((w.alloc (.cells #[v.leg,int i64 1,v.who,v.p.pe,v.p.len,v.p.hei,v.p.cl,v.p.all,v.p.be,v.goes] 268)).alloc (.cells #[(d,l.stn,g),(i,l.ron,s),(c,l.sen,f)] 145)).alloc (.cells #[True,True,True] 145)):=zk (zk (zk bZ _) _) _;go_enter func249,ntmps249;go_upto_region 1 with fail;generalize ((w.alloc _).alloc _).alloc _=V at G F I J k ⊢;have y1:=za G 1 _ rfl;have M:=za G 2 _ rfl;have Q:=za F 1 _ rfl;go_wp2_with fail;clear y1 Q;refine(thoseRoom i _ s _ _ r _ V Z hr W D (hx.below k) M).mono ?_;rintro e E ⟨⟨u,rfl,H⟩,t⟩;obtain⟨m,n,rfl,_⟩:=zp H;have o:=zb F t;have B:=zb I t;have q1:=za o 1 _ rfl;have U:=zg o 1;have C:=ze k t;have A:zx E (E.setCell _ (m,l.ron - 1,n)) _:=(zx.refl E (λb=>b=w.heap.size+1)).set (a:=⟨_,1,none⟩) rfl _
 have y:=(zlS o (m,l.ron - 1,n)).2.1;have h:=A.blk B (show ¬ w.heap.size+2=w.heap.size+1 by omega)
 have z:=C.setCell (p:=(w.heap.size+1,1)) (show w.heap.size<=w.heap.size+1 by omega) (m,l.ron - 1,n)
 have x:=A.own (zu H k.size) (λq h1 h2=>by have h2:=h2;have:=(World.ownsRow.lt H q h1).1;omega)
 go_upto_region 8 with fail;generalize E.setCell _ _=Y at y h z x ⊢;clear q1 U A o B C H t F I G k M;obtain⟨l0,l1,l2⟩:=ce3 y;obtain⟨r0,r1,r2⟩:=ce3 h;obtain⟨R,S,T⟩:=fe3 h;have P:=hI (zcq h (d,l.stn,g) (m,l.ron - 1,n) (c,l.sen,f));have N:Hid (Below _ w (((Y.setCell _ (d,l.stn,g)).setCell _ (m,l.ron - 1,n)).setCell _ (c,l.sen,f))):=((z.setCell (p:=⟨_,0,none⟩) (by show _<=w.heap.size+2;omega) _).setCell (p:=⟨_,1,none⟩) (by show _<=w.heap.size+2;omega) _).setCell (p:=⟨_,2,none⟩) (by show _<=w.heap.size+2;omega) _
 have O:Hid ((((Y.setCell _ (d,l.stn,g)).setCell _ (m,l.ron - 1,n)).setCell _ (c,l.sen,f)).ownsRow _ 228 4 _ _ _):=((((zx.refl Y _).set (a:=⟨_,0,none⟩) rfl _).set (a:=⟨_,1,none⟩) rfl _).set (a:=⟨_,2,none⟩) rfl _).own x (λq h1 h2=>by have h2:=h2;subst h2;obtain⟨cs,K⟩:=zA x _ h1;rw[h] at K;simp at K)
 clear y h z x;go_wp2;clear l0 l1 l2 r0 r1 r2 R S T;obtain⟨z0,z1,z2⟩:=ce3 P;exact Jj (by simp[results,results249,go_sem,z0,z1,z2]) rfl ⟨⟨m,n,rfl,O⟩,N⟩
theorem freed_2 (v:Wk)(l:zY)(d c i:Option Addr)(g f s r:Nat)(w:World)(W:v.res=2)(X:l.sen<=1048576)(hr:r<l.sen)(U:(l.se r).who=v.who)(D:∀ j,j<l.sen->(l.se j).who=v.who->j=r)(Z:qE w i l.sen l.se) :
  Calls prog 249 #[.agg #[int i64 v.leg,int i64 (v.res:Int),int i64 v.who,int i64 v.p.pe,int i64 v.p.len,int i64 v.p.hei,int i64 v.p.cl,.bool v.p.all,int i64 v.p.be,.bool v.goes],.agg #[.slice d l.stn g,.slice c l.ron f,.slice i l.sen s]] w λe w'=>(∃ m n,e=.returned (.agg #[.slice d l.stn g,.slice c l.ron f,.slice m (l.sen - 1) n])/\w'.ownsRow w.heap.size 234 2 (.slice m (l.sen - 1) n) (l.sen - 1) (zB (Z7 l.se r) (l.sen - 1)))/\Below w.heap.size w w':=by
 have L:(v.res:Int)=2:=by omega
 rw[L];clear L W;obtain⟨G,F,J,K⟩:=zaB w (.cells #[v.leg,int i64 2,v.who,v.p.pe,v.p.len,v.p.hei,v.p.cl,v.p.all,v.p.be,v.goes] 268) (.cells #[(d,l.stn,g),(c,l.ron,f),(i,l.sen,s)] 145) (.cells #[True,True,True] 145);have k:Below _ w (((w.alloc (.cells #[v.leg,int i64 2,v.who,v.p.pe,v.p.len,v.p.hei,v.p.cl,v.p.all,v.p.be,v.goes] 268)).alloc (.cells #[(d,l.stn,g),(c,l.ron,f),(i,l.sen,s)] 145)).alloc (.cells #[True,True,True] 145)):=zk (zk (zk bZ _) _) _;go_enter func249,ntmps249;go_upto_region 1 with fail;generalize ((w.alloc _).alloc _).alloc _=V at G F J K k ⊢;have y1:=za G 1 _ rfl;have M:=za G 2 _ rfl;have H:=za F 2 _ rfl;go_wp2_with fail;clear y1 H;refine(thoseSeat i _ s _ _ r _ V X hr U D (Z.below k) M).mono ?_;rintro e E ⟨⟨u,rfl,I⟩,t⟩;obtain⟨m,n,rfl,_⟩:=zp I;have o:=zb F t;have B:=zb J t;have q2:=za o 2 _ rfl;have T:=zg o 2;have C:=ze k t;have A:zx E (E.setCell _ (m,l.sen - 1,n)) _:=(zx.refl E (λb=>b=w.heap.size+1)).set (a:=⟨_,2,none⟩) rfl _
 have y:=(zlS o (m,l.sen - 1,n)).2.2;have h:=A.blk B (show ¬ w.heap.size+2=w.heap.size+1 by omega)
 have z:=C.setCell (p:=(w.heap.size+1,2)) (show w.heap.size<=w.heap.size+1 by omega) (m,l.sen - 1,n)
 have x:=A.own (zu I k.size) (λq h1 h2=>by have h2:=h2;have:=(World.ownsRow.lt I q h1).1;omega)
 go_upto_region 8 with fail;generalize E.setCell _ _=Y at y h z x ⊢;clear q2 T A o B C I t F J G k M;obtain⟨l0,l1,l2⟩:=ce3 y;obtain⟨r0,r1,r2⟩:=ce3 h;obtain⟨Q,R,S⟩:=fe3 h;have P:=hI (zcq h (d,l.stn,g) (c,l.ron,f) (m,l.sen - 1,n));have N:Hid (Below _ w (((Y.setCell _ (d,l.stn,g)).setCell _ (c,l.ron,f)).setCell _ (m,l.sen - 1,n))):=((z.setCell (p:=⟨_,0,none⟩) (by show _<=w.heap.size+2;omega) _).setCell (p:=⟨_,1,none⟩) (by show _<=w.heap.size+2;omega) _).setCell (p:=⟨_,2,none⟩) (by show _<=w.heap.size+2;omega) _
 have O:Hid ((((Y.setCell _ (d,l.stn,g)).setCell _ (c,l.ron,f)).setCell _ (m,l.sen - 1,n)).ownsRow _ 234 2 _ _ _):=((((zx.refl Y _).set (a:=⟨_,0,none⟩) rfl _).set (a:=⟨_,1,none⟩) rfl _).set (a:=⟨_,2,none⟩) rfl _).own x (λq h1 h2=>by have h2:=h2;subst h2;obtain⟨cs,H⟩:=zA x _ h1;rw[h] at H;simp at H)
 clear y h z x;go_wp2;clear l0 l1 l2 r0 r1 r2 Q R S;obtain⟨z0,z1,z2⟩:=ce3 P;exact Jj (by simp[results,results249,go_sem,z0,z1,z2]) rfl ⟨⟨m,n,rfl,O⟩,N⟩
theorem changed_4 (b:ql)(d:Option Addr)(c:Nat)(q:Int)(y:OpD)(g:Option Addr)(i:Nat)(w:World)(x:y.kind=4) :
  Calls prog 205 #[.agg (b,d,c),q,.agg (y,g,i)] w λe w'=>e=.returned (.agg #[b.name,b.who,b.own,(d,b.lgn,c),b.pe,b.len,b.hei,b.cl,b.all,b.be,int i64 2,(),b.price])/\Below w.heap.size w w':=by
 rw[x];obtain⟨h,n,o,t⟩:=zaB w (.cells (b,d,c) 150) (.cells #[int i64 4,y.own,y.name,(g,y.lgn,i),y.pe,y.len,y.hei,y.cl,y.all,y.be,y.unt,y.now] 47) (.cells #[(),(),False,True,(),(),(),(),.bool false,(),(),(),()] 150);have j:Below _ w (((w.alloc (.cells (b,d,c) 150)).alloc (.cells #[int i64 4,y.own,y.name,(g,y.lgn,i),y.pe,y.len,y.hei,y.cl,y.all,y.be,y.unt,y.now] 47)).alloc (.cells #[(),(),False,True,(),(),(),(),.bool false,(),(),(),()] 150)):=zk (zk (zk bZ _) _) _;clear x;go_enter func205,ntmps205;go_upto_region 1 with fail;generalize ((w.alloc _).alloc _).alloc _=V at h n o t j ⊢;have C:=za n 0 _ rfl;have u:=za h 10 _ rfl;have v:=za h 11 _ rfl;have r:=zg h 10;have s:=zg h 11;have k:((V.setCell (w.heap.size,10) (int i64 2)).setCell (w.heap.size,11) ()).heap[w.heap.size]?=some (.cells #[b.name,b.who,b.own,(d,b.lgn,c),b.pe,b.len,b.hei,b.cl,b.all,b.be,int i64 2,(),b.price] 150 (0,0)):=by simpa using(zm (zm h 10 _) 11 _)
 have f:=(((zx.refl V (λb=>b=w.heap.size)).set (a:=(w.heap.size,10)) rfl (int i64 2)).set (a:=(w.heap.size,11)) rfl ()).blk o (show ¬ w.heap.size+2=w.heap.size by omega)
 have l:=((j.setCell (p:=(w.heap.size,10)) (Jr _) (int i64 2)).setCell (p:=(w.heap.size,11)) (Jr _) ());rw[show w.heap.size+2=w.heap.size+1+1 by omega] at f
 go_upto_region 12 with fail;generalize (V.setCell _ _).setCell _ _=W at k f l ⊢;clear C  u r v s h n o j;refine wp_region_lit ?_;refine wpList_load_row rfl _ _ rfl _ rfl _ _ _ _ k underlying150 rfl Tryz.sizeBk ?_;refine wpList_store_row rfl _ _ _ rfl _ _ rfl rfl _ _ f Tryz.sizeBk rfl (by simp[Value.oneCell']) ?_
 obtain⟨F,m⟩:∃ F,F=W.setRow (w.heap.size+1+1) #[b.name,b.who,b.own,(d,b.lgn,c),b.pe,b.len,b.hei,b.cl,b.all,b.be,int i64 2,(),b.price]:=⟨_,rfl⟩;have A:F.heap[w.heap.size+1+1]?=some (.cells #[b.name,b.who,b.own,(d,b.lgn,c),b.pe,b.len,b.hei,b.cl,b.all,b.be,int i64 2,(),b.price] 150 (0,0)):=by rw[m];exact setRow_heap _ _ _ _ _ _ f
 have z:Below w.heap.size w F:=by rw[m];exact below_setRow l (by omega) _
 rw[← m];clear m;have B:=run_loadVar_row F _ 150 150 _ _ _ A underlying150 rfl Tryz.sizeBk;go_wp2;exact Jj (Qq results205 rfl B) rfl ⟨rfl,z⟩
theorem changed_6 (b:ql)(d:Option Addr)(c:Nat)(q:Int)(y:OpD)(g:Option Addr)(i:Nat)(w:World)(x:y.kind=6) :
  Calls prog 205 #[.agg (b,d,c),q,.agg (y,g,i)] w λe w'=>e=.returned (.agg #[b.name,b.who,b.own,(d,b.lgn,c),b.pe,b.len,b.hei,b.cl,b.all,b.be,int i64 3,(),b.price])/\Below w.heap.size w w':=by
 rw[x];obtain⟨h,n,o,t⟩:=zaB w (.cells (b,d,c) 150) (.cells #[int i64 6,y.own,y.name,(g,y.lgn,i),y.pe,y.len,y.hei,y.cl,y.all,y.be,y.unt,y.now] 47) (.cells #[(),(),False,True,(),(),(),(),.bool false,(),(),(),()] 150);have j:Below _ w (((w.alloc (.cells (b,d,c) 150)).alloc (.cells #[int i64 6,y.own,y.name,(g,y.lgn,i),y.pe,y.len,y.hei,y.cl,y.all,y.be,y.unt,y.now] 47)).alloc (.cells #[(),(),False,True,(),(),(),(),.bool false,(),(),(),()] 150)):=zk (zk (zk bZ _) _) _;clear x;go_enter func205,ntmps205;go_upto_region 1 with fail;generalize ((w.alloc _).alloc _).alloc _=V at h n o t j ⊢;have C:=za n 0 _ rfl;have u:=za h 10 _ rfl;have v:=za h 11 _ rfl;have r:=zg h 10;have s:=zg h 11;have k:((V.setCell (w.heap.size,10) (int i64 3)).setCell (w.heap.size,11) ()).heap[w.heap.size]?=some (.cells #[b.name,b.who,b.own,(d,b.lgn,c),b.pe,b.len,b.hei,b.cl,b.all,b.be,int i64 3,(),b.price] 150 (0,0)):=by simpa using(zm (zm h 10 _) 11 _)
 have f:=(((zx.refl V (λb=>b=w.heap.size)).set (a:=(w.heap.size,10)) rfl (int i64 3)).set (a:=(w.heap.size,11)) rfl ()).blk o (show ¬ w.heap.size+2=w.heap.size by omega)
 have l:=((j.setCell (p:=(w.heap.size,10)) (Jr _) (int i64 3)).setCell (p:=(w.heap.size,11)) (Jr _) ());rw[show w.heap.size+2=w.heap.size+1+1 by omega] at f
 go_upto_region 12 with fail;generalize (V.setCell _ _).setCell _ _=W at k f l ⊢;clear C  u r v s h n o j;refine wp_region_lit ?_;refine wpList_load_row rfl _ _ rfl _ rfl _ _ _ _ k underlying150 rfl Tryz.sizeBk ?_;refine wpList_store_row rfl _ _ _ rfl _ _ rfl rfl _ _ f Tryz.sizeBk rfl (by simp[Value.oneCell']) ?_
 obtain⟨F,m⟩:∃ F,F=W.setRow (w.heap.size+1+1) #[b.name,b.who,b.own,(d,b.lgn,c),b.pe,b.len,b.hei,b.cl,b.all,b.be,int i64 3,(),b.price]:=⟨_,rfl⟩;have A:F.heap[w.heap.size+1+1]?=some (.cells #[b.name,b.who,b.own,(d,b.lgn,c),b.pe,b.len,b.hei,b.cl,b.all,b.be,int i64 3,(),b.price] 150 (0,0)):=by rw[m];exact setRow_heap _ _ _ _ _ _ f
 have z:Below w.heap.size w F:=by rw[m];exact below_setRow l (by omega) _
 rw[← m];clear m;have B:=run_loadVar_row F _ 150 150 _ _ _ A underlying150 rfl Tryz.sizeBk;go_wp2;exact Jj (Qq results205 rfl B) rfl ⟨rfl,z⟩
theorem changed_7 (b:ql)(d:Option Addr)(c:Nat)(q:Int)(y:OpD)(g:Option Addr)(h:Nat)(w:World)(s:y.kind=7) :
  Calls prog 205 #[.agg (b,d,c),q,.agg (y,g,h)] w λe w'=>e=.returned (.agg #[b.name,b.who,y.own,(d,b.lgn,c),b.pe,b.len,b.hei,b.cl,b.all,b.be,b.state,b.unt,b.price])/\Below w.heap.size w w':=by
 rw[s];obtain⟨j,m,o,r⟩:=zaB w (.cells (b,d,c) 150) (.cells #[int i64 7,y.own,y.name,(g,y.lgn,h),y.pe,y.len,y.hei,y.cl,y.all,y.be,y.unt,y.now] 47) (.cells #[(),(),False,True,(),(),(),(),.bool false,(),(),(),()] 150);have i:Below _ w (((w.alloc (.cells (b,d,c) 150)).alloc (.cells #[int i64 7,y.own,y.name,(g,y.lgn,h),y.pe,y.len,y.hei,y.cl,y.all,y.be,y.unt,y.now] 47)).alloc (.cells #[(),(),False,True,(),(),(),(),.bool false,(),(),(),()] 150)):=zk (zk (zk bZ _) _) _;clear s;go_enter func205,ntmps205;go_upto_region 1 with fail;generalize ((w.alloc _).alloc _).alloc _=V at j m o r i ⊢;have z:=za m 0 _ rfl;have A:=za m 1 _ rfl;have B:=za j 2 _ rfl;have v:=zg j 2;have k:(V.setCell (w.heap.size,2) y.own).heap[w.heap.size]?=some (.cells #[b.name,b.who,y.own,(d,b.lgn,c),b.pe,b.len,b.hei,b.cl,b.all,b.be,b.state,b.unt,b.price] 150 (0,0)):=by simpa using(zm j 2 _)
 have f:=((zx.refl V (λb=>b=w.heap.size)).set (a:=(w.heap.size,2)) rfl y.own).blk o (show ¬ w.heap.size+2=w.heap.size by omega)
 have l:=(i.setCell (p:=(w.heap.size,2)) (Jr _) y.own);rw[show w.heap.size+2=w.heap.size+1+1 by omega] at f
 go_upto_region 12 with fail;generalize V.setCell _ _=W at k f l ⊢;clear z A B v j m o i;refine wp_region_lit ?_;refine wpList_load_row rfl _ _ rfl _ rfl _ _ _ _ k underlying150 rfl Tryz.sizeBk ?_;refine wpList_store_row rfl _ _ _ rfl _ _ rfl rfl _ _ f Tryz.sizeBk rfl (by simp[Value.oneCell']) ?_
 obtain⟨F,n⟩:∃ F,F=W.setRow (w.heap.size+1+1) #[b.name,b.who,y.own,(d,b.lgn,c),b.pe,b.len,b.hei,b.cl,b.all,b.be,b.state,b.unt,b.price]:=⟨_,rfl⟩;have u:F.heap[w.heap.size+1+1]?=some (.cells #[b.name,b.who,y.own,(d,b.lgn,c),b.pe,b.len,b.hei,b.cl,b.all,b.be,b.state,b.unt,b.price] 150 (0,0)):=by rw[n];exact setRow_heap _ _ _ _ _ _ f
 have t:Below w.heap.size w F:=by rw[n];exact below_setRow l (by omega) _
 rw[← n];clear n;have x:=run_loadVar_row F _ 150 150 _ _ _ u underlying150 rfl Tryz.sizeBk;go_wp2;exact Jj (Qq results205 rfl x) rfl ⟨rfl,t⟩
theorem changed_8 (b:ql)(d:Option Addr)(c:Nat)(q:Int)(y:OpD)(g:Option Addr)(h:Nat)(w:World)(u:y.kind=8) :
  Calls prog 205 #[.agg (b,d,c),q,.agg (y,g,h)] w λe w'=>e=.returned (.agg #[b.name,b.who,b.own,(d,b.lgn,c),b.pe,b.len,b.hei,b.cl,b.all,b.be,int i64 4,b.unt,b.price])/\Below w.heap.size w w':=by
 rw[u];obtain⟨j,n,o,s⟩:=zaB w (.cells (b,d,c) 150) (.cells #[int i64 8,y.own,y.name,(g,y.lgn,h),y.pe,y.len,y.hei,y.cl,y.all,y.be,y.unt,y.now] 47) (.cells #[(),(),False,True,(),(),(),(),.bool false,(),(),(),()] 150);have i:Below _ w (((w.alloc (.cells (b,d,c) 150)).alloc (.cells #[int i64 8,y.own,y.name,(g,y.lgn,h),y.pe,y.len,y.hei,y.cl,y.all,y.be,y.unt,y.now] 47)).alloc (.cells #[(),(),False,True,(),(),(),(),.bool false,(),(),(),()] 150)):=zk (zk (zk bZ _) _) _;clear u;go_enter func205,ntmps205;go_upto_region 1 with fail;generalize ((w.alloc _).alloc _).alloc _=V at j n o s i ⊢;have A:=za n 0 _ rfl;have t:=za j 10 _ rfl;have r:=zg j 10;have k:(V.setCell (w.heap.size,10) (int i64 4)).heap[w.heap.size]?=some (.cells #[b.name,b.who,b.own,(d,b.lgn,c),b.pe,b.len,b.hei,b.cl,b.all,b.be,int i64 4,b.unt,b.price] 150 (0,0)):=by simpa using(zm j 10 _)
 have f:=((zx.refl V (λb=>b=w.heap.size)).set (a:=(w.heap.size,10)) rfl (int i64 4)).blk o (show ¬ w.heap.size+2=w.heap.size by omega)
 have l:=(i.setCell (p:=(w.heap.size,10)) (Jr _) (int i64 4));rw[show w.heap.size+2=w.heap.size+1+1 by omega] at f
 go_upto_region 12 with fail;generalize V.setCell _ _=W at k f l ⊢;clear A  t r j n o i;refine wp_region_lit ?_;refine wpList_load_row rfl _ _ rfl _ rfl _ _ _ _ k underlying150 rfl Tryz.sizeBk ?_;refine wpList_store_row rfl _ _ _ rfl _ _ rfl rfl _ _ f Tryz.sizeBk rfl (by simp[Value.oneCell']) ?_
 obtain⟨F,m⟩:∃ F,F=W.setRow (w.heap.size+1+1) #[b.name,b.who,b.own,(d,b.lgn,c),b.pe,b.len,b.hei,b.cl,b.all,b.be,int i64 4,b.unt,b.price]:=⟨_,rfl⟩;have x:F.heap[w.heap.size+1+1]?=some (.cells #[b.name,b.who,b.own,(d,b.lgn,c),b.pe,b.len,b.hei,b.cl,b.all,b.be,int i64 4,b.unt,b.price] 150 (0,0)):=by rw[m];exact setRow_heap _ _ _ _ _ _ f
 have v:Below w.heap.size w F:=by rw[m];exact below_setRow l (by omega) _
 rw[← m];clear m;have z:=run_loadVar_row F _ 150 150 _ _ _ x underlying150 rfl Tryz.sizeBk;go_wp2;exact Jj (Qq results205 rfl z) rfl ⟨rfl,v⟩
section
open Go.RowKit
structure Ch5 (w u:World)(y:OpD)(b:Option Addr)(d:Nat)(cs:Array Value)(e:Option (Option Addr × Nat)):Prop where
 bel:Below w.heap.size w u
 ban:Zq w
 far:Zu w
 pok:QU ⟨y.pe,y.len,y.hei,y.cl,y.all,y.be⟩ y.lgn
 legs:zT w b y.lgn y.lg
 bb:u.heap[w.heap.size]?=some (.cells cs 150 (0,0))
 box:u.heap[w.heap.size+1]?=some (.cells #[int i64 5,y.own,y.name,(b,y.lgn,d),y.pe,y.len,y.hei,y.cl,y.all,y.be,y.unt,y.now] 47 (0,0))
 res:u.heap[w.heap.size+1+1]?=some (.cells #[(),(),False,True,(),(),(),(),.bool false,(),(),(),()] 150 (0,0))
 h1:∀ a c,e=some (a,c)->u.ownsRow w.heap.size 3 1 (a,y.lgn,c) y.lgn (zS y.lg y.lgn)
section
variable {w u : World} {y : OpD} {alg : Option Addr} {clg : Nat} {cs : Array Value} {p1 : Option (Option Addr × Nat)}
theorem Ch5.s (h:Ch5 w u y alg clg cs p1):u.cell? (w.heap.size+1,0)=some (int i64 5)/\u.cell? (w.heap.size+1,1)=some (.string y.own)/\u.cell? (w.heap.size+1,2)=some (int i64 y.name)/\u.cell? (w.heap.size+1,3)=some (alg,y.lgn,clg)/\u.cell? (w.heap.size+1,4)=some (int i64 y.pe)/\u.cell? (w.heap.size+1,5)=some (int i64 y.len)/\u.cell? (w.heap.size+1,6)=some (int i64 y.hei)/\u.cell? (w.heap.size+1,7)=some (int i64 y.cl)/\u.cell? (w.heap.size+1,8)=some (.bool y.all)/\u.cell? (w.heap.size+1,9)=some (int i64 y.be)/\u.cell? (w.heap.size+1,10)=some (int i64 y.unt)/\u.cell? (w.heap.size+1,11)=some (int i64 y.now):=⟨za h.box 0 _ rfl,za h.box 1 _ rfl,za h.box 2 _ rfl,za h.box 3 _ rfl,za h.box 4 _ rfl,za h.box 5 _ rfl,za h.box 6 _ rfl,za h.box 7 _ rfl,za h.box 8 _ rfl,za h.box 9 _ rfl,za h.box 10 _ rfl,za h.box 11 _ rfl⟩
theorem Ch5.below {d:World}(h:Ch5 w u y alg clg cs p1)(b:Below u.heap.size u d):Ch5 w d y alg clg cs p1:=⟨ze h.bel b,h.ban,h.far,h.pok,h.legs,zb h.bb b,zb h.box b,zb h.res b,λa c e=>zo b (h.h1 a c e)⟩
theorem Ch5.put (h:Ch5 w u y alg clg cs p1)(i:Nat)(v:Value)(cs':Array Value)(f:cs.setIfInBounds i v=cs'):Ch5 w (u.setCell (w.heap.size,i) v) y alg clg cs' p1:=by
 have d:zx u (u.setCell _ v) _:=(zx.refl u (λb=>b=w.heap.size)).set (a:=(w.heap.size,i)) rfl _
 exact⟨h.bel.setCell (Jr _) v,h.ban,h.far,h.pok,h.legs,by rw[← f];exact zm h.bb i v,d.blk h.box (by omega),d.blk h.res (by omega),λa c e=>d.own (h.h1 a c e) (λg h1 h2=>zQ (h.h1 a c e) h.bb (by decide) g h1 h2)⟩
theorem Ch5.c1 (h:Ch5 w u y alg clg cs none):Calls prog 212 #[(alg,y.lgn,clg)] u λe f=>∃ a c,e=.returned (a,y.lgn,c)/\Hid (Ch5 w f y alg clg cs (some (a,c))):=by
 have h1:=h.pok.2;have hn:1<=y.lgn/\y.lgn<=3:=by unfold In at h1;omega
 obtain⟨b,o,g,_⟩:=h.legs 0 (by omega)
 subst g;refine(zgp _ _ clg _ u (by omega) (h.legs.below h.bel)).mono ?_
 rintro e f ⟨⟨v,rfl,d⟩,i⟩;obtain⟨a,c,rfl,_⟩:=zp d;have k:=h.below i;exact⟨a,c,rfl,k.bel,k.ban,k.far,k.pok,k.legs,k.bb,k.box,k.res,λa' c' e=>(by cases e;exact zu d h.bel.size)⟩
theorem Ch5.c2 (h:Ch5 w u y alg clg cs p1)(c:y.kind=5):Calls prog 202 #[.agg #[int i64 5,y.own,y.name,(alg,y.lgn,clg),y.pe,y.len,y.hei,y.cl,y.all,y.be,y.unt,y.now]] u λe d=>e=.returned (zE ⟨y.pe,y.len,y.hei,y.cl,y.all,y.be⟩ y.lgn)/\Hid (Ch5 w d y alg clg cs p1):=by
 have:=zcG y alg clg u (h.ban.below h.bel) (h.far.below h.bel) h.pok;rw[c] at this;exact this.mono λ_ _ ⟨a,b⟩=>⟨a,h.below b⟩
end
theorem changed_5 (b:ql)(q:Option Addr)(p:Nat)(i:Int)(y:OpD)(f:Option Addr)(l:Nat)(w:World)(G:y.kind=5)(M:Zq w)(m:Zu w)(N:QU ⟨y.pe,y.len,y.hei,y.cl,y.all,y.be⟩ y.lgn)(z:zT w f y.lgn y.lg) :
  Calls prog 205 #[.agg #[int i64 b.name,int i64 b.who,.string b.own,.slice q b.lgn p,int i64 b.pe,int i64 b.len,int i64 b.hei,int i64 b.cl,.bool b.all,int i64 b.be,int i64 b.state,int i64 b.unt,int i64 b.price],int i64 i,.agg #[int i64 y.kind,.string y.own,int i64 y.name,.slice f y.lgn l,int i64 y.pe,int i64 y.len,int i64 y.hei,int i64 y.cl,.bool y.all,int i64 y.be,int i64 y.unt,int i64 y.now]] w λe w'=>(∃ la n,e=.returned (.agg #[int i64 b.name,int i64 i,.string b.own,.slice la y.lgn n,int i64 y.pe,int i64 y.len,int i64 y.hei,int i64 y.cl,.bool y.all,int i64 y.be,int i64 b.state,int i64 b.unt,int i64 (zE ⟨y.pe,y.len,y.hei,y.cl,y.all,y.be⟩ y.lgn)])/\w'.ownsRow w.heap.size 3 1 (.slice la y.lgn n) y.lgn (zS y.lg y.lgn))/\Below w.heap.size w w':=by
 have P:=hI G;rw[G];obtain⟨A,x,C,t⟩:=zaB w (.cells (b,q,p) 150) (.cells #[int i64 5,y.own,y.name,(f,y.lgn,l),y.pe,y.len,y.hei,y.cl,y.all,y.be,y.unt,y.now] 47) (.cells #[(),(),False,True,(),(),(),(),.bool false,(),(),(),()] 150);have r:Below _ w (((w.alloc (.cells (b,q,p) 150)).alloc (.cells #[int i64 5,y.own,y.name,(f,y.lgn,l),y.pe,y.len,y.hei,y.cl,y.all,y.be,y.unt,y.now] 47)).alloc (.cells #[(),(),False,True,(),(),(),(),.bool false,(),(),(),()] 150)):=zk (zk (zk bZ _) _) _;clear G;go_enter func205,ntmps205;go_upto_region 1 with fail;generalize ((w.alloc _).alloc _).alloc _=V at A x C t r ⊢;have o0:=za x 0 _ rfl;have a:Hid (Ch5 w _ y f l _ none):=⟨r.drew,M,m,N,z,zK A,zK x,zK C,λ_ _ e=>(by cases e)⟩
 go_upto_region 5 with fail;clear o0 A x C M m N z r t;refine qg 16 16 (λu=>u.cell? _=_/\u.cell? _=_/\u.cell? _=_/\u.cell? _=_/\u.cell? _=_/\u.cell? _=_/\u.cell? _=_/\u.cell? _=_/\u.cell? _=_/\u.cell? _=_/\u.cell? _=_/\u.cell? _=_) rfl (by kernel_rfl) a.s (λj=>?_)
 simp only[List.replicate_succ,List.replicate_zero];generalize V.drew=u0 at a j ⊢
 iterate 3 (refine tFN 0 (v:=?_) rfl (by kernel_rfl) (λ_ _ _ h=>h) rfl (by assumption) ?_ ?_;rotate_left;(focus(intro w' h;(try dsimp only at h);go_simp;try with_reducible rfl));simp only[Act.put,sB,sZ,sS])
 iterate 3 (refine tFN 4 (v:=?_) rfl (by kernel_rfl) (λ_ _ _ h=>h) rfl (by assumption) ?_ ?_;rotate_left;(focus(intro w' h;(try dsimp only at h);go_simp;try with_reducible rfl));simp only[Act.put,sB,sZ,sS])
 (refine tFN 8 (v:=?_) rfl (by kernel_rfl) (λ_ _ _ h=>h) rfl (by assumption) ?_ ?_;rotate_left;(focus(intro w' h;(try dsimp only at h);go_simp;try with_reducible rfl));simp only[Act.put,sB,sZ,sS])
 refine zj (rs:=[3]) (by kernel_rfl) (by simp) ?_
 refine zc.consL rfl (λK d=>?_) zc.nil
 go_simp;go_at_call 212;refine Jm a.c1 ?_;rintro e u1 ⟨la,n,rfl,a⟩;dsimp only;refine d _ _ a.s (λj=>?_)
 clear d K;simp only[sZ,sS];refine zj (rs:=[7]) (by kernel_rfl) (by simp) ?_
 refine zc.consL rfl (λK d=>?_) zc.nil
 go_simp;go_at_call 202;refine Jm (a.c2 P) ?_;rintro e u2 ⟨rfl,a⟩;dsimp only;refine d _ _ a.s (λj=>?_)
 clear d K;simp only[sZ,sS];have q1:=za a.bb 1 _ rfl;have R:=zg a.bb 1;refine zj (rs:=[9]) (by kernel_rfl) (by simp) ?_
 refine zc.consL rfl (λK d=>?_) zc.nil
 go_simp;have c:=hI ((a.put 1 _ #[_,i,_,_,_,_,_,_,_,_,_,_,_] rfl));refine d _ _ c.s (λj=>?_)
 clear d K q1 R a;simp only[sZ,sS];generalize u2.setCell _ _=u3 at c j ⊢;have a:=c;clear c
 (refine tFN 10 (v:=?_) rfl (by kernel_rfl) (λ_ _ _ h=>h) rfl (by assumption) ?_ ?_;rotate_left;(focus(intro w' h;(try dsimp only at h);go_simp;try with_reducible rfl));simp only[Act.put,sB,sZ,sS])
 have q3:=za a.bb 3 _ rfl;have S:=zg a.bb 3;refine zj (rs:=[11]) (by kernel_rfl) (by simp) ?_
 refine zc.consL rfl (λK d=>?_) zc.nil
 go_simp;have c:=hI ((a.put 3 _ #[_,_,_,(la,y.lgn,n),_,_,_,_,_,_,_,_,_] rfl));refine d _ _ c.s (λj=>?_)
 clear d K q3 S a;simp only[sZ,sS];generalize u3.setCell _ _=u4 at c j ⊢;have a:=c;clear c
 (refine tFN 12 (v:=?_) rfl (by kernel_rfl) (λ_ _ _ h=>h) rfl (by assumption) ?_ ?_;rotate_left;(focus(intro w' h;(try dsimp only at h);go_simp;try with_reducible rfl));simp only[Act.put,sB,sZ,sS])
 have q4:=za a.bb 4 _ rfl;have q5:=za a.bb 5 _ rfl;have q6:=za a.bb 6 _ rfl;have q7:=za a.bb 7 _ rfl;have q8:=za a.bb 8 _ rfl;have q9:=za a.bb 9 _ rfl;have T:=zg a.bb 4;have U:=zg a.bb 5;have W:=zg a.bb 6;have X:=zg a.bb 7;have Y:=zg a.bb 8;have Z:=zg a.bb 9;refine zj (rs:=[13]) (by kernel_rfl) (by simp) ?_
 refine zc.consL rfl (λK d=>?_) zc.nil
 go_simp;have c:=hI (((((((a.put 4 _ _ rfl).put 5 _ _ rfl).put 6 _ _ rfl).put 7 _ #[_,_,_,_,_,_,_,_,_,_,_,_,_] rfl).put 8 _ _ rfl).put 9 _ #[_,_,_,_,y.pe,y.len,y.hei,y.cl,y.all,y.be,_,_,_] rfl));refine d _ _ c.s (λj=>?_)
 clear d K q4 T q5 U q6 W q7 X q8 Y q9 Z a;simp only[sZ,sS];generalize (((((u4.setCell _ _).setCell _ _).setCell _ _).setCell _ _).setCell _ _).setCell _ _=u5 at c j ⊢;have a:=c;clear c
 (refine tFN 14 (v:=?_) rfl (by kernel_rfl) (λ_ _ _ h=>h) rfl (by assumption) ?_ ?_;rotate_left;(focus(intro w' h;(try dsimp only at h);go_simp;try with_reducible rfl));simp only[Act.put,sB,sZ,sS])
 have L:=za a.bb 12 _ rfl;have D:=zg a.bb 12;refine zj (rs:=[15]) (by kernel_rfl) (by simp) ?_
 refine zc.consL rfl (λK d=>?_) zc.nil
 go_simp;have c:=hI ((a.put 12 _ #[_,_,_,_,_,_,_,_,_,_,_,_,(zE ⟨y.pe,y.len,y.hei,y.cl,y.all,y.be⟩ y.lgn)] rfl));refine d _ _ c.s (λj=>?_)
 clear d K L D a;simp only[sZ,sS];generalize u5.setCell _ _=u6 at c j ⊢;have a:=c;clear c;refine zX (by kernel_rfl) ?_ _
 have B:=a.bb;have o:=a.res;have E:=a.bel;have s:=a.h1 la n rfl;clear a;go_upto_region 12 with fail;refine wp_region_lit ?_;refine wpList_load_row rfl _ _ rfl _ rfl _ _ _ _ B underlying150 rfl Tryz.sizeBk ?_;refine wpList_store_row rfl _ _ _ rfl _ _ rfl rfl _ _ o Tryz.sizeBk rfl (by simp[Value.oneCell']) ?_
 obtain⟨F,m⟩:∃ F,F=u6.setRow (w.heap.size+1+1) #[b.name,i,b.own,(la,y.lgn,n),y.pe,y.len,y.hei,y.cl,y.all,y.be,b.state,b.unt,(zE ⟨y.pe,y.len,y.hei,y.cl,y.all,y.be⟩ y.lgn)]:=⟨_,rfl⟩;have Q:F.heap[w.heap.size+1+1]?=some (.cells #[b.name,i,b.own,(la,y.lgn,n),y.pe,y.len,y.hei,y.cl,y.all,y.be,b.state,b.unt,(zE ⟨y.pe,y.len,y.hei,y.cl,y.all,y.be⟩ y.lgn)] 150 (0,0)):=by rw[m];exact setRow_heap _ _ _ _ _ _ o
 have O:Below w.heap.size w F:=by rw[m];exact below_setRow E (by omega) _
 have J:=by
  have H:zx u6 F (λb=>b=w.heap.size+1+1):=by rw[m];exact⟨rfl,rfl,rfl,(below_setRow (Ji 0 u6) (Jq _) _).size,λk _ I=>setRow_other _ _ _ _ I⟩
  exact H.own s (λg h1 h2=>zQ s o (by decide) g h1 h2)
 rw[← m];clear m;have z:=run_loadVar_row F _ 150 150 _ _ _ Q underlying150 rfl Tryz.sizeBk;go_wp2;exact Jj (Qq results205 rfl z) rfl ⟨⟨la,n,rfl,J⟩,O⟩
end
end Go.Proofs.YtmdnjgihooflfaaGreatDoor
