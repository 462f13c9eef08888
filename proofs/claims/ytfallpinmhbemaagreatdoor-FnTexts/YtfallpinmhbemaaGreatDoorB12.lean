/-
  OWN TEXT: PlainD, PlainR5, PlainSe, PlainOff, SpecNwO.
-/
import Derived.Test.YtfallpinmhbemaaGreatDoorB11
namespace Go.Proofs.YtfallpinmhbemaaGreatDoor
open Go.RowKit
open Go.Value (int)
open Go.IntKind (i64)
set_option maxHeartbeats 64000000
set_option maxRecDepth 100000
def Q8 (S:Nat->ZX)(j:Nat):Int:=(S j).who
def zfN (S:Nat->ZX)(k:Nat):Nat->Int
 | 0=>0
 | i+1=>zfN S k i+(if (S i).ln=(k:Int) then (S i).len else 0)
def QF (p:qi)(S:Nat->ZX)(i:Nat)(k:Nat):Int:=p.A k - zfN S k i
theorem left_0 (p:qi)(S:Nat->ZX)(k:Nat):QF p S 0 k=p.A k:=by unfold QF zfN;omega
theorem zeI (p:qi)(S:Nat->ZX)(i k:Nat)(h:(S i).ln=(k:Int)):QF p S (i+1) k=QF p S i k - (S i).len:=by
 unfold QF;rw[zfN,if_pos h];omega
theorem zgM (p:qi)(S:Nat->ZX)(i k:Nat)(h:(S i).ln≠(k:Int)):QF p S (i+1) k=QF p S i k:=by
 unfold QF;rw[zfN,if_neg h];omega
theorem zgN (S:Nat->ZX)(k i:Nat)(h:∀ j,j<i->In (S j).len 1 2000):0<=zfN S k i/\zfN S k i<=2000*i:=by
 induction i with
 | zero=>exact⟨Int.le_refl _,by unfold zfN;omega⟩
 | succ i ih =>
  have:=ih (fun j hj=>h j (by omega))
  have a:=h i (by omega)
  unfold In at a;unfold zfN
  split <;> omega
theorem left_mono (p:qi)(S:Nat->ZX)(k i n:Nat)(a:i<=n)(h:∀ j,j<n->In (S j).len 1 2000):QF p S n k<=QF p S i k:=by
 induction n with
 | zero=>rw[show i=0 by omega];exact Int.le_refl _
 | succ n ih =>
  by_cases e:i=n+1
  ·rw[e];exact Int.le_refl _
  ·have:=ih (by omega) (fun j hj=>h j (by omega))
   have hn:=h n (by omega)
   unfold In at hn
   by_cases c:(S n).ln=(k:Int)
   ·rw[zeI p S n k c];omega
   ·rw[zgM p S n k c];exact this
structure Fits (p:qi)(F:Nat->Int)(s:ZX):Prop where
 who:In s.who 1 9999
 len:In s.len 1 2000
 hei:In s.hei 1 500
 ln:In s.ln 0 ((p.n:Int) - 1)
 high:s.hei<=p.B s.ln.toNat
 room:s.len<=F s.ln.toNat
def zgO (p:qi):Prop:=ZG p 4 1 5000 100 500
def zfO (p:qi)(n:Nat)(S:Nat->ZX):Prop:=zgO p/\n<=60/\∀ i,i<n->¬ Has (Q8 S) i (S i).who/\Fits p (QF p S i) (S i)
def OkS (p:qi)(S:Nat->ZX)(i:Nat):Prop:=In (S i).who 1 9999/\In (S i).ln 0 ((p.n:Int) - 1)/\In (S i).len 1 2000/\In (S i).hei 1 (p.B (S i).ln.toNat)/\¬ Has (Q8 S) i (S i).who
def DeckS (p:qi)(n:Nat)(S:Nat->ZX):Prop:=zgO p/\n<=60/\(∀ i,i<n->OkS p S i)/\∀ k,k<p.n->0<=QF p S n k
theorem Ql (p:qi)(n:Nat)(S:Nat->ZX):DeckS p n S↔zfO p n S:=by
 constructor
 ·rintro⟨g,hn,l,w⟩
  refine⟨g,hn,fun i m=>?_⟩
  obtain⟨o,d,t,q,u⟩:=l i m;have h:(S i).ln.toNat<p.n:=by unfold In at d;omega
  have v:=(g.2 _ h).2;have e:(S i).ln=((S i).ln.toNat:Int):=by unfold In at d;omega
  refine⟨u,o,t,⟨q.1,?_⟩,d,q.2,?_⟩
  ·unfold In at v q;omega
  ·have a:=w _ h
   have b:=left_mono p S (S i).ln.toNat (i+1) n (by omega) (fun j x=>(l j x).2.2.1)
   rw[zeI p S i _ e] at b
   omega
 ·rintro⟨g,hn,l⟩
  have s:∀ i,i<=n->∀ k,k<p.n->0<=QF p S i k:=by
   intro i
   induction i with
   | zero=>intro _ k r;rw[left_0];have:=(g.2 k r).1;unfold In at this;omega
   | succ i ih =>
    intro m k r;have y:=ih (by omega) k r
    have f:=(l i (by omega)).2
    by_cases c:(S i).ln=(k:Int)
    ·rw[zeI p S i k c]
     have:=f.room;rw[c] at this;simp at this
     omega
    ·rw[zgM p S i k c];exact y
  refine⟨g,hn,fun i m=>?_,s n (Nat.le_refl _)⟩
  obtain⟨o,d⟩:=l i m;exact⟨d.who,d.ln,d.len,⟨d.hei.1,d.high⟩,o⟩
theorem zfO.lens {p:qi}{n:Nat}{S:Nat->ZX}(h:zfO p n S):∀ j,j<n->In (S j).len 1 2000:=fun j a=>(h.2.2 j a).2.len
theorem zgP {p:qi}{n:Nat}{S:Nat->ZX}{k:Nat}(c:zgO p)(hn:n<=60)(hl:∀ j,j<n->In (S j).len 1 2000)(d:k<p.n):-120000<=QF p S n k/\QF p S n k<=5000:=by
 have a:=(c.2 k d).1;have b:=zgN S k n hl;unfold In at a;unfold QF
 omega
def Qy (p:qi)(F:Nat->Int)(len hei:Int)(k:Nat):Prop:=k<p.n/\(hei<=p.B k/\len<=F k)/\∀ j,j<k->¬ (hei<=p.B j/\len<=F j)
theorem zeJ {p:qi}{F:Nat->Int}{len hei:Int}{k j:Nat}(a:Qy p F len hei k)(b:Qy p F len hei j):k=j:=by
 by_cases c:k<j
 ·exact absurd a.2.1 (b.2.2 k c)
 ·by_cases c2:j<k
  ·exact absurd b.2.1 (a.2.2 j c2)
  ·omega
def Places (p:qi)(n:Nat)(S:Nat->ZX)(x len hei:Int)(k:Nat):Prop :=
 zfO p n S/\n≠60/\¬ Has (Q8 S) n x/\In x 1 9999/\In len 1 2000/\In hei 1 500/\Qy p (QF p S n) len hei k
def Z7 (S:Nat->ZX)(r:Nat)(i:Nat):ZX:=if i<r then S i else S (i+1)
def zaW (S:Nat->ZF)(j:Nat):Int:=(S j).who
def ZZ (S:Nat->ZF)(k:Nat):Nat->Int
 | 0=>0
 | i+1=>ZZ S k i+(if (S i).cab=(k:Int) then (S i).many else 0)
def qW (p:qi)(S:Nat->ZF)(i:Nat)(k:Nat):Int:=p.B k - ZZ S k i
theorem zgQ (p:qi)(S:Nat->ZF)(k:Nat):qW p S 0 k=p.B k:=by unfold qW ZZ;omega
theorem zbL (p:qi)(S:Nat->ZF)(i k:Nat)(h:(S i).cab=(k:Int)):qW p S (i+1) k=qW p S i k - (S i).many:=by
 unfold qW;rw[ZZ,if_pos h];omega
theorem zeK (p:qi)(S:Nat->ZF)(i k:Nat)(h:(S i).cab≠(k:Int)):qW p S (i+1) k=qW p S i k:=by
 unfold qW;rw[ZZ,if_neg h];omega
theorem zfP (S:Nat->ZF)(k i:Nat)(h:∀ j,j<i->In (S j).many 1 4):0<=ZZ S k i/\ZZ S k i<=4*i:=by
 induction i with
 | zero=>exact⟨Int.le_refl _,by unfold ZZ;omega⟩
 | succ i ih =>
  have:=ih (fun j hj=>h j (by omega))
  have a:=h i (by omega)
  unfold In at a;unfold ZZ
  split <;> omega
theorem zck (p:qi)(S:Nat->ZF)(k i n:Nat)(a:i<=n)(h:∀ j,j<n->In (S j).many 1 4):qW p S n k<=qW p S i k:=by
 induction n with
 | zero=>rw[show i=0 by omega];exact Int.le_refl _
 | succ n ih =>
  by_cases e:i=n+1
  ·rw[e];exact Int.le_refl _
  ·have:=ih (by omega) (fun j hj=>h j (by omega))
   have hn:=h n (by omega)
   unfold In at hn
   by_cases c:(S n).cab=(k:Int)
   ·rw[zbL p S n k c];omega
   ·rw[zeK p S n k c];exact this
def zgR (p:qi):Prop:=ZG p 6 1 3 1 4
def OkR0 (p:qi)(S:Nat->ZF)(i:Nat):Prop:=In (S i).who 1 9999/\¬ Has (zaW S) i (S i).who/\In (S i).cab 0 ((p.n:Int) - 1)/\In (S i).many 1 4/\((S i).all=true->(S i).many=p.B (S i).cab.toNat)
def OkR2 (S:Nat->ZF)(i j:Nat):Prop:=(S j).cab=(S i).cab->(S j).all=false/\(S i).all=false
def OkR (p:qi)(S:Nat->ZF)(i:Nat):Prop:=OkR0 p S i/\∀ j,j<i->OkR2 S i j
def QL (p:qi)(n:Nat)(S:Nat->ZF):Prop:=zgR p/\n<=60/\(∀ i,i<n->OkR p S i)/\∀ k,k<p.n->0<=qW p S n k
theorem QL.manys {p:qi}{n:Nat}{S:Nat->ZF}(h:QL p n S):∀ j,j<n->In (S j).many 1 4:=fun j a=>(h.2.2.1 j a).1.2.2.2.1
theorem zfQ {p:qi}{n:Nat}{S:Nat->ZF}{k:Nat}(c:zgR p)(hn:n<=60)(hl:∀ j,j<n->In (S j).many 1 4)(d:k<p.n):-240<=qW p S n k/\qW p S n k<=4:=by
 have a:=(c.2 k d).2;have b:=zfP S k n hl;unfold In at a;unfold qW
 omega
def zaC (m:Nat)(P:Nat->Prop)(k:Nat):Prop:=k<m/\P k/\∀ j,j<k->¬ P j
theorem zgS {m:Nat}{P:Nat->Prop}{k j:Nat}(a:zaC m P k)(b:zaC m P j):k=j:=by
 by_cases c:k<j
 ·exact absurd a.2.1 (b.2.2 k c)
 ·by_cases c2:j<k
  ·exact absurd b.2.1 (a.2.2 j c2)
  ·omega
def zbt (p:qi)(n:Nat)(S:Nat->ZF)(cl q:Int)(k:Nat):Prop:=p.A k=cl/\qW p S n k=p.B k/\(q<=p.B k∨¬ ∃ j,j<p.n/\p.A j=cl/\q<=p.B j)
def zbM (p:qi)(n:Nat)(S:Nat->ZF)(cl q:Int)(k:Nat):Prop:=p.A k=cl/\q<=qW p S n k
def zaU (S:Nat->zaf)(j:Nat):Int:=(S j).who
def zbE (S:Nat->zaf):Nat->Int
 | 0=>0
 | i+1=>zbE S i+(S i).many
def zbb (most:Int)(n:Nat)(S:Nat->zaf):Prop :=
 In most 0 500/\n<=60/\(∀ i,i<n->In (S i).who 1 9999/\¬ Has (zaU S) i (S i).who/\In (S i).many 1 20)/\zbE S n<=most
theorem zdg (S:Nat->zaf)(i:Nat)(h:∀ j,j<i->In (S j).many 1 20):0<=zbE S i/\zbE S i<=20*i:=by
 induction i with
 | zero=>exact⟨Int.le_refl _,by unfold zbE;omega⟩
 | succ i ih =>
  have:=ih (fun j hj=>h j (by omega))
  have a:=h i (by omega)
  unfold In at a;unfold zbE
  omega
section
open Go.RowKit
def ZK.p (b:ZK):Zf:=⟨b.pe,b.len,b.hei,b.cl,b.all,b.be⟩
def zee (b:ZK):Prop:=b.state=1∨b.state=2
instance (b:ZK):Decidable (zee b):=by unfold zee;exact inferInstance
def HasLeg (b:ZK)(x:Int):Prop:=∃ j,j<b.lgn/\b.lg j=x
def Q9 (b:ZK):Prop:=if b.state=1∨b.state=4 then In b.unt 0 10000 else b.unt=0
instance (b:ZK):Decidable (Q9 b):=by unfold Q9;exact inferInstance
def Zx (o:Off)(i:Nat):Prop :=
 (o.bk i).name=i+1/\In (o.bk i).who 1 9999/\qK (o.bk i).own/\zba o.san o.sa (o.bk i).lgn (o.bk i).lg/\qI (o.bk i).p/\In (o.bk i).state 1 4/\In (o.bk i).price 0 1000000 /\
  (∀ j,j<i->(o.bk j).who≠(o.bk i).who)/\Q9 (o.bk i)
def zbN (x:qT)(b:ZK)(n:Nat):Prop:=∃ j,j<n/\(x.se j).who=b.who/\(x.se j).many=b.pe
def zbO (x:qT)(b:ZK)(n:Nat):Prop:=∃ j,j<n/\(x.st j).who=b.who/\(x.st j).len=b.len/\(x.st j).hei=b.hei
def zhF (s:Sail)(b:ZK)(r:ZF):Prop:=r.who=b.who/\r.all=b.all/\s.ca.A r.cab.toNat=b.cl/\(b.all=true∨r.many=b.be)
def zbc (s:Sail)(x:qT)(b:ZK)(n:Nat):Prop:=∃ j,j<n/\zhF s b (x.ro j)
def zbd (s:Sail)(x:qT)(b:ZK):Prop:=zbN x b x.sen/\(b.len=0∨zbO x b x.stn)/\(b.cl=0∨zbc s x b x.ron)
open Classical in
/-- How many of the first n are so. -/
noncomputable def cnt (P:Nat->Prop):Nat->Nat
 | 0=>0
 | n+1=>cnt P n+(if P n then 1 else 0)
theorem zag {P:Nat->Prop}{n:Nat}(h:P n):cnt P (n+1)=cnt P n+1:=by rw[cnt,if_pos h]
theorem zaQ {P:Nat->Prop}{n:Nat}(h:¬ P n):cnt P (n+1)=cnt P n:=by rw[cnt,if_neg h];rfl
theorem cnt_le (P:Nat->Prop)(n:Nat):cnt P n<=n:=by
 induction n with
 | zero=>exact Nat.le_refl _
 | succ n ih =>
  by_cases h:P n
  ·rw[zag h];omega
  ·rw[zaQ h];omega
def qJ (s:Sail)(x:qT):Prop:=DeckS s.la x.stn x.st/\QL s.ca x.ron x.ro/\zbb s.most x.sen x.se
theorem rooms_cab {p:qi}{n:Nat}{S:Nat->ZF}(h:QL p n S):∀ j,j<n->0<=(S j).cab/\(S j).cab<p.n:=fun j a=>by
 have:=(h.2.2.1 j a).1;unfold OkR0 In at this
 omega
def On (o:Off)(k i:Nat):Prop:=zee (o.bk i)/\HasLeg (o.bk i) (o.sa k).id
def zcl (o:Off)(k:Nat):Prop :=
 (∀ i,i<o.bkn->On o k i->zbd (o.sa k) (o.ld k) (o.bk i))/\(o.ld k).stn=cnt (fun i=>On o k i/\0<(o.bk i).len) o.bkn/\(o.ld k).ron=cnt (fun i=>On o k i/\0<(o.bk i).cl) o.bkn/\(o.ld k).sen=cnt (On o k) o.bkn
def Zy (o:Off):Prop :=
 zch o.san o.sa/\o.ldn=o.san/\o.bkn<=30/\(∀ k,k<o.san->qJ (o.sa k) (o.ld k))/\(∀ i,i<o.bkn->Zx o i)/\∀ k,k<o.san->zcl o k
end
def zfR:qT:=⟨0,fun _=>⟨0,0,0,0⟩,0,fun _=>⟨0,0,0,false⟩,0,fun _=>⟨0,0⟩⟩
def noBook:ZK:=⟨0,0,⟨#[]⟩,0,fun _=>0,0,0,0,0,false,0,0,0,0⟩
def zef (N:Nat)(S:Nat->Sail):Off:=⟨N,S,N,fun _=>zfR,0,fun _=>noBook⟩
def zeg:Nat->Value:=fun _=>.slice none 0 0
theorem made_ld (n:Nat):(madeCells (Value.agg #[.slice none 0 0,.slice none 0 0,.slice none 0 0]).cells (n*3)).toList=zbx zeg zeg zeg n:=by
 have a:(Value.agg #[.slice none 0 0,.slice none 0 0,.slice none 0 0]).cells=#[.slice none 0 0,.slice none 0 0,.slice none 0 0]:=rfl;rw[a];unfold zbx madeCells;rw[Array.toList_map,Array.toList_range];refine List.map_congr_left fun j _=>?_
 have:j % 3=0∨j % 3=1∨j % 3=2:=by omega
 unfold recCell ldC zeg
 rcases this with h|h|h <;> simp[h]
theorem zeL (w:World)(base e size:Nat)(F:Nat->List Value)(h:F 0=[])(i:Nat):w.ownsRow base e size (zeg i) 0 (F 0):=by
 rw[h];exact⟨by simp,.inl ⟨rfl,rfl⟩⟩
theorem zeM (N:Nat):FarV N zeg:=fun i j _ _ _ b h=>by simp[zeg,Value.ownBlock] at h
theorem lds_made {w:World}{base n:Nat}{v:Value}(h:w.ownsRow base 136 3 v n (zbx zeg zeg zeg n)):Zb w base v n (fun _=>zfR) zeg zeg zeg :=
 ⟨h,fun i _=>zeL w base 186 4 (fun k=>zX zfR.st k) rfl i,fun i _=>zeL w base 190 4 (fun k=>zQ zfR.ro k) rfl i,fun i _=>zeL w base 138 2 (fun k=>zW zfR.se k) rfl i,zeM n,zeM n,zeM n⟩
theorem zcD {N:Nat}{S:Nat->Sail}{B:Nat}(a:N<=B)(c:ShortAll N S B):Off.Short (zef N S) B :=
 ⟨⟨a,c⟩,⟨a,fun _ _=>⟨Nat.zero_le _,Nat.zero_le _,Nat.zero_le _⟩⟩,⟨Nat.zero_le _,fun _ b=>absurd b (Nat.not_lt_zero _)⟩⟩
theorem zfS {w:World}{g t:Nat}{u0 u1 u2:Value}(h:w.heap[g]?=some (.cells #[u0,u1,u2] t (0,0)))(c d e:Value) :
  (((w.setCell ⟨g,0,none⟩ c).setCell ⟨g,1,none⟩ d).setCell ⟨g,2,none⟩ e).heap[g]?=some (.cells #[c,d,e] t (0,0)):=by
 have a:(w.setCell ⟨g,0,none⟩ c).heap[g]?=some (.cells #[c,u1,u2] t (0,0)):=by simpa using zy h 0 c
 have b:((w.setCell ⟨g,0,none⟩ c).setCell ⟨g,1,none⟩ d).heap[g]?=some (.cells #[c,d,u2] t (0,0)):=by simpa using zy a 1 d
 simpa using zy b 2 e
def NewO (N:Nat)(S:Nat->Sail)(base:Nat)(e:Ending)(w:World):Prop :=
 ∃ a1 c1 a2 c2 a3 c3 M L C A B D E t,M<=N/\e=.returned (.tuple #[.agg #[.slice a1 M c1,.slice a2 M c2,.slice a3 0 c3],.bool t])/\zV w base (.slice a1 M c1) (.slice a2 M c2) (.slice a3 0 c3) M M 0 (zef M S) L C A B D E
theorem zfT (r:Option Addr)(N c:Nat)(S:Nat->Sail)(w:World)(T:N<=1048576)(W:ShortAll N S 1048576)(Y:SailsAt w r N S) :
  Calls Tryz.prog 78 #[.slice r N c] w fun e w'=>NewO N S w.heap.size e w'/\Below w.heap.size w w':=by
 obtain⟨i0,hi,H,I,J⟩:=info_parts Tryz.infoLoadO;have Q:=hI W;have R:=hI Y;clear W Y;have i:Below w.heap.size w (w.alloc (.cells #[.slice none 0 0,.slice none 0 0,.slice none 0 0] 66)):=zr bZ _;have y:=heap_alloc_new w (.cells #[.slice none 0 0,.slice none 0 0,.slice none 0 0] 66);go_enter Tryz.func78,Tryz.ntmps78;go_wp2_with fail;generalize w.alloc (.cells #[.slice none 0 0,.slice none 0 0,.slice none 0 0] 66)=V at i y ⊢;refine(zdf r N c S _ T Q.out (R.out.below i)).mono ?_;rintro e X ⟨⟨t,rfl,ht⟩,m⟩;have g:=zc y m;have k:=zj i m;clear ht y i m
 cases t with
 | false =>
  obtain⟨r0,r1,r2⟩:=ce3 g;obtain⟨f0,f1,f2⟩:=fe3 g;go_wp2;have K:=zfS g (.slice none 0 0) (.slice none 0 0) (.slice none 0 0);obtain⟨M,O,P⟩:=ce3 K;exact bodyPost_ret (v:=.tuple #[.agg #[.slice none 0 0,.slice none 0 0,.slice none 0 0],.bool false]) (by simp[results,Tryz.results78,go_sem,M,O,P]) rfl ⟨⟨none,0,none,0,none,0,0,zeg,zeg,zeg,zeg,zeg,zeg,false,Nat.zero_le _,rfl,OwnSails.nil _ _ _ _ _,Zb.nil _ _ _ _ _ _,Zj.nil _ _ _ _⟩,((k.setCell (Nat.le_refl _) _).setCell (Nat.le_refl _) _).setCell (Nat.le_refl _) _⟩
 | true =>
 go_wp2_with (first|(at_make;refine wpList_make_full _ rfl _ _ 63 rfl 0 136 i0 _ 3 Tryz.underlying63 hi H I .i64 .i64 _ _ N rfl rfl rfl rfl (by rw[J];omega) (by unfold maxLen;omega) (Nat.zero_le _) ?_;intro Z d f))
 rw[made_ld] at d;have j:=(Below.refl X.heap.size X).grown f (Nat.le_refl _) (by simp)
 refine(zaj r _ none N N 0 c N 0 (zef N S) _ rfl rfl rfl (zcD T Q.out) (R.out.below (zj k j)) (Zb.at(lds_made d)) (Zj.at(Zj.nil _ 0 _ zeg))).mono ?_;rintro e w2 ⟨⟨n,s,o,u,q,x,L,C,A,B,D,E,rfl,U⟩,l⟩;have h:=zc (zc g j) l;have F:=zj (zj k j) l;have a0:w.heap.size<Z.heap.size:=zZ (zc g j);have HO:=hI U;clear U l d f;obtain⟨r0,r1,r2⟩:=ce3 h;obtain⟨f0,f1,f2⟩:=fe3 h;go_wp2;have K:=zfS h (.slice n N s) (.slice o N u) (.slice q 0 x);obtain⟨M,O,P⟩:=ce3 K;have G:=((((zA.refl _ (fun b=>b=w.heap.size)).set (a:=⟨w.heap.size,0,none⟩) rfl (.slice n N s)).set (a:=⟨w.heap.size,1,none⟩) rfl (.slice o N u)).set (a:=⟨w.heap.size,2,none⟩) rfl (.slice q 0 x):zA w2 _ _)
 have z:=(HO.out.box G h (by decide)).lower (by omega:w.heap.size<=Z.heap.size)
 exact bodyPost_ret (v:=.tuple #[.agg #[.slice n N s,.slice o N u,.slice q 0 x],.bool true]) (by simp[results,Tryz.results78,go_sem,M,O,P]) rfl ⟨⟨n,s,o,u,q,x,N,L,C,A,B,D,E,true,Nat.le_refl _,rfl,z⟩,((F.setCell (p:=⟨w.heap.size,0,none⟩) (Nat.le_refl _) _).setCell (p:=⟨w.heap.size,1,none⟩) (Nat.le_refl _) _).setCell (p:=⟨w.heap.size,2,none⟩) (Nat.le_refl _) _⟩
end Go.Proofs.YtfallpinmhbemaaGreatDoor
