/-
  OWN TEXT: SpecIn3, SpecFc, SpecFg, SpecName, SpecO1, PlainF, PlainOff.
-/
import Derived.Deep.DeepCutAuto
import Derived.Test.YtmdnjgihooflfaaGreatDoorKitCo
import Derived.Deep.LoopGhost
import Derived.Test.YtmdnjgihooflfaaGreatDoorB10
namespace Go.Proofs.YtmdnjgihooflfaaGreatDoor
open Go.RowKit
open Go.Value (int)
open Go.IntKind (i64)
open Tryz
set_option maxHeartbeats 64000000
set_option maxRecDepth 100000
theorem zt (x lo a:Int)(w:World) :
  Calls prog 148 #[int i64 x,int i64 lo,int i64 a] w λe w'=>e=.returned (.bool (decide (In x lo a)))/\w'=w:=by
 by_cases h:In x lo a
 ·rw[Jd h];exact l1In_yes x lo a w h.1 h.2
 ·rw[Jc h];exact l1In_no x lo a w h
theorem Zc (x y:Int)(w:World) :
  Calls prog 224 #[x,y] w λe w'=>e=.returned (.bool (decide (zbA x y)))/\w'=w:=by
 obtain⟨c,f⟩:∃ c,c=decide (zbA x y):=⟨_,rfl⟩;rw[← f];have d:=hI f;clear f
 by_cases h1:In x 1 2000
 ·have g:=Jd h1
  have a:=hI h1;clear h1
  by_cases h2:In y 1 500
  ·have i:=Jd h2
   have b:=hI h2;clear h2;go_enter func224,ntmps224;go_wp2_with (first|(go_at_call 148;refine sC (zt _ _ _ _) ?_))
   go_ret;exact⟨by rw[d.out,Jd ⟨a.out,b.out⟩];rfl,rfl⟩
  ·have i:=Jc h2
   have b:=hI h2;clear h2;go_enter func224,ntmps224;go_wp2_with (first|(go_at_call 148;refine sC (zt _ _ _ _) ?_))
   go_ret;exact⟨by rw[d.out,Jc (λh=>b.out h.2)];rfl,rfl⟩
 ·have g:=Jc h1
  have a:=hI h1;clear h1;go_enter func224,ntmps224;go_wp2_with (first|(go_at_call 148;refine sC (zt _ _ _ _) ?_))
  go_ret;exact⟨by rw[d.out,Jc (λh=>a.out h.1)];rfl,rfl⟩
theorem zaz (pe len hei cl:Int)(all:Bool)(be:Int)(w:World) :
  Calls prog 158 #[.agg #[pe,len,hei,cl,all,be]] w λe w'=>qX (qI ⟨pe,len,hei,cl,all,be⟩) e/\Below w.heap.size w w':=by
 by_cases h1:In pe 1 20
 ·have o:=Jd h1
  have b:=hI h1;clear h1
  by_cases h2:len=0
  ·subst h2
   have l:Hid (¬ zbA 0 hei):=λh=>by have:=h.1;unfold In at this;omega
   have m:=Jc l
   by_cases h3:hei=0
   ·subst h3
    by_cases k0:cl=0
    ·subst k0
     cases all with
     | true =>
      go_enter func158,ntmps158;go_wp2_with (first|(go_at_call 148;refine sC (zt _ _ _ _) ?_)|(go_at_call 224;refine sC (Zc _ _ _) ?_))
      go_ret;exact⟨zl (λh=>by rcases h.2.2 with h|h;cases h.2.1;have h9:In (0:Int) 1 3:=h.1;unfold In at h9;omega),zk bZ _⟩
     | false =>
      by_cases k1:be=0
      ·subst k1
       go_enter func158,ntmps158;go_wp2_with (first|(go_at_call 148;refine sC (zt _ _ _ _) ?_)|(go_at_call 224;refine sC (Zc _ _ _) ?_))
       go_ret;exact⟨zR ⟨b,.inl ⟨rfl,rfl⟩,.inl ⟨rfl,rfl,rfl⟩⟩,zk bZ _⟩
      ·have i:(be == 0)=false:=by simpa using k1
       have f:=hI k1;clear k1;go_enter func158,ntmps158;go_wp2_with (first|(go_at_call 148;refine sC (zt _ _ _ _) ?_)|(go_at_call 224;refine sC (Zc _ _ _) ?_))
       go_ret;exact⟨zl (λh=>by rcases h.2.2 with h|h;exact f h.2.2;have h9:In (0:Int) 1 3:=h.1;unfold In at h9;omega),zk bZ _⟩
    ·have q:(cl == 0)=false:=by simpa using k0
     have d:=hI k0;clear k0
     by_cases k2:In cl 1 3
     ·have j:=Jd k2
      have a:=hI k2;clear k2
      cases all with
      | true =>
       by_cases k1:be=0
       ·subst k1
        go_enter func158,ntmps158;go_wp2_with (first|(go_at_call 148;refine sC (zt _ _ _ _) ?_)|(go_at_call 224;refine sC (Zc _ _ _) ?_))
        go_ret;exact⟨zR ⟨b,.inl ⟨rfl,rfl⟩,.inr ⟨a,.inl ⟨rfl,rfl⟩⟩⟩,zk bZ _⟩
       ·have i:(be == 0)=false:=by simpa using k1
        have f:=hI k1;clear k1;go_enter func158,ntmps158;go_wp2_with (first|(go_at_call 148;refine sC (zt _ _ _ _) ?_)|(go_at_call 224;refine sC (Zc _ _ _) ?_))
        go_ret;exact⟨zl (λh=>by rcases h.2.2 with h|h;exact d h.1;rcases h.2 with h|h;exact f h.2;cases h.1),zk bZ _⟩
      | false =>
       by_cases k3:In be 1 4
       ·have k:=Jd k3
        have g:=hI k3;clear k3;go_enter func158,ntmps158;go_wp2_with (first|(go_at_call 148;refine sC (zt _ _ _ _) ?_)|(go_at_call 224;refine sC (Zc _ _ _) ?_))
        go_ret;exact⟨zR ⟨b,.inl ⟨rfl,rfl⟩,.inr ⟨a,.inr ⟨rfl,g⟩⟩⟩,zk bZ _⟩
       ·have k:=Jc k3
        have g:=hI k3;clear k3;go_enter func158,ntmps158;go_wp2_with (first|(go_at_call 148;refine sC (zt _ _ _ _) ?_)|(go_at_call 224;refine sC (Zc _ _ _) ?_))
        go_ret;exact⟨zl (λh=>by rcases h.2.2 with h|h;exact d h.1;rcases h.2 with h|h;cases h.1;exact g h.2),zk bZ _⟩
     ·have j:=Jc k2
      have a:=hI k2;clear k2;go_enter func158,ntmps158;go_wp2_with (first|(go_at_call 148;refine sC (zt _ _ _ _) ?_)|(go_at_call 224;refine sC (Zc _ _ _) ?_))
      go_ret;exact⟨zl (λh=>by rcases h.2.2 with h|h;exact d h.1;exact a h.1),zk bZ _⟩
   ·have p:(hei == 0)=false:=by simpa using h3
    have c:=hI h3;clear h3;go_enter func158,ntmps158;go_wp2_with (first|(go_at_call 148;refine sC (zt _ _ _ _) ?_)|(go_at_call 224;refine sC (Zc _ _ _) ?_))
    go_ret;exact⟨zl (λh=>by rcases h.2.1 with h|h;exact c h.2;exact l h),zk bZ _⟩
  ·have p:(len == 0)=false:=by simpa using h2
   have n:=hI h2;clear h2
   by_cases h3:zbA len hei
   ·have m:=Jd h3
    have c:=hI h3;clear h3
    by_cases k0:cl=0
    ·subst k0
     cases all with
     | true =>
      go_enter func158,ntmps158;go_wp2_with (first|(go_at_call 148;refine sC (zt _ _ _ _) ?_)|(go_at_call 224;refine sC (Zc _ _ _) ?_))
      go_ret;exact⟨zl (λh=>by rcases h.2.2 with h|h;cases h.2.1;have h9:In (0:Int) 1 3:=h.1;unfold In at h9;omega),zk bZ _⟩
     | false =>
      by_cases k1:be=0
      ·subst k1
       go_enter func158,ntmps158;go_wp2_with (first|(go_at_call 148;refine sC (zt _ _ _ _) ?_)|(go_at_call 224;refine sC (Zc _ _ _) ?_))
       go_ret;exact⟨zR ⟨b,.inr c,.inl ⟨rfl,rfl,rfl⟩⟩,zk bZ _⟩
      ·have i:(be == 0)=false:=by simpa using k1
       have f:=hI k1;clear k1;go_enter func158,ntmps158;go_wp2_with (first|(go_at_call 148;refine sC (zt _ _ _ _) ?_)|(go_at_call 224;refine sC (Zc _ _ _) ?_))
       go_ret;exact⟨zl (λh=>by rcases h.2.2 with h|h;exact f h.2.2;have h9:In (0:Int) 1 3:=h.1;unfold In at h9;omega),zk bZ _⟩
    ·have q:(cl == 0)=false:=by simpa using k0
     have d:=hI k0;clear k0
     by_cases k2:In cl 1 3
     ·have j:=Jd k2
      have a:=hI k2;clear k2
      cases all with
      | true =>
       by_cases k1:be=0
       ·subst k1
        go_enter func158,ntmps158;go_wp2_with (first|(go_at_call 148;refine sC (zt _ _ _ _) ?_)|(go_at_call 224;refine sC (Zc _ _ _) ?_))
        go_ret;exact⟨zR ⟨b,.inr c,.inr ⟨a,.inl ⟨rfl,rfl⟩⟩⟩,zk bZ _⟩
       ·have i:(be == 0)=false:=by simpa using k1
        have f:=hI k1;clear k1;go_enter func158,ntmps158;go_wp2_with (first|(go_at_call 148;refine sC (zt _ _ _ _) ?_)|(go_at_call 224;refine sC (Zc _ _ _) ?_))
        go_ret;exact⟨zl (λh=>by rcases h.2.2 with h|h;exact d h.1;rcases h.2 with h|h;exact f h.2;cases h.1),zk bZ _⟩
      | false =>
       by_cases k3:In be 1 4
       ·have k:=Jd k3
        have g:=hI k3;clear k3;go_enter func158,ntmps158;go_wp2_with (first|(go_at_call 148;refine sC (zt _ _ _ _) ?_)|(go_at_call 224;refine sC (Zc _ _ _) ?_))
        go_ret;exact⟨zR ⟨b,.inr c,.inr ⟨a,.inr ⟨rfl,g⟩⟩⟩,zk bZ _⟩
       ·have k:=Jc k3
        have g:=hI k3;clear k3;go_enter func158,ntmps158;go_wp2_with (first|(go_at_call 148;refine sC (zt _ _ _ _) ?_)|(go_at_call 224;refine sC (Zc _ _ _) ?_))
        go_ret;exact⟨zl (λh=>by rcases h.2.2 with h|h;exact d h.1;rcases h.2 with h|h;cases h.1;exact g h.2),zk bZ _⟩
     ·have j:=Jc k2
      have a:=hI k2;clear k2;go_enter func158,ntmps158;go_wp2_with (first|(go_at_call 148;refine sC (zt _ _ _ _) ?_)|(go_at_call 224;refine sC (Zc _ _ _) ?_))
      go_ret;exact⟨zl (λh=>by rcases h.2.2 with h|h;exact d h.1;exact a h.1),zk bZ _⟩
   ·have m:=Jc h3
    have c:=hI h3;clear h3;go_enter func158,ntmps158;go_wp2_with (first|(go_at_call 148;refine sC (zt _ _ _ _) ?_)|(go_at_call 224;refine sC (Zc _ _ _) ?_))
    go_ret;exact⟨zl (λh=>by rcases h.2.1 with h|h;exact n h.1;exact c h),zk bZ _⟩
 ·have o:=Jc h1
  have b:=hI h1;clear h1;go_enter func158,ntmps158;go_wp2_with (first|(go_at_call 148;refine sC (zt _ _ _ _) ?_)|(go_at_call 224;refine sC (Zc _ _ _) ?_))
  go_ret;exact⟨zl (λh=>b h.1),zk bZ _⟩
theorem zni (s:ByteArray)(w:World)(hs:s.size<=1000000000000000) :
  Calls prog 156 #[s] w λe w'=>qX (Zg s) e/\w'=w:=by
 by_cases h0:In (s.size:Int) 1 12
 ·have d:=hI h0
  have t:=Jd h0;have z:s.size<=12:=by have:=h0.2;omega
  clear h0;go_enter func156,ntmps156;go_wp2_with (first|(go_at_call 148;refine sC (zt _ _ _ _) ?_))
  go_loop [3,4] (λi _=>∃ k,k<=s.size/\i=int i64 k/\∀ j,j<k->zcj (zed s j)) (λi _=>s.size - (intOf i).toNat)
  case atStart=>exact⟨0,Jq _,rfl,λj x=>by omega⟩
  case round =>
   obtain⟨k,hk,rfl,a⟩:=hrel;have o:=hI a;clear a
   by_cases hlt:k<s.size
   ·have l:=zgk s k hlt
    obtain⟨y,m⟩:∃ y,y=zed s k:=⟨_,rfl⟩;rw[← m] at l;have p:=hI m;clear m;have c:zcj y->(∃ n,n<=s.size/\Value.int .i64 ((k:Int)+1)=Value.int .i64 (n:Int)/\∀ j,j<n->zcj (zed s j)):=λg=>⟨k+1,by omega,by simp,λj x=>by
     by_cases e:j=k
     ·subst e;rw[← p.out];exact g
     ·exact o j (by omega)⟩
    have b:=hI c;have f:Hid (¬ zcj y->¬ Zg s):=λg h=>g (by rw[p.out];exact h.2.2 k hlt)
    clear c
    by_cases h1:97<=y
    ·have u:decide (97<=y)=true:=by simpa using h1
     by_cases h2:y<=122
     ·have v:decide (y<=122)=true:=by simpa using h2
      go_wp2;go_round
      case rel=>exact b (.inl ⟨h1,h2⟩)
      case measure=>simp[intOf];omega
     ·have v:decide (y<=122)=false:=by simpa using h2
      have q:decide (65<=y)=true:=by simp;omega
      have r:decide (y<=90)=false:=by simp;omega
      go_wp2;go_ret;exact⟨zl (f (by rintro(h|h) <;> omega)),rfl⟩
    ·have u:decide (97<=y)=false:=by simpa using h1
     by_cases h3:65<=y
     ·have q:decide (65<=y)=true:=by simpa using h3
      by_cases h4:y<=90
      ·have r:decide (y<=90)=true:=by simpa using h4
       go_wp2;go_round
       case rel=>exact b (.inr ⟨h3,h4⟩)
       case measure=>simp[intOf];omega
      ·have r:decide (y<=90)=false:=by simpa using h4
       go_wp2;go_ret;exact⟨zl (f (by rintro(h|h) <;> omega)),rfl⟩
     ·have q:decide (65<=y)=false:=by simpa using h3
      go_wp2;go_ret;exact⟨zl (f (by rintro(h|h) <;> omega)),rfl⟩
   ·obtain rfl:k=s.size:=by omega
    go_wp2;go_ret;exact⟨zR ⟨by have:=d.1;omega,by have:=d.2;omega,o⟩,rfl⟩
 ·have d:=hI h0
  have t:=Jc h0;clear h0;go_enter func156,ntmps156;go_wp2_with (first|(go_at_call 148;refine sC (zt _ _ _ _) ?_))
  go_ret;exact⟨zl (λh=>d ⟨by have:=h.1;omega,by have:=h.2.1;omega⟩),rfl⟩
theorem qS (s:ByteArray)(w:World)(a:s.size<=1000000000000000) :
  Calls prog 156 #[s] w λe w'=>e=.returned (.bool (decide (Zg s)))/\w'=w:=by
 refine(zni s w a).mono ?_;rintro e w' ⟨⟨b',rfl,h⟩,rfl⟩;rw[bool_eq h (decide_eq_true_iff)];exact⟨rfl,rfl⟩
theorem zO (k:Int)(w:World):Calls prog 162 #[k] w λe w'=>e=.returned (.bool (decide (In k 4 8)))/\w'=w:=by
 go_enter func162,ntmps162;go_wp2_with (first|(go_at_call 148;refine sC (zt _ _ _ _) ?_))
 go_ret;exact⟨rfl,rfl⟩
theorem zV (k:Int)(w:World):Calls prog 160 #[k] w λe w'=>e=.returned (.bool (decide (zJ k)))/\w'=w:=by
 obtain⟨c,d⟩:∃ c,c=decide (zJ k):=⟨_,rfl⟩;rw[← d];have b:=hI d;clear d
 by_cases h1:k=1
 ·have a:Hid (c=true):=by rw[b.out];exact Jd (.inl h1)
  subst h1;go_enter func160,ntmps160;go_wp2;go_ret;exact⟨by rw[a.out];rfl,rfl⟩
 ·have e1:(k == 1)=false:=by simpa using h1
  by_cases h2:k=2
  ·have a:Hid (c=true):=by rw[b.out];exact Jd (.inr (.inl h2))
   subst h2;go_enter func160,ntmps160;go_wp2;go_ret;exact⟨by rw[a.out];rfl,rfl⟩
  ·have e2:(k == 2)=false:=by simpa using h2
   by_cases h3:k=3
   ·have a:Hid (c=true):=by rw[b.out];exact Jd (.inr (.inr (.inl h3)))
    subst h3;go_enter func160,ntmps160;go_wp2;go_ret;exact⟨by rw[a.out];rfl,rfl⟩
   ·have e3:(k == 3)=false:=by simpa using h3
    by_cases h5:k=5
    ·have a:Hid (c=true):=by rw[b.out];exact Jd (.inr (.inr (.inr h5)))
     subst h5;go_enter func160,ntmps160;go_wp2;go_ret;exact⟨by rw[a.out];rfl,rfl⟩
    ·have e5:(k == 5)=false:=by simpa using h5
     have a:Hid (c=false):=by rw[b.out];exact Jc (λh=>by rcases h with h|h|h|h;exact h1 h;exact h2 h;exact h3 h;exact h5 h)
     clear h1 h2 h3 h5;go_enter func160,ntmps160;go_wp2;go_ret;exact⟨by rw[a.out];rfl,rfl⟩
def zW (S:Nat->Zj)(x:Int):Nat->Nat
 | 0=>0
 | n+1=>if zW S x n<n then zW S x n else if (S n).id=x then n else n+1
theorem zcm (S:Nat->Zj)(x:Int)(n:Nat):zW S x n<=n:=by
 induction n with
 | zero=>exact Jr _
 | succ n ih=>unfold zW;split <;> (try split) <;> omega
theorem ziI (S:Nat->Zj)(x:Int)(n:Nat):∀ j,j<zW S x n->(S j).id≠x:=by
 induction n with
 | zero=>intro j a;unfold zW at a;omega
 | succ n ih =>
  intro j a;unfold zW at a;have hl:=zcm S x n
  split at a
  ·exact ih j a
  ·rename_i h
   split at a
   ·exact ih j (by omega)
   ·rename_i h2
    by_cases e:j=n
    ·subst e;exact h2
    ·exact ih j (by omega)
theorem zcn (S:Nat->Zj)(x:Int)(n:Nat)(h:zW S x n<n):(S (zW S x n)).id=x:=by
 induction n with
 | zero=>omega
 | succ n ih =>
  unfold zW at h ⊢
  split
  ·rename_i h1;exact ih h1
  ·rename_i h1
   rw[Je h1] at h
   split
   ·rename_i h2;exact h2
   ·rename_i h2;rw[Je h2] at h;omega
theorem zkg {S:Nat->Zj}{x:Int}{n r:Nat}(hr:r<n)(b:(S r).id=x)(a:∀ j,j<r->(S j).id≠x):zW S x n=r:=by
 have h1:=ziI S x n
 by_cases c:zW S x n<r
 ·exact absurd (zcn S x n (by omega)) (a _ c)
 ·by_cases c2:r<zW S x n
  ·exact absurd b (h1 r c2)
  ·omega
theorem zgD {S:Nat->Zj}{x:Int}{n:Nat}(a:∀ j,j<n->(S j).id≠x):zW S x n=n:=by
 have h1:=zcm S x n
 by_cases c:zW S x n<n
 ·exact absurd (zcn S x n c) (a _ c)
 ·omega
def zkh (N:Nat)(S:Nat->Zj)(G:Nat->Int)(i:Nat):Prop :=
 zW S (G i) N<N/\(0<i->(S (zW S (G (i - 1)) N)).dst=(S (zW S (G i) N)).fr/\(S (zW S (G (i - 1)) N)).arr<=(S (zW S (G i) N)).dep)
def zad (N:Nat)(S:Nat->Zj)(n:Nat)(G:Nat->Int):Prop:=1<=n/\n<=3/\∀ i,i<n->zkh N S G i
section
open Go.RowKit
def ql.p (b:ql):Qh:=⟨b.pe,b.len,b.hei,b.cl,b.all,b.be⟩
def zez (b:ql):Prop:=b.state=1∨b.state=2
instance (b:ql):Decidable (zez b):=by unfold zez;exact inferInstance
def HasLeg (b:ql)(x:Int):Prop:=∃ j,j<b.lgn/\b.lg j=x
def zaA (b:ql):Prop:=if b.state=1∨b.state=4 then In b.unt 0 10000 else b.unt=0
instance (b:ql):Decidable (zaA b):=by unfold zaA;exact inferInstance
def Zt (o:Off)(i:Nat):Prop :=
 (o.bk i).name=i+1/\In (o.bk i).who 1 9999/\Zg (o.bk i).own/\zad o.san o.sa (o.bk i).lgn (o.bk i).lg/\qI (o.bk i).p/\In (o.bk i).state 1 4/\In (o.bk i).price 0 1000000 /\
  (∀ j,j<i->(o.bk j).who≠(o.bk i).who)/\zaA (o.bk i)
def zeA (x:zY)(b:ql)(n:Nat):Prop:=∃ j,j<n/\(x.se j).who=b.who/\(x.se j).many=b.pe
def zeB (x:zY)(b:ql)(n:Nat):Prop:=∃ j,j<n/\(x.st j).who=b.who/\(x.st j).len=b.len/\(x.st j).hei=b.hei
def zmD (s:Zj)(b:ql)(r:qN):Prop:=r.who=b.who/\r.all=b.all/\s.ca.A r.cab.toNat=b.cl/\(b.all=true∨r.many=b.be)
def zdt (s:Zj)(x:zY)(b:ql)(n:Nat):Prop:=∃ j,j<n/\zmD s b (x.ro j)
def zbX (s:Zj)(x:zY)(b:ql):Prop:=zeA x b x.sen/\(b.len=0∨zeB x b x.stn)/\(b.cl=0∨zdt s x b x.ron)
open Classical in
/-- How many of the first n are so. -/
noncomputable def cnt (P:Nat->Prop):Nat->Nat
 | 0=>0
 | n+1=>cnt P n+(if P n then 1 else 0)
theorem Qy {P:Nat->Prop}{n:Nat}(h:P n):cnt P (n+1)=cnt P n+1:=by rw[cnt,Jf h]
theorem zae {P:Nat->Prop}{n:Nat}(h:¬ P n):cnt P (n+1)=cnt P n:=by rw[cnt,Je h];rfl
theorem zhT (P:Nat->Prop)(n:Nat):cnt P n<=n:=by
 induction n with
 | zero=>exact Jr _
 | succ n ih =>
  by_cases h:P n
  ·rw[Qy h];omega
  ·rw[zae h];omega
def qm (s:Zj)(x:zY):Prop:=DeckS s.la x.stn x.st/\Qr s.ca x.ron x.ro/\Qx s.most x.sen x.se
theorem zki {p:zH}{n:Nat}{S:Nat->qN}(h:Qr p n S):∀ j,j<n->0<=(S j).cab/\(S j).cab<p.n:=λj a=>by
 have:=(h.2.2.1 j a).1;unfold OkR0 In at this
 omega
def On (o:Off)(k i:Nat):Prop:=zez (o.bk i)/\HasLeg (o.bk i) (o.sa k).id
def zaQ (o:Off)(k:Nat):Prop :=
 (∀ i,i<o.bkn->On o k i->zbX (o.sa k) (o.ld k) (o.bk i))/\(o.ld k).stn=cnt (λi=>On o k i/\0<(o.bk i).len) o.bkn/\(o.ld k).ron=cnt (λi=>On o k i/\0<(o.bk i).cl) o.bkn/\(o.ld k).sen=cnt (On o k) o.bkn
def Zk (o:Off):Prop :=
 QJ o.san o.sa/\o.ldn=o.san/\o.bkn<=30/\(∀ k,k<o.san->qm (o.sa k) (o.ld k))/\(∀ i,i<o.bkn->Zt o i)/\∀ k,k<o.san->zaQ o k
end
end Go.Proofs.YtmdnjgihooflfaaGreatDoor
