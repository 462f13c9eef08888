/-
  OWN TEXT: SpecFc, SpecFg, SpecName, SpecO1, PlainF, PlainOff, SpecWk.
-/
import Derived.Deep.DeepCutAuto
import Derived.Deep.LoopGhost
import Derived.Test.YtmdnjgihooflfaaGreatDoorB10
namespace Go.Proofs.YtmdnjgihooflfaaGreatDoor
open Go.RowKit
open Go.Value (int)
open Go.IntKind (i64)
set_option maxHeartbeats 64000000
set_option maxRecDepth 100000
theorem Zc (x y:Int)(w:World) :
  Calls Tryz.prog 224 #[int i64 x,int i64 y] w fun e w'=>e=.returned (.bool (decide (zbA x y)))/\w'=w:=by
 obtain⟨c,f⟩:∃ c,c=decide (zbA x y):=⟨_,rfl⟩;rw[← f];have d:=hI f;clear f
 by_cases h1:In x 1 2000
 ·have g:decide (In x 1 2000)=true:=decide_eq_true h1
  have a:=hI h1;clear h1
  by_cases h2:In y 1 500
  ·have i:decide (In y 1 500)=true:=decide_eq_true h2
   have b:=hI h2;clear h2;go_enter Tryz.func224,Tryz.ntmps224;go_wp2_with (first|(go_at_call 148;refine sC (zt _ _ _ _) ?_))
   go_ret;exact⟨by rw[d.out,decide_eq_true ⟨a.out,b.out⟩];rfl,rfl⟩
  ·have i:decide (In y 1 500)=false:=decide_eq_false h2
   have b:=hI h2;clear h2;go_enter Tryz.func224,Tryz.ntmps224;go_wp2_with (first|(go_at_call 148;refine sC (zt _ _ _ _) ?_))
   go_ret;exact⟨by rw[d.out,decide_eq_false (fun h=>b.out h.2)];rfl,rfl⟩
 ·have g:decide (In x 1 2000)=false:=decide_eq_false h1
  have a:=hI h1;clear h1;go_enter Tryz.func224,Tryz.ntmps224;go_wp2_with (first|(go_at_call 148;refine sC (zt _ _ _ _) ?_))
  go_ret;exact⟨by rw[d.out,decide_eq_false (fun h=>a.out h.1)];rfl,rfl⟩
theorem zaz (pe len hei cl:Int)(all:Bool)(be:Int)(w:World) :
  Calls Tryz.prog 158 #[.agg #[int i64 pe,int i64 len,int i64 hei,int i64 cl,.bool all,int i64 be]] w fun e w'=>qX (qI ⟨pe,len,hei,cl,all,be⟩) e/\Below w.heap.size w w':=by
 by_cases h1:In pe 1 20
 ·have o:decide (In pe 1 20)=true:=decide_eq_true h1
  have b:=hI h1;clear h1
  by_cases h2:len=0
  ·subst h2
   have l:Hid (¬ zbA 0 hei):=fun h=>by have:=h.1;unfold In at this;omega
   have m:decide (zbA 0 hei)=false:=decide_eq_false l.out
   by_cases h3:hei=0
   ·subst h3
    by_cases k0:cl=0
    ·subst k0
     cases all with
     | true =>
      go_enter Tryz.func158,Tryz.ntmps158;go_wp2_with (first|(go_at_call 148;refine sC (zt _ _ _ _) ?_)|(go_at_call 224;refine sC (Zc _ _ _) ?_))
      go_ret;exact⟨zl (fun h=>by rcases h.2.2 with h|h;cases h.2.1;have h9:In (0:Int) 1 3:=h.1;unfold In at h9;omega),zk bZ _⟩
     | false =>
      by_cases k1:be=0
      ·subst k1
       go_enter Tryz.func158,Tryz.ntmps158;go_wp2_with (first|(go_at_call 148;refine sC (zt _ _ _ _) ?_)|(go_at_call 224;refine sC (Zc _ _ _) ?_))
       go_ret;exact⟨zR ⟨b.out,.inl ⟨rfl,rfl⟩,.inl ⟨rfl,rfl,rfl⟩⟩,zk bZ _⟩
      ·have i:(be == 0)=false:=by simpa using k1
       have f:=hI k1;clear k1;go_enter Tryz.func158,Tryz.ntmps158;go_wp2_with (first|(go_at_call 148;refine sC (zt _ _ _ _) ?_)|(go_at_call 224;refine sC (Zc _ _ _) ?_))
       go_ret;exact⟨zl (fun h=>by rcases h.2.2 with h|h;exact f.out h.2.2;have h9:In (0:Int) 1 3:=h.1;unfold In at h9;omega),zk bZ _⟩
    ·have q:(cl == 0)=false:=by simpa using k0
     have d:=hI k0;clear k0
     by_cases k2:In cl 1 3
     ·have j:decide (In cl 1 3)=true:=decide_eq_true k2
      have a:=hI k2;clear k2
      cases all with
      | true =>
       by_cases k1:be=0
       ·subst k1
        go_enter Tryz.func158,Tryz.ntmps158;go_wp2_with (first|(go_at_call 148;refine sC (zt _ _ _ _) ?_)|(go_at_call 224;refine sC (Zc _ _ _) ?_))
        go_ret;exact⟨zR ⟨b.out,.inl ⟨rfl,rfl⟩,.inr ⟨a.out,.inl ⟨rfl,rfl⟩⟩⟩,zk bZ _⟩
       ·have i:(be == 0)=false:=by simpa using k1
        have f:=hI k1;clear k1;go_enter Tryz.func158,Tryz.ntmps158;go_wp2_with (first|(go_at_call 148;refine sC (zt _ _ _ _) ?_)|(go_at_call 224;refine sC (Zc _ _ _) ?_))
        go_ret;exact⟨zl (fun h=>by rcases h.2.2 with h|h;exact d.out h.1;rcases h.2 with h|h;exact f.out h.2;cases h.1),zk bZ _⟩
      | false =>
       by_cases k3:In be 1 4
       ·have k:decide (In be 1 4)=true:=decide_eq_true k3
        have g:=hI k3;clear k3;go_enter Tryz.func158,Tryz.ntmps158;go_wp2_with (first|(go_at_call 148;refine sC (zt _ _ _ _) ?_)|(go_at_call 224;refine sC (Zc _ _ _) ?_))
        go_ret;exact⟨zR ⟨b.out,.inl ⟨rfl,rfl⟩,.inr ⟨a.out,.inr ⟨rfl,g.out⟩⟩⟩,zk bZ _⟩
       ·have k:decide (In be 1 4)=false:=decide_eq_false k3
        have g:=hI k3;clear k3;go_enter Tryz.func158,Tryz.ntmps158;go_wp2_with (first|(go_at_call 148;refine sC (zt _ _ _ _) ?_)|(go_at_call 224;refine sC (Zc _ _ _) ?_))
        go_ret;exact⟨zl (fun h=>by rcases h.2.2 with h|h;exact d.out h.1;rcases h.2 with h|h;cases h.1;exact g.out h.2),zk bZ _⟩
     ·have j:decide (In cl 1 3)=false:=decide_eq_false k2
      have a:=hI k2;clear k2;go_enter Tryz.func158,Tryz.ntmps158;go_wp2_with (first|(go_at_call 148;refine sC (zt _ _ _ _) ?_)|(go_at_call 224;refine sC (Zc _ _ _) ?_))
      go_ret;exact⟨zl (fun h=>by rcases h.2.2 with h|h;exact d.out h.1;exact a.out h.1),zk bZ _⟩
   ·have p:(hei == 0)=false:=by simpa using h3
    have c:=hI h3;clear h3;go_enter Tryz.func158,Tryz.ntmps158;go_wp2_with (first|(go_at_call 148;refine sC (zt _ _ _ _) ?_)|(go_at_call 224;refine sC (Zc _ _ _) ?_))
    go_ret;exact⟨zl (fun h=>by rcases h.2.1 with h|h;exact c.out h.2;exact l.out h),zk bZ _⟩
  ·have p:(len == 0)=false:=by simpa using h2
   have n:=hI h2;clear h2
   by_cases h3:zbA len hei
   ·have m:decide (zbA len hei)=true:=decide_eq_true h3
    have c:=hI h3;clear h3
    by_cases k0:cl=0
    ·subst k0
     cases all with
     | true =>
      go_enter Tryz.func158,Tryz.ntmps158;go_wp2_with (first|(go_at_call 148;refine sC (zt _ _ _ _) ?_)|(go_at_call 224;refine sC (Zc _ _ _) ?_))
      go_ret;exact⟨zl (fun h=>by rcases h.2.2 with h|h;cases h.2.1;have h9:In (0:Int) 1 3:=h.1;unfold In at h9;omega),zk bZ _⟩
     | false =>
      by_cases k1:be=0
      ·subst k1
       go_enter Tryz.func158,Tryz.ntmps158;go_wp2_with (first|(go_at_call 148;refine sC (zt _ _ _ _) ?_)|(go_at_call 224;refine sC (Zc _ _ _) ?_))
       go_ret;exact⟨zR ⟨b.out,.inr c.out,.inl ⟨rfl,rfl,rfl⟩⟩,zk bZ _⟩
      ·have i:(be == 0)=false:=by simpa using k1
       have f:=hI k1;clear k1;go_enter Tryz.func158,Tryz.ntmps158;go_wp2_with (first|(go_at_call 148;refine sC (zt _ _ _ _) ?_)|(go_at_call 224;refine sC (Zc _ _ _) ?_))
       go_ret;exact⟨zl (fun h=>by rcases h.2.2 with h|h;exact f.out h.2.2;have h9:In (0:Int) 1 3:=h.1;unfold In at h9;omega),zk bZ _⟩
    ·have q:(cl == 0)=false:=by simpa using k0
     have d:=hI k0;clear k0
     by_cases k2:In cl 1 3
     ·have j:decide (In cl 1 3)=true:=decide_eq_true k2
      have a:=hI k2;clear k2
      cases all with
      | true =>
       by_cases k1:be=0
       ·subst k1
        go_enter Tryz.func158,Tryz.ntmps158;go_wp2_with (first|(go_at_call 148;refine sC (zt _ _ _ _) ?_)|(go_at_call 224;refine sC (Zc _ _ _) ?_))
        go_ret;exact⟨zR ⟨b.out,.inr c.out,.inr ⟨a.out,.inl ⟨rfl,rfl⟩⟩⟩,zk bZ _⟩
       ·have i:(be == 0)=false:=by simpa using k1
        have f:=hI k1;clear k1;go_enter Tryz.func158,Tryz.ntmps158;go_wp2_with (first|(go_at_call 148;refine sC (zt _ _ _ _) ?_)|(go_at_call 224;refine sC (Zc _ _ _) ?_))
        go_ret;exact⟨zl (fun h=>by rcases h.2.2 with h|h;exact d.out h.1;rcases h.2 with h|h;exact f.out h.2;cases h.1),zk bZ _⟩
      | false =>
       by_cases k3:In be 1 4
       ·have k:decide (In be 1 4)=true:=decide_eq_true k3
        have g:=hI k3;clear k3;go_enter Tryz.func158,Tryz.ntmps158;go_wp2_with (first|(go_at_call 148;refine sC (zt _ _ _ _) ?_)|(go_at_call 224;refine sC (Zc _ _ _) ?_))
        go_ret;exact⟨zR ⟨b.out,.inr c.out,.inr ⟨a.out,.inr ⟨rfl,g.out⟩⟩⟩,zk bZ _⟩
       ·have k:decide (In be 1 4)=false:=decide_eq_false k3
        have g:=hI k3;clear k3;go_enter Tryz.func158,Tryz.ntmps158;go_wp2_with (first|(go_at_call 148;refine sC (zt _ _ _ _) ?_)|(go_at_call 224;refine sC (Zc _ _ _) ?_))
        go_ret;exact⟨zl (fun h=>by rcases h.2.2 with h|h;exact d.out h.1;rcases h.2 with h|h;cases h.1;exact g.out h.2),zk bZ _⟩
     ·have j:decide (In cl 1 3)=false:=decide_eq_false k2
      have a:=hI k2;clear k2;go_enter Tryz.func158,Tryz.ntmps158;go_wp2_with (first|(go_at_call 148;refine sC (zt _ _ _ _) ?_)|(go_at_call 224;refine sC (Zc _ _ _) ?_))
      go_ret;exact⟨zl (fun h=>by rcases h.2.2 with h|h;exact d.out h.1;exact a.out h.1),zk bZ _⟩
   ·have m:decide (zbA len hei)=false:=decide_eq_false h3
    have c:=hI h3;clear h3;go_enter Tryz.func158,Tryz.ntmps158;go_wp2_with (first|(go_at_call 148;refine sC (zt _ _ _ _) ?_)|(go_at_call 224;refine sC (Zc _ _ _) ?_))
    go_ret;exact⟨zl (fun h=>by rcases h.2.1 with h|h;exact n.out h.1;exact c.out h),zk bZ _⟩
 ·have o:decide (In pe 1 20)=false:=decide_eq_false h1
  have b:=hI h1;clear h1;go_enter Tryz.func158,Tryz.ntmps158;go_wp2_with (first|(go_at_call 148;refine sC (zt _ _ _ _) ?_)|(go_at_call 224;refine sC (Zc _ _ _) ?_))
  go_ret;exact⟨zl (fun h=>b.out h.1),zk bZ _⟩
theorem zni (s:ByteArray)(w:World)(hs:s.size<=1000000000000000) :
  Calls Tryz.prog 156 #[.string s] w fun e w'=>qX (Zg s) e/\w'=w:=by
 by_cases h0:In (s.size:Int) 1 12
 ·have d:=hI h0
  have t:decide (In (s.size:Int) 1 12)=true:=decide_eq_true h0;have z:s.size<=12:=by have:=h0.2;omega
  clear h0;go_enter Tryz.func156,Tryz.ntmps156;go_wp2_with (first|(go_at_call 148;refine sC (zt _ _ _ _) ?_))
  go_loop [3,4] (fun i _=>∃ k:Nat,k<=s.size/\i=int i64 k/\∀ j,j<k->zcj (zed s j)) (fun i _=>s.size - (intOf i).toNat)
  case atStart=>exact⟨0,Nat.zero_le _,rfl,fun j x=>by omega⟩
  case round =>
   obtain⟨k,hk,rfl,a⟩:=hrel;have o:=hI a;clear a
   by_cases hlt:k<s.size
   ·have l:=zgk s k hlt
    obtain⟨y,m⟩:∃ y,y=zed s k:=⟨_,rfl⟩;rw[← m] at l;have p:=hI m;clear m;have c:zcj y->(∃ n,n<=s.size/\Value.int .i64 ((k:Int)+1)=Value.int .i64 (n:Int)/\∀ j,j<n->zcj (zed s j)):=fun g=>⟨k+1,by omega,by simp,fun j x=>by
     by_cases e:j=k
     ·subst e;rw[← p.out];exact g
     ·exact o.out j (by omega)⟩
    have b:=hI c;have f:Hid (¬ zcj y->¬ Zg s):=fun g h=>g (by rw[p.out];exact h.2.2 k hlt)
    clear c
    by_cases h1:97<=y
    ·have u:decide (97<=y)=true:=by simpa using h1
     by_cases h2:y<=122
     ·have v:decide (y<=122)=true:=by simpa using h2
      go_wp2;go_round
      case rel=>exact b.out (.inl ⟨h1,h2⟩)
      case measure=>simp[intOf];omega
     ·have v:decide (y<=122)=false:=by simpa using h2
      have q:decide (65<=y)=true:=by simp;omega
      have r:decide (y<=90)=false:=by simp;omega
      go_wp2;go_ret;exact⟨zl (f.out (by rintro(h|h) <;> omega)),rfl⟩
    ·have u:decide (97<=y)=false:=by simpa using h1
     by_cases h3:65<=y
     ·have q:decide (65<=y)=true:=by simpa using h3
      by_cases h4:y<=90
      ·have r:decide (y<=90)=true:=by simpa using h4
       go_wp2;go_round
       case rel=>exact b.out (.inr ⟨h3,h4⟩)
       case measure=>simp[intOf];omega
      ·have r:decide (y<=90)=false:=by simpa using h4
       go_wp2;go_ret;exact⟨zl (f.out (by rintro(h|h) <;> omega)),rfl⟩
     ·have q:decide (65<=y)=false:=by simpa using h3
      go_wp2;go_ret;exact⟨zl (f.out (by rintro(h|h) <;> omega)),rfl⟩
   ·obtain rfl:k=s.size:=by omega
    go_wp2;go_ret;exact⟨zR ⟨by have:=d.out.1;omega,by have:=d.out.2;omega,o.out⟩,rfl⟩
 ·have d:=hI h0
  have t:decide (In (s.size:Int) 1 12)=false:=decide_eq_false h0;clear h0;go_enter Tryz.func156,Tryz.ntmps156;go_wp2_with (first|(go_at_call 148;refine sC (zt _ _ _ _) ?_))
  go_ret;exact⟨zl (fun h=>d.out ⟨by have:=h.1;omega,by have:=h.2.1;omega⟩),rfl⟩
theorem qS (s:ByteArray)(w:World)(a:s.size<=1000000000000000) :
  Calls Tryz.prog 156 #[.string s] w fun e w'=>e=.returned (.bool (decide (Zg s)))/\w'=w:=by
 refine(zni s w a).mono ?_;rintro e w' ⟨⟨b',rfl,h⟩,rfl⟩;rw[bool_eq h (decide_eq_true_iff (p:=Zg s))];exact⟨rfl,rfl⟩
theorem zO (k:Int)(w:World):Calls Tryz.prog 162 #[int i64 k] w fun e w'=>e=.returned (.bool (decide (In k 4 8)))/\w'=w:=by
 go_enter Tryz.func162,Tryz.ntmps162;go_wp2_with (first|(go_at_call 148;refine sC (zt _ _ _ _) ?_))
 go_ret;exact⟨rfl,rfl⟩
theorem zV (k:Int)(w:World):Calls Tryz.prog 160 #[int i64 k] w fun e w'=>e=.returned (.bool (decide (zJ k)))/\w'=w:=by
 obtain⟨c,d⟩:∃ c,c=decide (zJ k):=⟨_,rfl⟩;rw[← d];have b:=hI d;clear d
 by_cases h1:k=1
 ·have a:Hid (c=true):=by rw[b.out];exact decide_eq_true (.inl h1)
  subst h1;go_enter Tryz.func160,Tryz.ntmps160;go_wp2;go_ret;exact⟨by rw[a.out];rfl,rfl⟩
 ·have e1:(k == 1)=false:=by simpa using h1
  by_cases h2:k=2
  ·have a:Hid (c=true):=by rw[b.out];exact decide_eq_true (.inr (.inl h2))
   subst h2;go_enter Tryz.func160,Tryz.ntmps160;go_wp2;go_ret;exact⟨by rw[a.out];rfl,rfl⟩
  ·have e2:(k == 2)=false:=by simpa using h2
   by_cases h3:k=3
   ·have a:Hid (c=true):=by rw[b.out];exact decide_eq_true (.inr (.inr (.inl h3)))
    subst h3;go_enter Tryz.func160,Tryz.ntmps160;go_wp2;go_ret;exact⟨by rw[a.out];rfl,rfl⟩
   ·have e3:(k == 3)=false:=by simpa using h3
    by_cases h5:k=5
    ·have a:Hid (c=true):=by rw[b.out];exact decide_eq_true (.inr (.inr (.inr h5)))
     subst h5;go_enter Tryz.func160,Tryz.ntmps160;go_wp2;go_ret;exact⟨by rw[a.out];rfl,rfl⟩
    ·have e5:(k == 5)=false:=by simpa using h5
     have a:Hid (c=false):=by rw[b.out];exact decide_eq_false (fun h=>by rcases h with h|h|h|h;exact h1 h;exact h2 h;exact h3 h;exact h5 h)
     clear h1 h2 h3 h5;go_enter Tryz.func160,Tryz.ntmps160;go_wp2;go_ret;exact⟨by rw[a.out];rfl,rfl⟩
def zW (S:Nat->Zj)(x:Int):Nat->Nat
 | 0=>0
 | n+1=>if zW S x n<n then zW S x n else if (S n).id=x then n else n+1
theorem zcm (S:Nat->Zj)(x:Int)(n:Nat):zW S x n<=n:=by
 induction n with
 | zero=>exact Nat.le_refl _
 | succ n ih=>unfold zW;split <;> (try split) <;> omega
theorem ziI (S:Nat->Zj)(x:Int)(n:Nat):∀ j,j<zW S x n->(S j).id≠x:=by
 induction n with
 | zero=>intro j a;unfold zW at a;omega
 | succ n ih =>
  intro j a;unfold zW at a;have hl:=zcm S x n
  split at a
  ·exact ih j a
  ·rename_i h
   split at a
   ·exact ih j (by omega)
   ·rename_i h2
    by_cases e:j=n
    ·subst e;exact h2
    ·exact ih j (by omega)
theorem zcn (S:Nat->Zj)(x:Int)(n:Nat)(h:zW S x n<n):(S (zW S x n)).id=x:=by
 induction n with
 | zero=>omega
 | succ n ih =>
  unfold zW at h ⊢
  split
  ·rename_i h1;exact ih h1
  ·rename_i h1
   rw[if_neg h1] at h
   split
   ·rename_i h2;exact h2
   ·rename_i h2;rw[if_neg h2] at h;omega
theorem zkg {S:Nat->Zj}{x:Int}{n r:Nat}(hr:r<n)(b:(S r).id=x)(a:∀ j,j<r->(S j).id≠x):zW S x n=r:=by
 have h1:=ziI S x n
 by_cases c:zW S x n<r
 ·exact absurd (zcn S x n (by omega)) (a _ c)
 ·by_cases c2:r<zW S x n
  ·exact absurd b (h1 r c2)
  ·omega
theorem zgD {S:Nat->Zj}{x:Int}{n:Nat}(a:∀ j,j<n->(S j).id≠x):zW S x n=n:=by
 have h1:=zcm S x n
 by_cases c:zW S x n<n
 ·exact absurd (zcn S x n c) (a _ c)
 ·omega
def zkh (N:Nat)(S:Nat->Zj)(G:Nat->Int)(i:Nat):Prop :=
 zW S (G i) N<N/\(0<i->(S (zW S (G (i - 1)) N)).dst=(S (zW S (G i) N)).fr/\(S (zW S (G (i - 1)) N)).arr<=(S (zW S (G i) N)).dep)
def zad (N:Nat)(S:Nat->Zj)(n:Nat)(G:Nat->Int):Prop:=1<=n/\n<=3/\∀ i,i<n->zkh N S G i
section
open Go.RowKit
def ql.p (b:ql):Qh:=⟨b.pe,b.len,b.hei,b.cl,b.all,b.be⟩
def zez (b:ql):Prop:=b.state=1∨b.state=2
instance (b:ql):Decidable (zez b):=by unfold zez;exact inferInstance
def HasLeg (b:ql)(x:Int):Prop:=∃ j,j<b.lgn/\b.lg j=x
def zaA (b:ql):Prop:=if b.state=1∨b.state=4 then In b.unt 0 10000 else b.unt=0
instance (b:ql):Decidable (zaA b):=by unfold zaA;exact inferInstance
def Zt (o:Off)(i:Nat):Prop :=
 (o.bk i).name=i+1/\In (o.bk i).who 1 9999/\Zg (o.bk i).own/\zad o.san o.sa (o.bk i).lgn (o.bk i).lg/\qI (o.bk i).p/\In (o.bk i).state 1 4/\In (o.bk i).price 0 1000000 /\
  (∀ j,j<i->(o.bk j).who≠(o.bk i).who)/\zaA (o.bk i)
def zeA (x:zY)(b:ql)(n:Nat):Prop:=∃ j,j<n/\(x.se j).who=b.who/\(x.se j).many=b.pe
def zeB (x:zY)(b:ql)(n:Nat):Prop:=∃ j,j<n/\(x.st j).who=b.who/\(x.st j).len=b.len/\(x.st j).hei=b.hei
def zmD (s:Zj)(b:ql)(r:qN):Prop:=r.who=b.who/\r.all=b.all/\s.ca.A r.cab.toNat=b.cl/\(b.all=true∨r.many=b.be)
def zdt (s:Zj)(x:zY)(b:ql)(n:Nat):Prop:=∃ j,j<n/\zmD s b (x.ro j)
def zbX (s:Zj)(x:zY)(b:ql):Prop:=zeA x b x.sen/\(b.len=0∨zeB x b x.stn)/\(b.cl=0∨zdt s x b x.ron)
open Classical in
/-- How many of the first n are so. -/
noncomputable def cnt (P:Nat->Prop):Nat->Nat
 | 0=>0
 | n+1=>cnt P n+(if P n then 1 else 0)
theorem Qy {P:Nat->Prop}{n:Nat}(h:P n):cnt P (n+1)=cnt P n+1:=by rw[cnt,if_pos h]
theorem zae {P:Nat->Prop}{n:Nat}(h:¬ P n):cnt P (n+1)=cnt P n:=by rw[cnt,if_neg h];rfl
theorem zhT (P:Nat->Prop)(n:Nat):cnt P n<=n:=by
 induction n with
 | zero=>exact Nat.le_refl _
 | succ n ih =>
  by_cases h:P n
  ·rw[Qy h];omega
  ·rw[zae h];omega
def qm (s:Zj)(x:zY):Prop:=DeckS s.la x.stn x.st/\Qr s.ca x.ron x.ro/\Qx s.most x.sen x.se
theorem zki {p:zH}{n:Nat}{S:Nat->qN}(h:Qr p n S):∀ j,j<n->0<=(S j).cab/\(S j).cab<p.n:=fun j a=>by
 have:=(h.2.2.1 j a).1;unfold OkR0 In at this
 omega
def On (o:Off)(k i:Nat):Prop:=zez (o.bk i)/\HasLeg (o.bk i) (o.sa k).id
def zaQ (o:Off)(k:Nat):Prop :=
 (∀ i,i<o.bkn->On o k i->zbX (o.sa k) (o.ld k) (o.bk i))/\(o.ld k).stn=cnt (fun i=>On o k i/\0<(o.bk i).len) o.bkn/\(o.ld k).ron=cnt (fun i=>On o k i/\0<(o.bk i).cl) o.bkn/\(o.ld k).sen=cnt (On o k) o.bkn
def Zk (o:Off):Prop :=
 QJ o.san o.sa/\o.ldn=o.san/\o.bkn<=30/\(∀ k,k<o.san->qm (o.sa k) (o.ld k))/\(∀ i,i<o.bkn->Zt o i)/\∀ k,k<o.san->zaQ o k
end
structure Wk where
 leg:Int
 res:Nat
 goes:Bool
 who:Int
 p:Qh
def wkC (k:Wk):List Value:=[int i64 k.leg,int i64 (k.res:Int),.bool k.goes,int i64 k.who,int i64 k.p.pe,int i64 k.p.len,int i64 k.p.hei,int i64 k.p.cl,.bool k.p.all,int i64 k.p.be]
def zgE (l:List Wk):List Value:=l.flatMap wkC
theorem zfm (l:List Wk)(k:Wk):zgE (l++[k])=zgE l++wkC k:=by simp[zgE]
def Zd (goes:Bool)(who:Int)(p:Qh)(leg:Int):Nat->List Wk
 | 0=>[]
 | j+1=>if zaI p.len p.cl j=true then Zd goes who p leg j++[⟨leg,j,goes,who,p⟩] else Zd goes who p leg j
def Zh (goes:Bool)(who:Int)(p:Qh)(F:Nat->Int):Nat->List Wk
 | 0=>[]
 | k+1=>Zh goes who p F k++Zd goes who p (F k) 3
theorem zco (goes:Bool)(who:Int)(p:Qh)(leg:Int):∀ j,(Zd goes who p leg j).length<=j
 | 0=>Nat.le_refl _
 | j+1=>by
  have ih:=zco goes who p leg j;unfold Zd
  split
  ·rw[List.length_append];simp;omega
  ·omega
theorem QD (goes:Bool)(who:Int)(p:Qh)(F:Nat->Int):∀ k,(Zh goes who p F k).length<=3*k
 | 0=>Nat.le_refl _
 | k+1=>by
  have ih:=QD goes who p F k;have h:=zco goes who p (F k) 3;unfold Zh;rw[List.length_append]
  omega
theorem zcp {goes:Bool}{who:Int}{p:Qh}{leg:Int}:∀ {j:Nat}{k:Wk},k ∈ Zd goes who p leg j->k.leg=leg/\k.res<j/\k.goes=goes/\k.who=who/\k.p=p/\zaI p.len p.cl k.res=true
 | 0,k,h=>by simp[Zd] at h
 | j+1,k,h=>by
  unfold Zd at h
  split at h
  ·rename_i hu
   rcases List.mem_append.1 h with h|h
   ·obtain⟨a,b,c⟩:=zcp h;exact⟨a,by omega,c⟩
   ·simp at h;subst h;exact⟨rfl,Nat.lt_succ_self _,rfl,rfl,rfl,hu⟩
  ·obtain⟨a,b,c⟩:=zcp h;exact⟨a,by omega,c⟩
theorem zbb {goes:Bool}{who:Int}{p:Qh}{F:Nat->Int}:∀ {n:Nat}{k:Wk},k ∈ Zh goes who p F n->(∃ i,i<n/\k.leg=F i)/\k.res<3/\k.goes=goes/\k.who=who/\k.p=p/\zaI p.len p.cl k.res=true
 | 0,k,h=>by simp[Zh] at h
 | n+1,k,h=>by
  unfold Zh at h
  rcases List.mem_append.1 h with h|h
  ·obtain⟨⟨i,hi,e⟩,c⟩:=zbb h;exact⟨⟨i,by omega,e⟩,c⟩
  ·obtain⟨a,c⟩:=zcp h;exact⟨⟨n,Nat.lt_succ_self _,a⟩,c⟩
theorem Tryz.infoWork:(Tryz.prog.info? 159).map (fun i=>(i.zero,i.size,i.bytes))=some (some (.agg #[int i64 0,int i64 0,.bool false,int i64 0,int i64 0,int i64 0,int i64 0,int i64 0,.bool false,int i64 0]),10,80):=by kernel_rfl
def Qj (w:World)(base:Nat)(v:Value)(l:List Wk):Prop:=w.ownsRow base 159 10 v l.length (zgE l)
theorem Qj.nil (w:World)(base:Nat):Qj w base (.slice none 0 0) []:=World.ownsRow_nil _ _ _ _
def Qt (k:Int):Prop:=k=5∨k=6∨k=8
instance (k:Int):Decidable (Qt k):=by unfold Qt;exact inferInstance
def qk (x:Off)(a:Int)(y:OpD)(m:Nat):List Wk :=
 (if Qt y.kind then Zh true (x.bk m).who ⟨(x.bk m).pe,(x.bk m).len,(x.bk m).hei,(x.bk m).cl,(x.bk m).all,(x.bk m).be⟩ (x.bk m).lg (x.bk m).lgn else [])++(if zJ y.kind then Zh false a ⟨y.pe,y.len,y.hei,y.cl,y.all,y.be⟩ y.lg y.lgn else [])
theorem zlR (a0 Z X K:Option Addr)(N M R a3 a2 a1 Y m:Nat)(x:Off)(y:OpD)(c:Int)(w:World)(hR:R<=1048576)(g0:Z2 R x.bk 1048576)(hl:y.lgn<=1048576)(f4:qO w X R x.bk)(f6:zT w K y.lgn y.lg)(hm:Qt y.kind->y.name=(m:Int)+1/\m<R) :
  Calls Tryz.prog 91 #[.agg #[.slice a0 N a3,.slice Z M a2,.slice X R a1],int i64 c,.agg #[int i64 y.kind,.string y.own,int i64 y.name,.slice K y.lgn Y,int i64 y.pe,int i64 y.len,int i64 y.hei,int i64 y.cl,.bool y.all,int i64 y.be,int i64 y.unt,int i64 y.now]] w fun e w'=>∃ v,e=.returned v/\Qj w' w.heap.size v (qk x c y m)/\Below w.heap.size w w':=by
 obtain⟨k0,ki,e7,e8,e9⟩:=info_parts Tryz.infoWork;have g2:=hI f4;have g4:=hI g0;have f3:=hI f6;clear f4 g0 f6;have l:Below w.heap.size w ((w.alloc (.cells #[.slice a0 N a3,.slice Z M a2,.slice X R a1] 38)).alloc (.cells #[int i64 y.kind,.string y.own,int i64 y.name,.slice K y.lgn Y,int i64 y.pe,int i64 y.len,int i64 y.hei,int i64 y.cl,.bool y.all,int i64 y.be,int i64 y.unt,int i64 y.now] 47)):=zk (zk bZ _) _;have bF:((w.alloc (.cells #[.slice a0 N a3,.slice Z M a2,.slice X R a1] 38)).alloc (.cells #[int i64 y.kind,.string y.own,int i64 y.name,.slice K y.lgn Y,int i64 y.pe,int i64 y.len,int i64 y.hei,int i64 y.cl,.bool y.all,int i64 y.be,int i64 y.unt,int i64 y.now] 47)).heap[w.heap.size]?=some (.cells #[.slice a0 N a3,.slice Z M a2,.slice X R a1] 38 (0,0)):=zd (heap_alloc_new w _) _;have bO:((w.alloc (.cells #[.slice a0 N a3,.slice Z M a2,.slice X R a1] 38)).alloc (.cells #[int i64 y.kind,.string y.own,int i64 y.name,.slice K y.lgn Y,int i64 y.pe,int i64 y.len,int i64 y.hei,int i64 y.cl,.bool y.all,int i64 y.be,int i64 y.unt,int i64 y.now] 47)).heap[w.heap.size+1]?=some (.cells #[int i64 y.kind,.string y.own,int i64 y.name,.slice K y.lgn Y,int i64 y.pe,int i64 y.len,int i64 y.hei,int i64 y.cl,.bool y.all,int i64 y.be,int i64 y.unt,int i64 y.now] 47 (0,0)):=by simpa using heap_alloc_new (w.alloc (.cells #[.slice a0 N a3,.slice Z M a2,.slice X R a1] 38)) _
 obtain⟨a,e4⟩:∃ a:Qh,a=⟨y.pe,y.len,y.hei,y.cl,y.all,y.be⟩:=⟨_,rfl⟩;have d7:=hI e4
 by_cases hF:Qt y.kind
 ·obtain⟨f7,e3⟩:=hm hF
  obtain⟨Cc,f9,f5⟩:=g2.out;obtain⟨gb,off,d9,F⟩:=f9 m e3;have f0:=hI d9;clear d9;obtain⟨b5,b4,e2,g1,s1⟩:=f5 m e3;have e5:=g4.out m e3;obtain⟨b,d1⟩:∃ b,b=x.bk m:=⟨_,rfl⟩;rw[← d1] at e2 g1 s1 e5;obtain⟨d,d8⟩:∃ d:Qh,d=⟨b.pe,b.len,b.hei,b.cl,b.all,b.be⟩:=⟨_,rfl⟩;have b9:Hid ((zJ y.kind->qk x c y m=Zh true b.who d b.lg b.lgn++Zh false c a y.lg y.lgn)/\(¬ zJ y.kind->qk x c y m=Zh true b.who d b.lg b.lgn)):=by
   constructor
   ·intro h;unfold qk;rw[if_pos hF,if_pos h,d8,d1,d7.out]
   ·intro h;unfold qk;rw[if_pos hF,if_neg h,d8,d1,List.append_nil]
  have h4:b.lgn<=1048576:=e5.2;have e0:Hid ((Zh true b.who d b.lg b.lgn).length<=3145728):=by have h:=QD true b.who d b.lg b.lgn;show _<=3145728;omega
  rw[e2] at F;have B:=World.block_lt_of_cell? w _ (F 0 (by decide))
  have f1:=hI g1;have h0:=hI d1;have hk:(y.kind == 5)=true∨((y.kind == 5)=false/\(y.kind == 6)=true)∨((y.kind == 5)=false/\(y.kind == 6)=false/\(y.kind == 8)=true):=by
   unfold Qt at hF
   rcases hF with h|h|h <;> rw[h] <;> decide
  rw[f7] at bO l bF ⊢;go_enter Tryz.func91,Tryz.ntmps91;go_upto_region 2 with fail;generalize (w.alloc (.cells #[.slice a0 N a3,.slice Z M a2,.slice X R a1] 38)).alloc (.cells #[int i64 y.kind,.string y.own,int i64 ((m:Int)+1),.slice K y.lgn Y,int i64 y.pe,int i64 y.len,int i64 y.hei,int i64 y.cl,.bool y.all,int i64 y.be,int i64 y.unt,int i64 y.now] 47)=V at l bF bO ⊢;have f2:=za bF 2 _ rfl;rw[f0.out] at f2;have o0:=za bO 0 _ rfl;have o2:=za bO 2 _ rfl;have c0:V.cell? ⟨gb,off+m*13,none⟩=some (int i64 b.name):=(l.cell (p:=⟨gb,off+m*13,none⟩) B).trans (F 0 (by decide))
  have c1:V.cell? ⟨gb,off+m*13+1,none⟩=some (int i64 b.who):=(l.cell (p:=⟨gb,off+m*13+1,none⟩) B).trans (F 1 (by decide))
  have c2:V.cell? ⟨gb,off+m*13+2,none⟩=some (.string b.own):=(l.cell (p:=⟨gb,off+m*13+2,none⟩) B).trans (F 2 (by decide))
  have c3:V.cell? ⟨gb,off+m*13+3,none⟩=some (.slice b5 b.lgn b4):=(l.cell (p:=⟨gb,off+m*13+3,none⟩) B).trans (F 3 (by decide))
  have c4:V.cell? ⟨gb,off+m*13+4,none⟩=some (int i64 b.pe):=(l.cell (p:=⟨gb,off+m*13+4,none⟩) B).trans (F 4 (by decide))
  have c5:V.cell? ⟨gb,off+m*13+5,none⟩=some (int i64 b.len):=(l.cell (p:=⟨gb,off+m*13+5,none⟩) B).trans (F 5 (by decide))
  have c6:V.cell? ⟨gb,off+m*13+6,none⟩=some (int i64 b.hei):=(l.cell (p:=⟨gb,off+m*13+6,none⟩) B).trans (F 6 (by decide))
  have c7:V.cell? ⟨gb,off+m*13+7,none⟩=some (int i64 b.cl):=(l.cell (p:=⟨gb,off+m*13+7,none⟩) B).trans (F 7 (by decide))
  have c8:V.cell? ⟨gb,off+m*13+8,none⟩=some (.bool b.all):=(l.cell (p:=⟨gb,off+m*13+8,none⟩) B).trans (F 8 (by decide))
  have c9:V.cell? ⟨gb,off+m*13+9,none⟩=some (int i64 b.be):=(l.cell (p:=⟨gb,off+m*13+9,none⟩) B).trans (F 9 (by decide))
  have g5:V.cell? ⟨gb,off+m*13+10,none⟩=some (int i64 b.state):=(l.cell (p:=⟨gb,off+m*13+10,none⟩) B).trans (F 10 (by decide))
  have g6:V.cell? ⟨gb,off+m*13+11,none⟩=some (int i64 b.unt):=(l.cell (p:=⟨gb,off+m*13+11,none⟩) B).trans (F 11 (by decide))
  have g7:V.cell? ⟨gb,off+m*13+12,none⟩=some (int i64 b.price):=(l.cell (p:=⟨gb,off+m*13+12,none⟩) B).trans (F 12 (by decide))
  have i0:(0:Int)<=(m:Int):=by omega
  have i1:(m:Int)<(R:Int):=by omega
  have g8:IntKind.i64.wrap ((m:Int)+1 - 1)=(m:Int):=by rw[IntKind.wrap_i64];omega
  have bX:=heap_alloc_new V (.cells #[int i64 b.name,int i64 b.who,.string b.own,.slice b5 b.lgn b4,int i64 b.pe,int i64 b.len,int i64 b.hei,int i64 b.cl,.bool b.all,int i64 b.be,int i64 b.state,int i64 b.unt,int i64 b.price] 150);have pX:Below V.heap.size V (V.alloc (.cells #[int i64 b.name,int i64 b.who,.string b.own,.slice b5 b.lgn b4,int i64 b.pe,int i64 b.len,int i64 b.hei,int i64 b.cl,.bool b.all,int i64 b.be,int i64 b.state,int i64 b.unt,int i64 b.price] 150)):=zk bZ _;clear F e2 g1 s1 e5 f9 f5 d1;go_cut [27] (fun v wx=>v=.bool true/\wx=V)
  case first =>
   rcases hk with h|⟨h,h6⟩|⟨h,h6,h8⟩
   all_goals
    go_wp2;go_meet;exact⟨rfl,rfl⟩
  case rest =>
  obtain⟨rfl,e6⟩:=hcut;have e6:=e6.symm;subst e6;clear hk o0;have g3:=hI bO;go_upto_region 4 with fail;have BO:Hid ((V.alloc (.cells #[int i64 b.name,int i64 b.who,.string b.own,.slice b5 b.lgn b4,int i64 b.pe,int i64 b.len,int i64 b.hei,int i64 b.cl,.bool b.all,int i64 b.be,int i64 b.state,int i64 b.unt,int i64 b.price] 150)).heap[w.heap.size+1]?=some (.cells #[int i64 y.kind,.string y.own,int i64 y.name,.slice K y.lgn Y,int i64 a.pe,int i64 a.len,int i64 a.hei,int i64 a.cl,.bool a.all,int i64 a.be,int i64 y.unt,int i64 y.now] 47 (0,0))):=by rw[d7.out,f7];exact zd bO _
  have BX:Hid ((V.alloc (.cells #[int i64 b.name,int i64 b.who,.string b.own,.slice b5 b.lgn b4,int i64 b.pe,int i64 b.len,int i64 b.hei,int i64 b.cl,.bool b.all,int i64 b.be,int i64 b.state,int i64 b.unt,int i64 b.price] 150)).heap[V.heap.size]?=some (.cells #[int i64 b.name,int i64 b.who,.string b.own,.slice b5 b.lgn b4,int i64 d.pe,int i64 d.len,int i64 d.hei,int i64 d.cl,.bool d.all,int i64 d.be,int i64 b.state,int i64 b.unt,int i64 b.price] 150 (0,0))):=by rw[d8];exact bX
  have g:=hI (ze l pX);generalize V.heap.size=xb at BX bX ⊢;generalize V.alloc (.cells #[int i64 b.name,int i64 b.who,.string b.own,.slice b5 b.lgn b4,int i64 b.pe,int i64 b.len,int i64 b.hei,int i64 b.cl,.bool b.all,int i64 b.be,int i64 b.state,int i64 b.unt,int i64 b.price] 150)=W at bX pX BO BX g ⊢;clear c0 c1 c2 c3 c4 c5 c6 c7 c8 c9 g5 g6 g7 f2 o2 bO bF l pX g3 i0 i1 g8;have x3:=za bX 3 _ rfl;have b8:=hI (f1.out.below g.out);have e1:=hI (f3.out.below g.out);have C:Hid (Qj W W.heap.size (.slice none 0 0) []):=Qj.nil _ _;have a5:Hid (Below W.heap.size W W):=bZ;have d0:([]:List Wk).length<=3145728:=Nat.zero_le _;have a4:W.heap.size<=W.heap.size:=Nat.le_refl _;clear bX e4 d8;go_wp2;clear x3;go_loopw [7,10,11,38] (fun v _ _ i wr=>∃ k:Nat,k<=b.lgn/\i=int i64 k/\Hid (Qj wr W.heap.size v ([]++Zh true b.who d b.lg k))/\Hid (Below W.heap.size W wr)) (fun _ _ _ i _=>b.lgn - (intOf i).toNat)
  case atStart=>exact⟨0,Nat.zero_le _,rfl,(by show Qj _ _ _ ([]++[]);rw[List.append_nil];exact C.out),a5.out⟩
  case round =>
   clear C a5;obtain⟨k,hk,rfl,E,n⟩:=hrel
   by_cases hlt:k<b.lgn
   ·obtain⟨gb,go,d2,S⟩:=b8.out k hlt
    subst d2;have F:wr.cell? ⟨gb,go+k,none⟩=some (int i64 (b.lg k)):=(n.out.cell (p:=⟨gb,go+k,none⟩) (World.block_lt_of_cell? W _ S)).trans S;obtain⟨leg,o⟩:∃ leg,leg=b.lg k:=⟨_,rfl⟩;rw[← o] at F;have a6:=hI o;have d4:([]++Zh true b.who d b.lg k).length<=3145728+3*k:=by have h1:=QD true b.who d b.lg k;have h2:=d0;rw[List.length_append];omega
    obtain⟨P,hP⟩:∃ P,P=[]++Zh true b.who d b.lg k:=⟨_,rfl⟩;rw[← hP] at d4;have HP:=hI hP;have a8:Hid (Qj wr W.heap.size u7 P):=by rw[hP];exact E.out
    clear o hP E S;go_wp2;clear F;obtain⟨wo,d6⟩:∃ z,z=wr:=⟨_,rfl⟩;subst d6;go_loopw [7,11] (fun v r wr=>∃ j:Nat,j<=3/\r=int i64 j/\Hid (Qj wr W.heap.size v (P++Zd true b.who d leg j))/\Hid (Below W.heap.size W wr)) (fun _ r _=>3 - (intOf r).toNat)
    case atStart=>exact⟨0,Nat.zero_le _,rfl,(by show Qj _ _ _ (P++[]);rw[List.append_nil];exact a8.out),n.out⟩
    case round =>
     clear a8 n;obtain⟨j,hj,rfl,A,s⟩:=hrel
     by_cases hj3:j<3
     ·have f:=zb BX.out s.out
      have y1:=za f 1 _ rfl;have y4:=za f 4 _ rfl;have y5:=za f 5 _ rfl;have y6:=za f 6 _ rfl;have y7:=za f 7 _ rfl;have y8:=za f 8 _ rfl;have y9:=za f 9 _ rfl;have d3:=zco true b.who d leg j;obtain⟨Q,hQ⟩:∃ Q,Q=P++Zd true b.who d leg j:=⟨_,rfl⟩;have f8:Q.length<=3145731+3*k:=by rw[hQ,List.length_append];omega
      rw[← hQ] at A;have HQ:=hI hQ;clear hQ d3;have cu:=zfk d.pe d.len d.hei d.cl d.be d.all j wr hj3;obtain⟨ub,U⟩:∃ ub,ub=zaI d.len d.cl j:=⟨_,rfl⟩;rw[← U] at cu;have a9:=hI U.symm;clear U;go_wp2_with fail;refine cu.mono ?_;clear cu;rintro e D ⟨rfl,O⟩;have t:=hI (zo O A.out);have H:=hI (ze s.out O);clear A s O y1 y4 y5 y6 y7 y8 y9 f
      cases ub with
      | false =>
       have HF:Hid (Qj D W.heap.size u7 (P++Zd true b.who d leg (j+1))):=by
        have e:Zd true b.who d leg (j+1)=Zd true b.who d leg j:=by rw[Zd,if_neg (by rw[a9.out];decide)]
        rw[e,← HQ.out];exact t.out
       go_wp2;go_roundw
       case rel=>exact⟨j+1,by omega,by go_num,HF.out,H.out⟩
       case measure=>simp[intOf];omega
      | true =>
       have f:=zb BX.out H.out;have y1:=za f 1 _ rfl;have y4:=za f 4 _ rfl;have y5:=za f 5 _ rfl;have y6:=za f 6 _ rfl;have y7:=za f 7 _ rfl;have y8:=za f 8 _ rfl;have y9:=za f 9 _ rfl;obtain⟨qa,qc,T,_⟩:=zp t.out;have T:u7=.slice qa Q.length qc:=T;subst T;have I:Hid (Qj (D.alloc (.cells #[int i64 leg,int i64 (j:Int),.bool true,int i64 b.who,int i64 d.pe,int i64 d.len,int i64 d.hei,int i64 d.cl,.bool d.all,int i64 d.be] 159)) W.heap.size (.slice qa Q.length qc) Q):=zo (zk bZ _) t.out;have q:Hid (Below W.heap.size W (D.alloc (.cells #[int i64 leg,int i64 (j:Int),.bool true,int i64 b.who,int i64 d.pe,int i64 d.len,int i64 d.hei,int i64 d.cl,.bool d.all,int i64 d.be] 159))):=zk H.out _;have d5:W.heap.size<=(D.alloc (.cells #[int i64 leg,int i64 (j:Int),.bool true,int i64 b.who,int i64 d.pe,int i64 d.len,int i64 d.hei,int i64 d.cl,.bool d.all,int i64 d.be] 159)).heap.size:=Nat.le_trans a4 q.out.size;have a7:Hid (∀ m u,([int i64 leg,int i64 (j:Int),.bool true,int i64 b.who,int i64 d.pe,int i64 d.len,int i64 d.hei,int i64 d.cl,.bool d.all,int i64 d.be]:List Value)[m]?=some u->(D.alloc (.cells #[int i64 leg,int i64 (j:Int),.bool true,int i64 b.who,int i64 d.pe,int i64 d.len,int i64 d.hei,int i64 d.cl,.bool d.all,int i64 d.be] 159)).cell? ((⟨D.heap.size,0,none⟩:Addr).add m)=some u):=World.news_of_block (heap_alloc_new D _);clear t f;go_wp2_with (first|(at_builtin;refine zv _ (by rfl) (.tmp 50) (.tmp 58) 156 (by rfl) W.heap.size 159 k0 (.agg #[int i64 0,int i64 0,.bool false,int i64 0,int i64 0,int i64 0,int i64 0,int i64 0,.bool false,int i64 0]) 10 80 Tryz.underlying156 ki e7 e8 e9 rfl (by decide) _ Q.length (zgE Q) (by rfl) I.out (some ⟨D.heap.size,0,none⟩) 1 1 [int i64 leg,int i64 (j:Int),.bool true,int i64 b.who,int i64 d.pe,int i64 d.len,int i64 d.hei,int i64 d.cl,.bool d.all,int i64 d.be] (by rfl) (fun h=>(by cases h)) (by rfl) (fun ad e=>by cases e;exact a7.out) (by intro u hu;simp at hu;rcases hu with rfl|rfl|rfl|rfl|rfl|rfl|rfl|rfl|rfl|rfl <;> rfl) (by unfold maxLen;omega) (by omega) d5 ?_;intro v9 w9 b1 b0))
       have HF:Hid (Qj w9 W.heap.size v9 (P++Zd true b.who d leg (j+1))):=by
        have e:P++Zd true b.who d leg (j+1)=Q++[⟨leg,j,true,b.who,d⟩]:=by rw[HQ.out,List.append_assoc];congr 1;rw[Zd,if_pos a9.out]
        show w9.ownsRow _ _ 10 v9 _ _
        rw[e,zfm,List.length_append];exact b1
       have b6:Hid (Below W.heap.size W w9):=q.out.grown b0 q.out.size (fun b hb=>by have:=(I.out.lt b hb).1;omega)
       clear y1 y4 y5 y6 y7 y8 y9 b1 b0 I q a7;go_wp2;go_roundw
       case rel=>exact⟨j+1,by omega,by go_num,HF.out,b6.out⟩
       case measure=>simp[intOf];omega
     ·obtain rfl:j=3:=by omega
      have HF:Hid (Qj wr W.heap.size u7 ([]++Zh true b.who d b.lg (k+1))):=by
       have e:[]++Zh true b.who d b.lg (k+1)=P++Zd true b.who d leg 3:=by rw[HP.out,a6.out,List.append_assoc];rfl
       rw[e];exact A.out
      go_wp2;go_roundw
      case rel=>exact⟨k+1,by omega,by go_num,HF.out,s.out⟩
      case measure=>simp[intOf];omega
   ·obtain rfl:k=b.lgn:=by omega
    have J:=hI E;have G:=hI n;clear E n hlt hk
    by_cases hL:zJ y.kind
    ·have dL:decide (zJ y.kind)=true:=decide_eq_true hL
     have b7:Hid (∀ (z:World) (v:Value),Qj z W.heap.size v ((Zh true b.who d b.lg b.lgn)++Zh false c a y.lg y.lgn)->Below W.heap.size W z->Qj z w.heap.size v (qk x c y m)):=fun z v h _=>by
      have e:qk x c y m=(Zh true b.who d b.lg b.lgn)++Zh false c a y.lg y.lgn:=b9.out.1 hL;rw[e];exact zu h g.out.size
     have L:=zb BO.out G.out;have o0:=za L 0 _ rfl;have o3:=za L 3 _ rfl;go_wp2_with (first|(go_at_call 160;refine sC (zV _ _) ?_))
     clear o0 o3 L hL dL;have BX:Hid _:=BO;have b8:=hI e1;have C:=hI J;have a5:=hI G;have d0:((Zh true b.who d b.lg b.lgn)).length<=3145728:=e0.out;clear J G;go_loopw [7,13,14,67] (fun v _ _ i wr=>∃ k:Nat,k<=y.lgn/\i=int i64 k/\Hid (Qj wr W.heap.size v ((Zh true b.who d b.lg b.lgn)++Zh false c a y.lg k))/\Hid (Below W.heap.size W wr)) (fun _ _ _ i _=>y.lgn - (intOf i).toNat)
     case atStart=>exact⟨0,Nat.zero_le _,rfl,(by show Qj _ _ _ ((Zh true b.who d b.lg b.lgn)++[]);rw[List.append_nil];exact C.out),a5.out⟩
     case round =>
      clear C a5;obtain⟨k,hk,rfl,E,n⟩:=hrel
      by_cases hlt:k<y.lgn
      ·obtain⟨gb,go,d2,S⟩:=b8.out k hlt
       subst d2;have F:wr.cell? ⟨gb,go+k,none⟩=some (int i64 (y.lg k)):=(n.out.cell (p:=⟨gb,go+k,none⟩) (World.block_lt_of_cell? W _ S)).trans S;obtain⟨leg,o⟩:∃ leg,leg=y.lg k:=⟨_,rfl⟩;rw[← o] at F;have a6:=hI o;have d4:((Zh true b.who d b.lg b.lgn)++Zh false c a y.lg k).length<=3145728+3*k:=by have h1:=QD false c a y.lg k;have h2:=d0;rw[List.length_append];omega
       obtain⟨P,hP⟩:∃ P,P=(Zh true b.who d b.lg b.lgn)++Zh false c a y.lg k:=⟨_,rfl⟩;rw[← hP] at d4;have HP:=hI hP;have a8:Hid (Qj wr W.heap.size u7 P):=by rw[hP];exact E.out
       clear o hP E S;go_wp2;clear F;obtain⟨wo,d6⟩:∃ z,z=wr:=⟨_,rfl⟩;subst d6;go_loopw [7,14] (fun v r wr=>∃ j:Nat,j<=3/\r=int i64 j/\Hid (Qj wr W.heap.size v (P++Zd false c a leg j))/\Hid (Below W.heap.size W wr)) (fun _ r _=>3 - (intOf r).toNat)
       case atStart=>exact⟨0,Nat.zero_le _,rfl,(by show Qj _ _ _ (P++[]);rw[List.append_nil];exact a8.out),n.out⟩
       case round =>
        clear a8 n;obtain⟨j,hj,rfl,A,s⟩:=hrel
        by_cases hj3:j<3
        ·have f:=zb BX.out s.out
         have y4:=za f 4 _ rfl;have y5:=za f 5 _ rfl;have y6:=za f 6 _ rfl;have y7:=za f 7 _ rfl;have y8:=za f 8 _ rfl;have y9:=za f 9 _ rfl;have d3:=zco false c a leg j;obtain⟨Q,hQ⟩:∃ Q,Q=P++Zd false c a leg j:=⟨_,rfl⟩;have f8:Q.length<=3145731+3*k:=by rw[hQ,List.length_append];omega
         rw[← hQ] at A;have HQ:=hI hQ;clear hQ d3;have cu:=zfk a.pe a.len a.hei a.cl a.be a.all j wr hj3;obtain⟨ub,U⟩:∃ ub,ub=zaI a.len a.cl j:=⟨_,rfl⟩;rw[← U] at cu;have a9:=hI U.symm;clear U;go_wp2_with fail;refine cu.mono ?_;clear cu;rintro e D ⟨rfl,O⟩;have t:=hI (zo O A.out);have H:=hI (ze s.out O);clear A s O y4 y5 y6 y7 y8 y9 f
         cases ub with
         | false =>
          have HF:Hid (Qj D W.heap.size u7 (P++Zd false c a leg (j+1))):=by
           have e:Zd false c a leg (j+1)=Zd false c a leg j:=by rw[Zd,if_neg (by rw[a9.out];decide)]
           rw[e,← HQ.out];exact t.out
          go_wp2;go_roundw
          case rel=>exact⟨j+1,by omega,by go_num,HF.out,H.out⟩
          case measure=>simp[intOf];omega
         | true =>
          have f:=zb BX.out H.out;have y4:=za f 4 _ rfl;have y5:=za f 5 _ rfl;have y6:=za f 6 _ rfl;have y7:=za f 7 _ rfl;have y8:=za f 8 _ rfl;have y9:=za f 9 _ rfl;obtain⟨qa,qc,T,_⟩:=zp t.out;have T:u7=.slice qa Q.length qc:=T;subst T;have I:Hid (Qj (D.alloc (.cells #[int i64 leg,int i64 (j:Int),.bool false,int i64 c,int i64 a.pe,int i64 a.len,int i64 a.hei,int i64 a.cl,.bool a.all,int i64 a.be] 159)) W.heap.size (.slice qa Q.length qc) Q):=zo (zk bZ _) t.out;have q:Hid (Below W.heap.size W (D.alloc (.cells #[int i64 leg,int i64 (j:Int),.bool false,int i64 c,int i64 a.pe,int i64 a.len,int i64 a.hei,int i64 a.cl,.bool a.all,int i64 a.be] 159))):=zk H.out _;have d5:W.heap.size<=(D.alloc (.cells #[int i64 leg,int i64 (j:Int),.bool false,int i64 c,int i64 a.pe,int i64 a.len,int i64 a.hei,int i64 a.cl,.bool a.all,int i64 a.be] 159)).heap.size:=Nat.le_trans a4 q.out.size;have a7:Hid (∀ m u,([int i64 leg,int i64 (j:Int),.bool false,int i64 c,int i64 a.pe,int i64 a.len,int i64 a.hei,int i64 a.cl,.bool a.all,int i64 a.be]:List Value)[m]?=some u->(D.alloc (.cells #[int i64 leg,int i64 (j:Int),.bool false,int i64 c,int i64 a.pe,int i64 a.len,int i64 a.hei,int i64 a.cl,.bool a.all,int i64 a.be] 159)).cell? ((⟨D.heap.size,0,none⟩:Addr).add m)=some u):=World.news_of_block (heap_alloc_new D _);clear t f;go_wp2_with (first|(at_builtin;refine zv _ (by rfl) (.tmp 79) (.tmp 86) 156 (by rfl) W.heap.size 159 k0 (.agg #[int i64 0,int i64 0,.bool false,int i64 0,int i64 0,int i64 0,int i64 0,int i64 0,.bool false,int i64 0]) 10 80 Tryz.underlying156 ki e7 e8 e9 rfl (by decide) _ Q.length (zgE Q) (by rfl) I.out (some ⟨D.heap.size,0,none⟩) 1 1 [int i64 leg,int i64 (j:Int),.bool false,int i64 c,int i64 a.pe,int i64 a.len,int i64 a.hei,int i64 a.cl,.bool a.all,int i64 a.be] (by rfl) (fun h=>(by cases h)) (by rfl) (fun ad e=>by cases e;exact a7.out) (by intro u hu;simp at hu;rcases hu with rfl|rfl|rfl|rfl|rfl|rfl|rfl|rfl|rfl|rfl <;> rfl) (by unfold maxLen;omega) (by omega) d5 ?_;intro v9 w9 b1 b0))
          have HF:Hid (Qj w9 W.heap.size v9 (P++Zd false c a leg (j+1))):=by
           have e:P++Zd false c a leg (j+1)=Q++[⟨leg,j,false,c,a⟩]:=by rw[HQ.out,List.append_assoc];congr 1;rw[Zd,if_pos a9.out]
           show w9.ownsRow _ _ 10 v9 _ _
           rw[e,zfm,List.length_append];exact b1
          have b6:Hid (Below W.heap.size W w9):=q.out.grown b0 q.out.size (fun b hb=>by have:=(I.out.lt b hb).1;omega)
          clear y4 y5 y6 y7 y8 y9 b1 b0 I q a7;go_wp2;go_roundw
          case rel=>exact⟨j+1,by omega,by go_num,HF.out,b6.out⟩
          case measure=>simp[intOf];omega
        ·obtain rfl:j=3:=by omega
         have HF:Hid (Qj wr W.heap.size u7 ((Zh true b.who d b.lg b.lgn)++Zh false c a y.lg (k+1))):=by
          have e:(Zh true b.who d b.lg b.lgn)++Zh false c a y.lg (k+1)=P++Zd false c a leg 3:=by rw[HP.out,a6.out,List.append_assoc];rfl
          rw[e];exact A.out
         go_wp2;go_roundw
         case rel=>exact⟨k+1,by omega,by go_num,HF.out,s.out⟩
         case measure=>simp[intOf];omega
      ·obtain rfl:k=y.lgn:=by omega
       have b3:Hid (Qj _ w.heap.size _ (qk x c y m)):=b7.out _ _ E.out n.out;have b2:=hI (ze g.out n.out);go_wp2;go_ret;exact⟨_,rfl,b3.out,b2.out⟩
    ·have dL:decide (zJ y.kind)=false:=decide_eq_false hL
     have b3:Hid (Qj wr w.heap.size u7 (qk x c y m)):=by
      have e:qk x c y m=(Zh true b.who d b.lg b.lgn):=b9.out.2 hL;rw[e];exact zu J.out g.out.size
     have b2:=hI (ze g.out G.out);have L:=zb BO.out G.out;have o0:=za L 0 _ rfl;go_wp2_with (first|(go_at_call 160;refine sC (zV _ _) ?_))
     go_ret;exact⟨_,rfl,b3.out,b2.out⟩
 ·have b9:Hid ((zJ y.kind->qk x c y m=([]:List Wk)++Zh false c a y.lg y.lgn)/\(¬ zJ y.kind->qk x c y m=([]:List Wk))):=by
   constructor
   ·intro h;unfold qk;rw[if_neg hF,if_pos h,d7.out]
   ·intro h;unfold qk;rw[if_neg hF,if_neg h];rfl
  have k5:(y.kind == 5)=false:=by rw[beq_eq_false_iff_ne];intro h;exact hF (.inl h)
  have k6:(y.kind == 6)=false:=by rw[beq_eq_false_iff_ne];intro h;exact hF (.inr (.inl h))
  have k8:(y.kind == 8)=false:=by rw[beq_eq_false_iff_ne];intro h;exact hF (.inr (.inr h))
  have e0:Hid (([]:List Wk).length<=3145728):=Nat.zero_le _;go_enter Tryz.func91,Tryz.ntmps91;go_upto_region 2 with fail;have BO:Hid (((w.alloc (.cells #[.slice a0 N a3,.slice Z M a2,.slice X R a1] 38)).alloc (.cells #[int i64 y.kind,.string y.own,int i64 y.name,.slice K y.lgn Y,int i64 y.pe,int i64 y.len,int i64 y.hei,int i64 y.cl,.bool y.all,int i64 y.be,int i64 y.unt,int i64 y.now] 47)).heap[w.heap.size+1]?=some (.cells #[int i64 y.kind,.string y.own,int i64 y.name,.slice K y.lgn Y,int i64 a.pe,int i64 a.len,int i64 a.hei,int i64 a.cl,.bool a.all,int i64 a.be,int i64 y.unt,int i64 y.now] 47 (0,0))):=by rw[d7.out];exact bO
  have g:=hI l;generalize (w.alloc (.cells #[.slice a0 N a3,.slice Z M a2,.slice X R a1] 38)).alloc (.cells #[int i64 y.kind,.string y.own,int i64 y.name,.slice K y.lgn Y,int i64 y.pe,int i64 y.len,int i64 y.hei,int i64 y.cl,.bool y.all,int i64 y.be,int i64 y.unt,int i64 y.now] 47)=W at l bF bO BO g ⊢;have g9:=za bO 0 _ rfl;have e1:=hI (f3.out.below g.out);have J:Hid (Qj W W.heap.size (.slice none 0 0) ([]:List Wk)):=Qj.nil _ _;have G:Hid (Below W.heap.size W W):=bZ;have a4:W.heap.size<=W.heap.size:=Nat.le_refl _;clear bF bO l hF e4 hm;go_upto_region 13 with fail;clear g9 k5 k6 k8
  by_cases hL:zJ y.kind
  ·have dL:decide (zJ y.kind)=true:=decide_eq_true hL
   have b7:Hid (∀ (z:World) (v:Value),Qj z W.heap.size v (([]:List Wk)++Zh false c a y.lg y.lgn)->Below W.heap.size W z->Qj z w.heap.size v (qk x c y m)):=fun z v h _=>by
    have e:qk x c y m=([]:List Wk)++Zh false c a y.lg y.lgn:=b9.out.1 hL;rw[e];exact zu h g.out.size
   have L:=zb BO.out G.out;have o0:=za L 0 _ rfl;have o3:=za L 3 _ rfl;go_wp2_with (first|(go_at_call 160;refine sC (zV _ _) ?_))
   clear o0 o3 L hL dL;have BX:Hid _:=BO;have b8:=hI e1;have C:=hI J;have a5:=hI G;have d0:(([]:List Wk)).length<=3145728:=e0.out;clear J G;go_loopw [7,13,14,67] (fun v _ _ i wr=>∃ k:Nat,k<=y.lgn/\i=int i64 k/\Hid (Qj wr W.heap.size v (([]:List Wk)++Zh false c a y.lg k))/\Hid (Below W.heap.size W wr)) (fun _ _ _ i _=>y.lgn - (intOf i).toNat)
   case atStart=>exact⟨0,Nat.zero_le _,rfl,(by show Qj _ _ _ (([]:List Wk)++[]);rw[List.append_nil];exact C.out),a5.out⟩
   case round =>
    clear C a5;obtain⟨k,hk,rfl,E,n⟩:=hrel
    by_cases hlt:k<y.lgn
    ·obtain⟨gb,go,d2,S⟩:=b8.out k hlt
     subst d2;have F:wr.cell? ⟨gb,go+k,none⟩=some (int i64 (y.lg k)):=(n.out.cell (p:=⟨gb,go+k,none⟩) (World.block_lt_of_cell? W _ S)).trans S;obtain⟨leg,o⟩:∃ leg,leg=y.lg k:=⟨_,rfl⟩;rw[← o] at F;have a6:=hI o;have d4:(([]:List Wk)++Zh false c a y.lg k).length<=3145728+3*k:=by have h1:=QD false c a y.lg k;have h2:=d0;rw[List.length_append];omega
     obtain⟨P,hP⟩:∃ P,P=([]:List Wk)++Zh false c a y.lg k:=⟨_,rfl⟩;rw[← hP] at d4;have HP:=hI hP;have a8:Hid (Qj wr W.heap.size u7 P):=by rw[hP];exact E.out
     clear o hP E S;go_wp2;clear F;obtain⟨wo,d6⟩:∃ z,z=wr:=⟨_,rfl⟩;subst d6;go_loopw [7,14] (fun v r wr=>∃ j:Nat,j<=3/\r=int i64 j/\Hid (Qj wr W.heap.size v (P++Zd false c a leg j))/\Hid (Below W.heap.size W wr)) (fun _ r _=>3 - (intOf r).toNat)
     case atStart=>exact⟨0,Nat.zero_le _,rfl,(by show Qj _ _ _ (P++[]);rw[List.append_nil];exact a8.out),n.out⟩
     case round =>
      clear a8 n;obtain⟨j,hj,rfl,A,s⟩:=hrel
      by_cases hj3:j<3
      ·have f:=zb BX.out s.out
       have y4:=za f 4 _ rfl;have y5:=za f 5 _ rfl;have y6:=za f 6 _ rfl;have y7:=za f 7 _ rfl;have y8:=za f 8 _ rfl;have y9:=za f 9 _ rfl;have d3:=zco false c a leg j;obtain⟨Q,hQ⟩:∃ Q,Q=P++Zd false c a leg j:=⟨_,rfl⟩;have f8:Q.length<=3145731+3*k:=by rw[hQ,List.length_append];omega
       rw[← hQ] at A;have HQ:=hI hQ;clear hQ d3;have cu:=zfk a.pe a.len a.hei a.cl a.be a.all j wr hj3;obtain⟨ub,U⟩:∃ ub,ub=zaI a.len a.cl j:=⟨_,rfl⟩;rw[← U] at cu;have a9:=hI U.symm;clear U;go_wp2_with fail;refine cu.mono ?_;clear cu;rintro e D ⟨rfl,O⟩;have t:=hI (zo O A.out);have H:=hI (ze s.out O);clear A s O y4 y5 y6 y7 y8 y9 f
       cases ub with
       | false =>
        have HF:Hid (Qj D W.heap.size u7 (P++Zd false c a leg (j+1))):=by
         have e:Zd false c a leg (j+1)=Zd false c a leg j:=by rw[Zd,if_neg (by rw[a9.out];decide)]
         rw[e,← HQ.out];exact t.out
        go_wp2;go_roundw
        case rel=>exact⟨j+1,by omega,by go_num,HF.out,H.out⟩
        case measure=>simp[intOf];omega
       | true =>
        have f:=zb BX.out H.out;have y4:=za f 4 _ rfl;have y5:=za f 5 _ rfl;have y6:=za f 6 _ rfl;have y7:=za f 7 _ rfl;have y8:=za f 8 _ rfl;have y9:=za f 9 _ rfl;obtain⟨qa,qc,T,_⟩:=zp t.out;have T:u7=.slice qa Q.length qc:=T;subst T;have I:Hid (Qj (D.alloc (.cells #[int i64 leg,int i64 (j:Int),.bool false,int i64 c,int i64 a.pe,int i64 a.len,int i64 a.hei,int i64 a.cl,.bool a.all,int i64 a.be] 159)) W.heap.size (.slice qa Q.length qc) Q):=zo (zk bZ _) t.out;have q:Hid (Below W.heap.size W (D.alloc (.cells #[int i64 leg,int i64 (j:Int),.bool false,int i64 c,int i64 a.pe,int i64 a.len,int i64 a.hei,int i64 a.cl,.bool a.all,int i64 a.be] 159))):=zk H.out _;have d5:W.heap.size<=(D.alloc (.cells #[int i64 leg,int i64 (j:Int),.bool false,int i64 c,int i64 a.pe,int i64 a.len,int i64 a.hei,int i64 a.cl,.bool a.all,int i64 a.be] 159)).heap.size:=Nat.le_trans a4 q.out.size;have a7:Hid (∀ m u,([int i64 leg,int i64 (j:Int),.bool false,int i64 c,int i64 a.pe,int i64 a.len,int i64 a.hei,int i64 a.cl,.bool a.all,int i64 a.be]:List Value)[m]?=some u->(D.alloc (.cells #[int i64 leg,int i64 (j:Int),.bool false,int i64 c,int i64 a.pe,int i64 a.len,int i64 a.hei,int i64 a.cl,.bool a.all,int i64 a.be] 159)).cell? ((⟨D.heap.size,0,none⟩:Addr).add m)=some u):=World.news_of_block (heap_alloc_new D _);clear t f;go_wp2_with (first|(at_builtin;refine zv _ (by rfl) (.tmp 79) (.tmp 86) 156 (by rfl) W.heap.size 159 k0 (.agg #[int i64 0,int i64 0,.bool false,int i64 0,int i64 0,int i64 0,int i64 0,int i64 0,.bool false,int i64 0]) 10 80 Tryz.underlying156 ki e7 e8 e9 rfl (by decide) _ Q.length (zgE Q) (by rfl) I.out (some ⟨D.heap.size,0,none⟩) 1 1 [int i64 leg,int i64 (j:Int),.bool false,int i64 c,int i64 a.pe,int i64 a.len,int i64 a.hei,int i64 a.cl,.bool a.all,int i64 a.be] (by rfl) (fun h=>(by cases h)) (by rfl) (fun ad e=>by cases e;exact a7.out) (by intro u hu;simp at hu;rcases hu with rfl|rfl|rfl|rfl|rfl|rfl|rfl|rfl|rfl|rfl <;> rfl) (by unfold maxLen;omega) (by omega) d5 ?_;intro v9 w9 b1 b0))
        have HF:Hid (Qj w9 W.heap.size v9 (P++Zd false c a leg (j+1))):=by
         have e:P++Zd false c a leg (j+1)=Q++[⟨leg,j,false,c,a⟩]:=by rw[HQ.out,List.append_assoc];congr 1;rw[Zd,if_pos a9.out]
         show w9.ownsRow _ _ 10 v9 _ _
         rw[e,zfm,List.length_append];exact b1
        have b6:Hid (Below W.heap.size W w9):=q.out.grown b0 q.out.size (fun b hb=>by have:=(I.out.lt b hb).1;omega)
        clear y4 y5 y6 y7 y8 y9 b1 b0 I q a7;go_wp2;go_roundw
        case rel=>exact⟨j+1,by omega,by go_num,HF.out,b6.out⟩
        case measure=>simp[intOf];omega
      ·obtain rfl:j=3:=by omega
       have HF:Hid (Qj wr W.heap.size u7 (([]:List Wk)++Zh false c a y.lg (k+1))):=by
        have e:([]:List Wk)++Zh false c a y.lg (k+1)=P++Zd false c a leg 3:=by rw[HP.out,a6.out,List.append_assoc];rfl
        rw[e];exact A.out
       go_wp2;go_roundw
       case rel=>exact⟨k+1,by omega,by go_num,HF.out,s.out⟩
       case measure=>simp[intOf];omega
    ·obtain rfl:k=y.lgn:=by omega
     have b3:Hid (Qj _ w.heap.size _ (qk x c y m)):=b7.out _ _ E.out n.out;have b2:=hI (ze g.out n.out);go_wp2;go_ret;exact⟨_,rfl,b3.out,b2.out⟩
  ·have dL:decide (zJ y.kind)=false:=decide_eq_false hL
   have b3:Hid (Qj W w.heap.size (.slice none 0 0) (qk x c y m)):=by
    have e:qk x c y m=([]:List Wk):=b9.out.2 hL;rw[e];exact zu J.out g.out.size
   have b2:=hI (ze g.out G.out);have L:=zb BO.out G.out;have o0:=za L 0 _ rfl;go_wp2_with (first|(go_at_call 160;refine sC (zV _ _) ?_))
   go_ret;exact⟨_,rfl,b3.out,b2.out⟩
end Go.Proofs.YtmdnjgihooflfaaGreatDoor
