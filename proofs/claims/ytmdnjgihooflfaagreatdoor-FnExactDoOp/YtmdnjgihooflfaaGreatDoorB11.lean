/-
  OWN TEXT: PlainOp, SpecIn, SpecIn3, SpecFc, SpecFg, SpecName, SpecO1.
-/
import Derived.Test.YtmdnjgihooflfaaGreatDoorRows
import Derived.Deep.RegionHeld3
import Derived.Deep.DeepCutAuto
import Derived.Deep.LoopGhost
import Derived.Test.YtmdnjgihooflfaaGreatDoorB04
namespace Go.Proofs.YtmdnjgihooflfaaGreatDoor
open Go.RowKit
open Go.Value (int)
open Go.IntKind (i64)
open Tryz
set_option maxHeartbeats 64000000
set_option maxRecDepth 100000
section
open Go.RowKit
variable{k pe len hei cl be:Int}{all:Bool}
def ZS (k:Int)(s:ByteArray):Prop:=if k=2∨k=3∨k=7 then Zg s else s.size=0
instance (k:Int) (s:ByteArray):Decidable (ZS k s):=by unfold ZS;exact inferInstance
def Qs (k n:Int):Prop:=if In k 4 8 then In n 1 30 else n=0
instance (k n:Int):Decidable (Qs k n):=by unfold Qs;exact inferInstance
def zJ (k:Int):Prop:=k=1∨k=2∨k=3∨k=5
instance (k:Int):Decidable (zJ k):=by unfold zJ;exact inferInstance
def qi (k:Int)(n:Nat):Prop:=if zJ k then 1<=n/\n<=3 else if k=9 then n=1 else n=0
instance (k:Int) (n:Nat):Decidable (qi k n):=by unfold qi;exact inferInstance
def zfl (p:Qh):Prop:=p.pe=0/\p.len=0/\p.hei=0/\p.cl=0/\p.all=false/\p.be=0
instance (p:Qh):Decidable (zfl p):=by unfold zfl;exact inferInstance
def qA (k:Int)(p:Qh):Prop:=if zJ k then qI p else zfl p
instance (k:Int) (p:Qh):Decidable (qA k p):=by unfold qA;exact inferInstance
def Qm (k u:Int):Prop:=u=0∨(k=2/\In u 0 10000)
instance (k u:Int):Decidable (Qm k u):=by unfold Qm;exact inferInstance
def zbW (k u:Int):Prop:=u=0∨((k=8∨k=6)/\In u 0 10000)
instance (k u:Int):Decidable (zbW k u):=by unfold zbW;exact inferInstance
def OpD.p (o:OpD):Qh:=⟨o.pe,o.len,o.hei,o.cl,o.all,o.be⟩
def zac (o:OpD):Prop:=In o.kind 1 9/\ZS o.kind o.own/\Qs o.kind o.name/\qi o.kind o.lgn/\qA o.kind o.p/\Qm o.kind o.unt/\zbW o.kind o.now
instance (o:OpD):Decidable (zac o):=by unfold zac;exact inferInstance
theorem Q8 {own:ByteArray}{name:Int}{lgn:Nat}{lg:Nat->Int}{unt now:Int}(a:In k 1 9) :
  decide (zac ⟨k,own,name,lgn,lg,pe,len,hei,cl,all,be,unt,now⟩)=(decide (ZS k own) && decide (Qs k name) && decide (qi k lgn) && decide (qA k ⟨pe,len,hei,cl,all,be⟩) && decide (Qm k unt) && decide (zbW k now)):=by
 rw[Bool.eq_iff_iff];simp only[Bool.and_eq_true,decide_eq_true_eq];unfold zac OpD.p;exact⟨λh=>⟨⟨⟨⟨⟨h.2.1,h.2.2.1⟩,h.2.2.2.1⟩,h.2.2.2.2.1⟩,h.2.2.2.2.2.1⟩,h.2.2.2.2.2.2⟩,λh=>⟨a,h.1.1.1.1.1,h.1.1.1.1.2,h.1.1.1.2,h.1.1.2,h.1.2,h.2⟩⟩
theorem zap (own:ByteArray)(a:¬ (k=2∨k=3∨k=7)):decide (ZS k own)=own.toList.isEmpty:=by
 rw[Bool.eq_iff_iff];rw[decide_eq_true_eq];unfold ZS;rw[Je a,List.isEmpty_iff,ByteArray.toList_eq];obtain⟨⟨l⟩⟩:=own
 show l.length=0↔l=[]
 exact List.length_eq_zero_iff
theorem zds (n:Int)(a:¬ In k 4 8):decide (Qs k n)=(n == 0):=by
 rw[Bool.eq_iff_iff];rw[decide_eq_true_eq];unfold Qs;rw[Je a,beq_iff_eq]
theorem zey (n:Nat):((n:Int) == 0)=decide (n=0):=by
 rw[Bool.eq_iff_iff,beq_iff_eq,decide_eq_true_eq];omega
theorem int_one (n:Nat):((n:Int) == 1)=decide (n=1):=by
 rw[Bool.eq_iff_iff,beq_iff_eq,decide_eq_true_eq];omega
theorem zcl {p:Qh}{q:Bool}(a:zJ k)(h:q=true↔qI p):decide (qA k p)=q:=by
 rw[Bool.eq_iff_iff,decide_eq_true_eq,h];unfold qA;rw[Jf a]
def PZ (pe len hei cl:Int)(all:Bool)(be:Int):Bool:=decide (zfl ⟨pe,len,hei,cl,all,be⟩)
theorem Zw (h:¬ zfl ⟨pe,len,hei,cl,all,be⟩):PZ pe len hei cl all be=false:=Jc h
theorem zby (a:¬ zJ k):PZ pe len hei cl all be=decide (qA k ⟨pe,len,hei,cl,all,be⟩):=by
 unfold PZ;rw[Bool.eq_iff_iff,decide_eq_true_eq,decide_eq_true_eq];unfold qA;rw[Je a]
end
theorem l1In_yes (x lo a:Int)(w:World)(h1:lo<=x)(h2:x<=a) :
  Calls prog 148 #[x,lo,a] w λe w'=>e=.returned (.bool true)/\w'=w:=by
 have e1:decide (lo<=x)=true:=by simpa using h1
 have e2:decide (x<=a)=true:=by simpa using h2
 go_enter func148,ntmps148;go_wp2;go_ret;exact⟨rfl,rfl⟩
theorem l1In_low (x lo a:Int)(w:World)(h1:x<lo) :
  Calls prog 148 #[x,lo,a] w λe w'=>e=.returned (.bool false)/\w'=w:=by
 have e1:decide (lo<=x)=false:=by simpa using h1
 go_enter func148,ntmps148;go_wp2;go_ret;exact⟨rfl,rfl⟩
theorem l1In_high (x lo a:Int)(w:World)(h1:lo<=x)(h2:a<x) :
  Calls prog 148 #[x,lo,a] w λe w'=>e=.returned (.bool false)/\w'=w:=by
 have e1:decide (lo<=x)=true:=by simpa using h1
 have e2:decide (x<=a)=false:=by simpa using h2
 go_enter func148,ntmps148;go_wp2;go_ret;exact⟨rfl,rfl⟩
theorem l1In_no (x lo a:Int)(w:World)(h:¬ (lo<=x/\x<=a)) :
  Calls prog 148 #[x,lo,a] w λe w'=>e=.returned (.bool false)/\w'=w:=by
 by_cases h1:lo<=x
 ·exact l1In_high x lo a w h1 (by omega)
 ·exact l1In_low x lo a w (by omega)
theorem zt (x lo a:Int)(w:World) :
  Calls prog 148 #[int i64 x,int i64 lo,int i64 a] w λe w'=>e=.returned (.bool (decide (In x lo a)))/\w'=w:=by
 by_cases h:In x lo a
 ·rw[Jd h];exact l1In_yes x lo a w h.1 h.2
 ·rw[Jc h];exact l1In_no x lo a w h
theorem Zc (x y:Int)(w:World) :
  Calls prog 224 #[x,y] w λe w'=>e=.returned (.bool (decide (zbA x y)))/\w'=w:=by
 obtain⟨c,f⟩:∃ c,c=decide (zbA x y):=⟨_,rfl⟩;rw[← f];have d:=hI f;clear f
 by_cases h1:In x 1 2000
 ·have g:=Jd h1
  have a:=hI h1;clear h1
  by_cases h2:In y 1 500
  ·have i:=Jd h2
   have b:=hI h2;clear h2;go_enter func224,ntmps224;go_wp2_with (first|(go_at_call 148;refine sC (zt _ _ _ _) ?_))
   go_ret;exact⟨by rw[d.out,Jd ⟨a.out,b.out⟩];rfl,rfl⟩
  ·have i:=Jc h2
   have b:=hI h2;clear h2;go_enter func224,ntmps224;go_wp2_with (first|(go_at_call 148;refine sC (zt _ _ _ _) ?_))
   go_ret;exact⟨by rw[d.out,Jc (λh=>b.out h.2)];rfl,rfl⟩
 ·have g:=Jc h1
  have a:=hI h1;clear h1;go_enter func224,ntmps224;go_wp2_with (first|(go_at_call 148;refine sC (zt _ _ _ _) ?_))
  go_ret;exact⟨by rw[d.out,Jc (λh=>a.out h.1)];rfl,rfl⟩
theorem zaz (pe len hei cl:Int)(all:Bool)(be:Int)(w:World) :
  Calls prog 158 #[.agg #[pe,len,hei,cl,all,be]] w λe w'=>qX (qI ⟨pe,len,hei,cl,all,be⟩) e/\Below w.heap.size w w':=by
 by_cases h1:In pe 1 20
 ·have o:=Jd h1
  have b:=hI h1;clear h1
  by_cases h2:len=0
  ·subst h2
   have l:Hid (¬ zbA 0 hei):=λh=>by have:=h.1;unfold In at this;omega
   have m:=Jc l
   by_cases h3:hei=0
   ·subst h3
    by_cases k0:cl=0
    ·subst k0
     cases all with
     | true =>
      go_enter func158,ntmps158;go_wp2_with (first|(go_at_call 148;refine sC (zt _ _ _ _) ?_)|(go_at_call 224;refine sC (Zc _ _ _) ?_))
      go_ret;exact⟨zl (λh=>by rcases h.2.2 with h|h;cases h.2.1;have h9:In (0:Int) 1 3:=h.1;unfold In at h9;omega),zk bZ _⟩
     | false =>
      by_cases k1:be=0
      ·subst k1
       go_enter func158,ntmps158;go_wp2_with (first|(go_at_call 148;refine sC (zt _ _ _ _) ?_)|(go_at_call 224;refine sC (Zc _ _ _) ?_))
       go_ret;exact⟨zR ⟨b,.inl ⟨rfl,rfl⟩,.inl ⟨rfl,rfl,rfl⟩⟩,zk bZ _⟩
      ·have i:(be == 0)=false:=by simpa using k1
       have f:=hI k1;clear k1;go_enter func158,ntmps158;go_wp2_with (first|(go_at_call 148;refine sC (zt _ _ _ _) ?_)|(go_at_call 224;refine sC (Zc _ _ _) ?_))
       go_ret;exact⟨zl (λh=>by rcases h.2.2 with h|h;exact f h.2.2;have h9:In (0:Int) 1 3:=h.1;unfold In at h9;omega),zk bZ _⟩
    ·have q:(cl == 0)=false:=by simpa using k0
     have d:=hI k0;clear k0
     by_cases k2:In cl 1 3
     ·have j:=Jd k2
      have a:=hI k2;clear k2
      cases all with
      | true =>
       by_cases k1:be=0
       ·subst k1
        go_enter func158,ntmps158;go_wp2_with (first|(go_at_call 148;refine sC (zt _ _ _ _) ?_)|(go_at_call 224;refine sC (Zc _ _ _) ?_))
        go_ret;exact⟨zR ⟨b,.inl ⟨rfl,rfl⟩,.inr ⟨a,.inl ⟨rfl,rfl⟩⟩⟩,zk bZ _⟩
       ·have i:(be == 0)=false:=by simpa using k1
        have f:=hI k1;clear k1;go_enter func158,ntmps158;go_wp2_with (first|(go_at_call 148;refine sC (zt _ _ _ _) ?_)|(go_at_call 224;refine sC (Zc _ _ _) ?_))
        go_ret;exact⟨zl (λh=>by rcases h.2.2 with h|h;exact d h.1;rcases h.2 with h|h;exact f h.2;cases h.1),zk bZ _⟩
      | false =>
       by_cases k3:In be 1 4
       ·have k:=Jd k3
        have g:=hI k3;clear k3;go_enter func158,ntmps158;go_wp2_with (first|(go_at_call 148;refine sC (zt _ _ _ _) ?_)|(go_at_call 224;refine sC (Zc _ _ _) ?_))
        go_ret;exact⟨zR ⟨b,.inl ⟨rfl,rfl⟩,.inr ⟨a,.inr ⟨rfl,g⟩⟩⟩,zk bZ _⟩
       ·have k:=Jc k3
        have g:=hI k3;clear k3;go_enter func158,ntmps158;go_wp2_with (first|(go_at_call 148;refine sC (zt _ _ _ _) ?_)|(go_at_call 224;refine sC (Zc _ _ _) ?_))
        go_ret;exact⟨zl (λh=>by rcases h.2.2 with h|h;exact d h.1;rcases h.2 with h|h;cases h.1;exact g h.2),zk bZ _⟩
     ·have j:=Jc k2
      have a:=hI k2;clear k2;go_enter func158,ntmps158;go_wp2_with (first|(go_at_call 148;refine sC (zt _ _ _ _) ?_)|(go_at_call 224;refine sC (Zc _ _ _) ?_))
      go_ret;exact⟨zl (λh=>by rcases h.2.2 with h|h;exact d h.1;exact a h.1),zk bZ _⟩
   ·have p:(hei == 0)=false:=by simpa using h3
    have c:=hI h3;clear h3;go_enter func158,ntmps158;go_wp2_with (first|(go_at_call 148;refine sC (zt _ _ _ _) ?_)|(go_at_call 224;refine sC (Zc _ _ _) ?_))
    go_ret;exact⟨zl (λh=>by rcases h.2.1 with h|h;exact c h.2;exact l h),zk bZ _⟩
  ·have p:(len == 0)=false:=by simpa using h2
   have n:=hI h2;clear h2
   by_cases h3:zbA len hei
   ·have m:=Jd h3
    have c:=hI h3;clear h3
    by_cases k0:cl=0
    ·subst k0
     cases all with
     | true =>
      go_enter func158,ntmps158;go_wp2_with (first|(go_at_call 148;refine sC (zt _ _ _ _) ?_)|(go_at_call 224;refine sC (Zc _ _ _) ?_))
      go_ret;exact⟨zl (λh=>by rcases h.2.2 with h|h;cases h.2.1;have h9:In (0:Int) 1 3:=h.1;unfold In at h9;omega),zk bZ _⟩
     | false =>
      by_cases k1:be=0
      ·subst k1
       go_enter func158,ntmps158;go_wp2_with (first|(go_at_call 148;refine sC (zt _ _ _ _) ?_)|(go_at_call 224;refine sC (Zc _ _ _) ?_))
       go_ret;exact⟨zR ⟨b,.inr c,.inl ⟨rfl,rfl,rfl⟩⟩,zk bZ _⟩
      ·have i:(be == 0)=false:=by simpa using k1
       have f:=hI k1;clear k1;go_enter func158,ntmps158;go_wp2_with (first|(go_at_call 148;refine sC (zt _ _ _ _) ?_)|(go_at_call 224;refine sC (Zc _ _ _) ?_))
       go_ret;exact⟨zl (λh=>by rcases h.2.2 with h|h;exact f h.2.2;have h9:In (0:Int) 1 3:=h.1;unfold In at h9;omega),zk bZ _⟩
    ·have q:(cl == 0)=false:=by simpa using k0
     have d:=hI k0;clear k0
     by_cases k2:In cl 1 3
     ·have j:=Jd k2
      have a:=hI k2;clear k2
      cases all with
      | true =>
       by_cases k1:be=0
       ·subst k1
        go_enter func158,ntmps158;go_wp2_with (first|(go_at_call 148;refine sC (zt _ _ _ _) ?_)|(go_at_call 224;refine sC (Zc _ _ _) ?_))
        go_ret;exact⟨zR ⟨b,.inr c,.inr ⟨a,.inl ⟨rfl,rfl⟩⟩⟩,zk bZ _⟩
       ·have i:(be == 0)=false:=by simpa using k1
        have f:=hI k1;clear k1;go_enter func158,ntmps158;go_wp2_with (first|(go_at_call 148;refine sC (zt _ _ _ _) ?_)|(go_at_call 224;refine sC (Zc _ _ _) ?_))
        go_ret;exact⟨zl (λh=>by rcases h.2.2 with h|h;exact d h.1;rcases h.2 with h|h;exact f h.2;cases h.1),zk bZ _⟩
      | false =>
       by_cases k3:In be 1 4
       ·have k:=Jd k3
        have g:=hI k3;clear k3;go_enter func158,ntmps158;go_wp2_with (first|(go_at_call 148;refine sC (zt _ _ _ _) ?_)|(go_at_call 224;refine sC (Zc _ _ _) ?_))
        go_ret;exact⟨zR ⟨b,.inr c,.inr ⟨a,.inr ⟨rfl,g⟩⟩⟩,zk bZ _⟩
       ·have k:=Jc k3
        have g:=hI k3;clear k3;go_enter func158,ntmps158;go_wp2_with (first|(go_at_call 148;refine sC (zt _ _ _ _) ?_)|(go_at_call 224;refine sC (Zc _ _ _) ?_))
        go_ret;exact⟨zl (λh=>by rcases h.2.2 with h|h;exact d h.1;rcases h.2 with h|h;cases h.1;exact g h.2),zk bZ _⟩
     ·have j:=Jc k2
      have a:=hI k2;clear k2;go_enter func158,ntmps158;go_wp2_with (first|(go_at_call 148;refine sC (zt _ _ _ _) ?_)|(go_at_call 224;refine sC (Zc _ _ _) ?_))
      go_ret;exact⟨zl (λh=>by rcases h.2.2 with h|h;exact d h.1;exact a h.1),zk bZ _⟩
   ·have m:=Jc h3
    have c:=hI h3;clear h3;go_enter func158,ntmps158;go_wp2_with (first|(go_at_call 148;refine sC (zt _ _ _ _) ?_)|(go_at_call 224;refine sC (Zc _ _ _) ?_))
    go_ret;exact⟨zl (λh=>by rcases h.2.1 with h|h;exact n h.1;exact c h),zk bZ _⟩
 ·have o:=Jc h1
  have b:=hI h1;clear h1;go_enter func158,ntmps158;go_wp2_with (first|(go_at_call 148;refine sC (zt _ _ _ _) ?_)|(go_at_call 224;refine sC (Zc _ _ _) ?_))
  go_ret;exact⟨zl (λh=>b h.1),zk bZ _⟩
theorem zni (s:ByteArray)(w:World)(hs:s.size<=1000000000000000) :
  Calls prog 156 #[s] w λe w'=>qX (Zg s) e/\w'=w:=by
 by_cases h0:In (s.size:Int) 1 12
 ·have d:=hI h0
  have t:=Jd h0;have z:s.size<=12:=by have:=h0.2;omega
  clear h0;go_enter func156,ntmps156;go_wp2_with (first|(go_at_call 148;refine sC (zt _ _ _ _) ?_))
  go_loop [3,4] (λi _=>∃ k,k<=s.size/\i=int i64 k/\∀ j,j<k->zcj (zed s j)) (λi _=>s.size - (intOf i).toNat)
  case atStart=>exact⟨0,Jq _,rfl,λj x=>by omega⟩
  case round =>
   obtain⟨k,hk,rfl,a⟩:=hrel;have o:=hI a;clear a
   by_cases hlt:k<s.size
   ·have l:=zgk s k hlt
    obtain⟨y,m⟩:∃ y,y=zed s k:=⟨_,rfl⟩;rw[← m] at l;have p:=hI m;clear m;have c:zcj y->(∃ n,n<=s.size/\Value.int .i64 ((k:Int)+1)=Value.int .i64 (n:Int)/\∀ j,j<n->zcj (zed s j)):=λg=>⟨k+1,by omega,by simp,λj x=>by
     by_cases e:j=k
     ·subst e;rw[← p.out];exact g
     ·exact o j (by omega)⟩
    have b:=hI c;have f:Hid (¬ zcj y->¬ Zg s):=λg h=>g (by rw[p.out];exact h.2.2 k hlt)
    clear c
    by_cases h1:97<=y
    ·have u:decide (97<=y)=true:=by simpa using h1
     by_cases h2:y<=122
     ·have v:decide (y<=122)=true:=by simpa using h2
      go_wp2;go_round
      case rel=>exact b (.inl ⟨h1,h2⟩)
      case measure=>simp[intOf];omega
     ·have v:decide (y<=122)=false:=by simpa using h2
      have q:decide (65<=y)=true:=by simp;omega
      have r:decide (y<=90)=false:=by simp;omega
      go_wp2;go_ret;exact⟨zl (f (by rintro(h|h) <;> omega)),rfl⟩
    ·have u:decide (97<=y)=false:=by simpa using h1
     by_cases h3:65<=y
     ·have q:decide (65<=y)=true:=by simpa using h3
      by_cases h4:y<=90
      ·have r:decide (y<=90)=true:=by simpa using h4
       go_wp2;go_round
       case rel=>exact b (.inr ⟨h3,h4⟩)
       case measure=>simp[intOf];omega
      ·have r:decide (y<=90)=false:=by simpa using h4
       go_wp2;go_ret;exact⟨zl (f (by rintro(h|h) <;> omega)),rfl⟩
     ·have q:decide (65<=y)=false:=by simpa using h3
      go_wp2;go_ret;exact⟨zl (f (by rintro(h|h) <;> omega)),rfl⟩
   ·obtain rfl:k=s.size:=by omega
    go_wp2;go_ret;exact⟨zR ⟨by have:=d.1;omega,by have:=d.2;omega,o⟩,rfl⟩
 ·have d:=hI h0
  have t:=Jc h0;clear h0;go_enter func156,ntmps156;go_wp2_with (first|(go_at_call 148;refine sC (zt _ _ _ _) ?_))
  go_ret;exact⟨zl (λh=>d ⟨by have:=h.1;omega,by have:=h.2.1;omega⟩),rfl⟩
theorem qS (s:ByteArray)(w:World)(a:s.size<=1000000000000000) :
  Calls prog 156 #[s] w λe w'=>e=.returned (.bool (decide (Zg s)))/\w'=w:=by
 refine(zni s w a).mono ?_;rintro e w' ⟨⟨b',rfl,h⟩,rfl⟩;rw[bool_eq h (decide_eq_true_iff)];exact⟨rfl,rfl⟩
theorem zO (k:Int)(w:World):Calls prog 162 #[k] w λe w'=>e=.returned (.bool (decide (In k 4 8)))/\w'=w:=by
 go_enter func162,ntmps162;go_wp2_with (first|(go_at_call 148;refine sC (zt _ _ _ _) ?_))
 go_ret;exact⟨rfl,rfl⟩
theorem zV (k:Int)(w:World):Calls prog 160 #[k] w λe w'=>e=.returned (.bool (decide (zJ k)))/\w'=w:=by
 obtain⟨c,d⟩:∃ c,c=decide (zJ k):=⟨_,rfl⟩;rw[← d];have b:=hI d;clear d
 by_cases h1:k=1
 ·have a:Hid (c=true):=by rw[b.out];exact Jd (.inl h1)
  subst h1;go_enter func160,ntmps160;go_wp2;go_ret;exact⟨by rw[a.out];rfl,rfl⟩
 ·have e1:(k == 1)=false:=by simpa using h1
  by_cases h2:k=2
  ·have a:Hid (c=true):=by rw[b.out];exact Jd (.inr (.inl h2))
   subst h2;go_enter func160,ntmps160;go_wp2;go_ret;exact⟨by rw[a.out];rfl,rfl⟩
  ·have e2:(k == 2)=false:=by simpa using h2
   by_cases h3:k=3
   ·have a:Hid (c=true):=by rw[b.out];exact Jd (.inr (.inr (.inl h3)))
    subst h3;go_enter func160,ntmps160;go_wp2;go_ret;exact⟨by rw[a.out];rfl,rfl⟩
   ·have e3:(k == 3)=false:=by simpa using h3
    by_cases h5:k=5
    ·have a:Hid (c=true):=by rw[b.out];exact Jd (.inr (.inr (.inr h5)))
     subst h5;go_enter func160,ntmps160;go_wp2;go_ret;exact⟨by rw[a.out];rfl,rfl⟩
    ·have e5:(k == 5)=false:=by simpa using h5
     have a:Hid (c=false):=by rw[b.out];exact Jc (λh=>by rcases h with h|h|h|h;exact h1 h;exact h2 h;exact h3 h;exact h5 h)
     clear h1 h2 h3 h5;go_enter func160,ntmps160;go_wp2;go_ret;exact⟨by rw[a.out];rfl,rfl⟩
end Go.Proofs.YtmdnjgihooflfaaGreatDoor
