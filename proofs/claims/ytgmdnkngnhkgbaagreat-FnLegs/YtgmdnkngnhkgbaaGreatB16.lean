/-
  OWN TEXT: PlainOp, SpecFc, SpecFg, SpecO1, DrawOp.
-/
import Derived.Deep.DeepCutAuto
import Derived.Deep.CutBlock
import Derived.Deep.RegionWith
import Derived.Test.YtgmdnkngnhkgbaaGreatB15
namespace Go.Proofs.YtgmdnkngnhkgbaaGreat
open Go.RowKit
open Go.Value (int)
open Go.IntKind (i64)
set_option maxHeartbeats 64000000
set_option maxRecDepth 100000
def Zj (k:Int)(s:ByteArray):Prop:=if k=2∨k=3∨k=7 then qr s else s.size=0
instance (k:Int) (s:ByteArray):Decidable (Zj k s):=by unfold Zj;exact inferInstance
def ZA (k n:Int):Prop:=if In k 4 8 then In n 1 30 else n=0
instance (k n:Int):Decidable (ZA k n):=by unfold ZA;exact inferInstance
def zO (k:Int):Prop:=k=1∨k=2∨k=3∨k=5
instance (k:Int):Decidable (zO k):=by unfold zO;exact inferInstance
def zY (k:Int)(n:Nat):Prop:=if zO k then 1<=n/\n<=3 else if k=9 then n=1 else n=0
instance (k:Int) (n:Nat):Decidable (zY k n):=by unfold zY;exact inferInstance
def zcH (p:ZO):Prop:=p.pe=0/\p.len=0/\p.hei=0/\p.cl=0/\p.all=false/\p.be=0
instance (p:ZO):Decidable (zcH p):=by unfold zcH;exact inferInstance
def qf (k:Int)(p:ZO):Prop:=if zO k then qw p else zcH p
instance (k:Int) (p:ZO):Decidable (qf k p):=by unfold qf;exact inferInstance
def Z7 (k u:Int):Prop:=u=0∨(k=2/\In u 0 10000)
instance (k u:Int):Decidable (Z7 k u):=by unfold Z7;exact inferInstance
def zbu (k u:Int):Prop:=u=0∨((k=8∨k=6)/\In u 0 10000)
instance (k u:Int):Decidable (zbu k u):=by unfold zbu;exact inferInstance
def OpD.p (o:OpD):ZO:=⟨o.pe,o.len,o.hei,o.cl,o.all,o.be⟩
def QZ (o:OpD):Prop:=In o.kind 1 9/\Zj o.kind o.own/\ZA o.kind o.name/\zY o.kind o.lgn/\qf o.kind o.p/\Z7 o.kind o.unt/\zbu o.kind o.now
instance (o:OpD):Decidable (QZ o):=by unfold QZ;exact inferInstance
theorem Zs {k:Int}{own:ByteArray}{name:Int}{lgn:Nat}{lg:Nat->Int}{pe len hei cl:Int}{all:Bool}{be unt now:Int}(a:In k 1 9) :
  decide (QZ ⟨k,own,name,lgn,lg,pe,len,hei,cl,all,be,unt,now⟩)=(decide (Zj k own) && decide (ZA k name) && decide (zY k lgn) && decide (qf k ⟨pe,len,hei,cl,all,be⟩) && decide (Z7 k unt) && decide (zbu k now)):=by
 rw[Bool.eq_iff_iff];simp only[Bool.and_eq_true,decide_eq_true_eq];unfold QZ OpD.p;exact⟨fun h=>⟨⟨⟨⟨⟨h.2.1,h.2.2.1⟩,h.2.2.2.1⟩,h.2.2.2.2.1⟩,h.2.2.2.2.2.1⟩,h.2.2.2.2.2.2⟩,fun h=>⟨a,h.1.1.1.1.1,h.1.1.1.1.2,h.1.1.1.2,h.1.1.2,h.1.2,h.2⟩⟩
theorem Z9 (own:ByteArray){k:Int}(a:¬ (k=2∨k=3∨k=7)):decide (Zj k own)=own.toList.isEmpty:=by
 rw[Bool.eq_iff_iff];rw[decide_eq_true_eq];unfold Zj;rw[if_neg a,List.isEmpty_iff,ByteArray.toList_eq];obtain⟨⟨l⟩⟩:=own
 show l.length=0↔l=[]
 exact List.length_eq_zero_iff
theorem zbv (n:Int){k:Int}(a:¬ In k 4 8):decide (ZA k n)=(n == 0):=by
 rw[Bool.eq_iff_iff];rw[decide_eq_true_eq];unfold ZA;rw[if_neg a,beq_iff_eq]
theorem zcr (n:Nat):((n:Int) == 0)=decide (n=0):=by
 rw[Bool.eq_iff_iff,beq_iff_eq,decide_eq_true_eq];omega
theorem int_one (n:Nat):((n:Int) == 1)=decide (n=1):=by
 rw[Bool.eq_iff_iff,beq_iff_eq,decide_eq_true_eq];omega
theorem zaJ {k:Int}{p:ZO}{q:Bool}(a:zO k)(h:q=true↔qw p):decide (qf k p)=q:=by
 rw[Bool.eq_iff_iff,decide_eq_true_eq,h];unfold qf;rw[if_pos a]
def PZ (pe len hei cl:Int)(all:Bool)(be:Int):Bool:=decide (zcH ⟨pe,len,hei,cl,all,be⟩)
theorem qy {pe len hei cl:Int}{all:Bool}{be:Int}(h:¬ zcH ⟨pe,len,hei,cl,all,be⟩):PZ pe len hei cl all be=false:=decide_eq_false h
theorem Q0 {k:Int}{pe len hei cl:Int}{all:Bool}{be:Int}(a:¬ zO k):PZ pe len hei cl all be=decide (qf k ⟨pe,len,hei,cl,all,be⟩):=by
 unfold PZ;rw[Bool.eq_iff_iff,decide_eq_true_eq,decide_eq_true_eq];unfold qf;rw[if_neg a]
theorem qh (x y:Int)(w:World) :
  Calls Tryz.prog 88 #[int i64 x,int i64 y] w fun e w'=>e=.returned (.bool (decide (zav x y)))/\w'=w:=by
 obtain⟨c,f⟩:∃ c,c=decide (zav x y):=⟨_,rfl⟩;rw[← f];have d:=hI f;clear f
 by_cases h1:In x 1 2000
 ·have g:decide (In x 1 2000)=true:=decide_eq_true h1
  have a:=hI h1;clear h1
  by_cases h2:In y 1 500
  ·have i:decide (In y 1 500)=true:=decide_eq_true h2
   have b:=hI h2;clear h2;go_enter Tryz.func88,Tryz.ntmps88;go_wp2_with (first|(go_at_call 45;refine sC (zo _ _ _ _) ?_))
   go_ret;exact⟨by rw[d.out,decide_eq_true ⟨a.out,b.out⟩];rfl,rfl⟩
  ·have i:decide (In y 1 500)=false:=decide_eq_false h2
   have b:=hI h2;clear h2;go_enter Tryz.func88,Tryz.ntmps88;go_wp2_with (first|(go_at_call 45;refine sC (zo _ _ _ _) ?_))
   go_ret;exact⟨by rw[d.out,decide_eq_false (fun h=>b.out h.2)];rfl,rfl⟩
 ·have g:decide (In x 1 2000)=false:=decide_eq_false h1
  have a:=hI h1;clear h1;go_enter Tryz.func88,Tryz.ntmps88;go_wp2_with (first|(go_at_call 45;refine sC (zo _ _ _ _) ?_))
  go_ret;exact⟨by rw[d.out,decide_eq_false (fun h=>a.out h.1)];rfl,rfl⟩
theorem ZV (pe len hei cl:Int)(all:Bool)(be:Int)(w:World) :
  Calls Tryz.prog 55 #[.agg #[int i64 pe,int i64 len,int i64 hei,int i64 cl,.bool all,int i64 be]] w fun e w'=>SaysIf (qw ⟨pe,len,hei,cl,all,be⟩) e/\Below w.heap.size w w':=by
 by_cases h1:In pe 1 20
 ·have p:decide (In pe 1 20)=true:=decide_eq_true h1
  have b:=hI h1;clear h1
  by_cases h2:len=0
  ·subst h2
   have m:Hid (¬ zav 0 hei):=fun h=>by have:=h.1;unfold In at this;omega
   have n:decide (zav 0 hei)=false:=decide_eq_false m.out
   by_cases h3:hei=0
   ·subst h3
    by_cases k0:cl=0
    ·subst k0
     cases all with
     | true =>
      go_enter Tryz.func55,Tryz.ntmps55;go_wp2_with (first|(go_at_call 45;refine sC (zo _ _ _ _) ?_)|(go_at_call 88;refine sC (qh _ _ _) ?_))
      go_ret;exact⟨zk (fun h=>by rcases h.2.2 with h|h;cases h.2.1;have i:In (0:Int) 1 3:=h.1;unfold In at i;omega),zl bZ _⟩
     | false =>
      by_cases k1:be=0
      ·subst k1
       go_enter Tryz.func55,Tryz.ntmps55;go_wp2_with (first|(go_at_call 45;refine sC (zo _ _ _ _) ?_)|(go_at_call 88;refine sC (qh _ _ _) ?_))
       go_ret;exact⟨zI ⟨b.out,.inl ⟨rfl,rfl⟩,.inl ⟨rfl,rfl,rfl⟩⟩,zl bZ _⟩
      ·have j:(be == 0)=false:=by simpa using k1
       have f:=hI k1;clear k1;go_enter Tryz.func55,Tryz.ntmps55;go_wp2_with (first|(go_at_call 45;refine sC (zo _ _ _ _) ?_)|(go_at_call 88;refine sC (qh _ _ _) ?_))
       go_ret;exact⟨zk (fun h=>by rcases h.2.2 with h|h;exact f.out h.2.2;have i:In (0:Int) 1 3:=h.1;unfold In at i;omega),zl bZ _⟩
    ·have r:(cl == 0)=false:=by simpa using k0
     have d:=hI k0;clear k0
     by_cases k2:In cl 1 3
     ·have k:decide (In cl 1 3)=true:=decide_eq_true k2
      have a:=hI k2;clear k2
      cases all with
      | true =>
       by_cases k1:be=0
       ·subst k1
        go_enter Tryz.func55,Tryz.ntmps55;go_wp2_with (first|(go_at_call 45;refine sC (zo _ _ _ _) ?_)|(go_at_call 88;refine sC (qh _ _ _) ?_))
        go_ret;exact⟨zI ⟨b.out,.inl ⟨rfl,rfl⟩,.inr ⟨a.out,.inl ⟨rfl,rfl⟩⟩⟩,zl bZ _⟩
       ·have j:(be == 0)=false:=by simpa using k1
        have f:=hI k1;clear k1;go_enter Tryz.func55,Tryz.ntmps55;go_wp2_with (first|(go_at_call 45;refine sC (zo _ _ _ _) ?_)|(go_at_call 88;refine sC (qh _ _ _) ?_))
        go_ret;exact⟨zk (fun h=>by rcases h.2.2 with h|h;exact d.out h.1;rcases h.2 with h|h;exact f.out h.2;cases h.1),zl bZ _⟩
      | false =>
       by_cases k3:In be 1 4
       ·have l:decide (In be 1 4)=true:=decide_eq_true k3
        have g:=hI k3;clear k3;go_enter Tryz.func55,Tryz.ntmps55;go_wp2_with (first|(go_at_call 45;refine sC (zo _ _ _ _) ?_)|(go_at_call 88;refine sC (qh _ _ _) ?_))
        go_ret;exact⟨zI ⟨b.out,.inl ⟨rfl,rfl⟩,.inr ⟨a.out,.inr ⟨rfl,g.out⟩⟩⟩,zl bZ _⟩
       ·have l:decide (In be 1 4)=false:=decide_eq_false k3
        have g:=hI k3;clear k3;go_enter Tryz.func55,Tryz.ntmps55;go_wp2_with (first|(go_at_call 45;refine sC (zo _ _ _ _) ?_)|(go_at_call 88;refine sC (qh _ _ _) ?_))
        go_ret;exact⟨zk (fun h=>by rcases h.2.2 with h|h;exact d.out h.1;rcases h.2 with h|h;cases h.1;exact g.out h.2),zl bZ _⟩
     ·have k:decide (In cl 1 3)=false:=decide_eq_false k2
      have a:=hI k2;clear k2;go_enter Tryz.func55,Tryz.ntmps55;go_wp2_with (first|(go_at_call 45;refine sC (zo _ _ _ _) ?_)|(go_at_call 88;refine sC (qh _ _ _) ?_))
      go_ret;exact⟨zk (fun h=>by rcases h.2.2 with h|h;exact d.out h.1;exact a.out h.1),zl bZ _⟩
   ·have q:(hei == 0)=false:=by simpa using h3
    have c:=hI h3;clear h3;go_enter Tryz.func55,Tryz.ntmps55;go_wp2_with (first|(go_at_call 45;refine sC (zo _ _ _ _) ?_)|(go_at_call 88;refine sC (qh _ _ _) ?_))
    go_ret;exact⟨zk (fun h=>by rcases h.2.1 with h|h;exact c.out h.2;exact m.out h),zl bZ _⟩
  ·have q:(len == 0)=false:=by simpa using h2
   have o:=hI h2;clear h2
   by_cases h3:zav len hei
   ·have n:decide (zav len hei)=true:=decide_eq_true h3
    have c:=hI h3;clear h3
    by_cases k0:cl=0
    ·subst k0
     cases all with
     | true =>
      go_enter Tryz.func55,Tryz.ntmps55;go_wp2_with (first|(go_at_call 45;refine sC (zo _ _ _ _) ?_)|(go_at_call 88;refine sC (qh _ _ _) ?_))
      go_ret;exact⟨zk (fun h=>by rcases h.2.2 with h|h;cases h.2.1;have i:In (0:Int) 1 3:=h.1;unfold In at i;omega),zl bZ _⟩
     | false =>
      by_cases k1:be=0
      ·subst k1
       go_enter Tryz.func55,Tryz.ntmps55;go_wp2_with (first|(go_at_call 45;refine sC (zo _ _ _ _) ?_)|(go_at_call 88;refine sC (qh _ _ _) ?_))
       go_ret;exact⟨zI ⟨b.out,.inr c.out,.inl ⟨rfl,rfl,rfl⟩⟩,zl bZ _⟩
      ·have j:(be == 0)=false:=by simpa using k1
       have f:=hI k1;clear k1;go_enter Tryz.func55,Tryz.ntmps55;go_wp2_with (first|(go_at_call 45;refine sC (zo _ _ _ _) ?_)|(go_at_call 88;refine sC (qh _ _ _) ?_))
       go_ret;exact⟨zk (fun h=>by rcases h.2.2 with h|h;exact f.out h.2.2;have i:In (0:Int) 1 3:=h.1;unfold In at i;omega),zl bZ _⟩
    ·have r:(cl == 0)=false:=by simpa using k0
     have d:=hI k0;clear k0
     by_cases k2:In cl 1 3
     ·have k:decide (In cl 1 3)=true:=decide_eq_true k2
      have a:=hI k2;clear k2
      cases all with
      | true =>
       by_cases k1:be=0
       ·subst k1
        go_enter Tryz.func55,Tryz.ntmps55;go_wp2_with (first|(go_at_call 45;refine sC (zo _ _ _ _) ?_)|(go_at_call 88;refine sC (qh _ _ _) ?_))
        go_ret;exact⟨zI ⟨b.out,.inr c.out,.inr ⟨a.out,.inl ⟨rfl,rfl⟩⟩⟩,zl bZ _⟩
       ·have j:(be == 0)=false:=by simpa using k1
        have f:=hI k1;clear k1;go_enter Tryz.func55,Tryz.ntmps55;go_wp2_with (first|(go_at_call 45;refine sC (zo _ _ _ _) ?_)|(go_at_call 88;refine sC (qh _ _ _) ?_))
        go_ret;exact⟨zk (fun h=>by rcases h.2.2 with h|h;exact d.out h.1;rcases h.2 with h|h;exact f.out h.2;cases h.1),zl bZ _⟩
      | false =>
       by_cases k3:In be 1 4
       ·have l:decide (In be 1 4)=true:=decide_eq_true k3
        have g:=hI k3;clear k3;go_enter Tryz.func55,Tryz.ntmps55;go_wp2_with (first|(go_at_call 45;refine sC (zo _ _ _ _) ?_)|(go_at_call 88;refine sC (qh _ _ _) ?_))
        go_ret;exact⟨zI ⟨b.out,.inr c.out,.inr ⟨a.out,.inr ⟨rfl,g.out⟩⟩⟩,zl bZ _⟩
       ·have l:decide (In be 1 4)=false:=decide_eq_false k3
        have g:=hI k3;clear k3;go_enter Tryz.func55,Tryz.ntmps55;go_wp2_with (first|(go_at_call 45;refine sC (zo _ _ _ _) ?_)|(go_at_call 88;refine sC (qh _ _ _) ?_))
        go_ret;exact⟨zk (fun h=>by rcases h.2.2 with h|h;exact d.out h.1;rcases h.2 with h|h;cases h.1;exact g.out h.2),zl bZ _⟩
     ·have k:decide (In cl 1 3)=false:=decide_eq_false k2
      have a:=hI k2;clear k2;go_enter Tryz.func55,Tryz.ntmps55;go_wp2_with (first|(go_at_call 45;refine sC (zo _ _ _ _) ?_)|(go_at_call 88;refine sC (qh _ _ _) ?_))
      go_ret;exact⟨zk (fun h=>by rcases h.2.2 with h|h;exact d.out h.1;exact a.out h.1),zl bZ _⟩
   ·have n:decide (zav len hei)=false:=decide_eq_false h3
    have c:=hI h3;clear h3;go_enter Tryz.func55,Tryz.ntmps55;go_wp2_with (first|(go_at_call 45;refine sC (zo _ _ _ _) ?_)|(go_at_call 88;refine sC (qh _ _ _) ?_))
    go_ret;exact⟨zk (fun h=>by rcases h.2.1 with h|h;exact o.out h.1;exact c.out h),zl bZ _⟩
 ·have p:decide (In pe 1 20)=false:=decide_eq_false h1
  have b:=hI h1;clear h1;go_enter Tryz.func55,Tryz.ntmps55;go_wp2_with (first|(go_at_call 45;refine sC (zo _ _ _ _) ?_)|(go_at_call 88;refine sC (qh _ _ _) ?_))
  go_ret;exact⟨zk (fun h=>b.out h.1),zl bZ _⟩
theorem zF (k:Int)(w:World):Calls Tryz.prog 100 #[int i64 k] w fun e w'=>e=.returned (.bool (decide (In k 4 8)))/\w'=w:=by
 go_enter Tryz.func100,Tryz.ntmps100;go_wp2_with (first|(go_at_call 45;refine sC (zo _ _ _ _) ?_))
 go_ret;exact⟨rfl,rfl⟩
theorem zL (k:Int)(w:World):Calls Tryz.prog 99 #[int i64 k] w fun e w'=>e=.returned (.bool (decide (zO k)))/\w'=w:=by
 obtain⟨c,d⟩:∃ c,c=decide (zO k):=⟨_,rfl⟩;rw[← d];have b:=hI d;clear d
 by_cases h1:k=1
 ·have a:Hid (c=true):=by rw[b.out];exact decide_eq_true (.inl h1)
  subst h1;go_enter Tryz.func99,Tryz.ntmps99;go_wp2;go_ret;exact⟨by rw[a.out];rfl,rfl⟩
 ·have e1:(k == 1)=false:=by simpa using h1
  by_cases h2:k=2
  ·have a:Hid (c=true):=by rw[b.out];exact decide_eq_true (.inr (.inl h2))
   subst h2;go_enter Tryz.func99,Tryz.ntmps99;go_wp2;go_ret;exact⟨by rw[a.out];rfl,rfl⟩
  ·have e2:(k == 2)=false:=by simpa using h2
   by_cases h3:k=3
   ·have a:Hid (c=true):=by rw[b.out];exact decide_eq_true (.inr (.inr (.inl h3)))
    subst h3;go_enter Tryz.func99,Tryz.ntmps99;go_wp2;go_ret;exact⟨by rw[a.out];rfl,rfl⟩
   ·have e3:(k == 3)=false:=by simpa using h3
    by_cases h5:k=5
    ·have a:Hid (c=true):=by rw[b.out];exact decide_eq_true (.inr (.inr (.inr h5)))
     subst h5;go_enter Tryz.func99,Tryz.ntmps99;go_wp2;go_ret;exact⟨by rw[a.out];rfl,rfl⟩
    ·have e5:(k == 5)=false:=by simpa using h5
     have a:Hid (c=false):=by rw[b.out];exact decide_eq_false (fun h=>by rcases h with h|h|h|h;exact h1 h;exact h2 h;exact h3 h;exact h5 h)
     clear h1 h2 h3 h5;go_enter Tryz.func99,Tryz.ntmps99;go_wp2;go_ret;exact⟨by rw[a.out];rfl,rfl⟩
def noOpD (x:Int):OpD:=⟨x,⟨#[]⟩,0,0,fun _=>0,0,0,0,0,false,0,0,0⟩
def DrewOp (w:World)(f:Nat)(h:Option Addr)(n c a:Nat)(e:Ending)(w':World):Prop :=
 (∃ (y:OpD) (d:Option Addr) (g:Nat),e=.returned (.agg (zah y (.slice d y.lgn g)))/\y.own.size<=10/\y.lgn<=7/\w'.ownsRow w.heap.size 3 1 (.slice d y.lgn g) y.lgn (zw y.lg y.lgn))/\CurIs w' f h n c (a+300)/\zA w w' (fun b=>b=f)
theorem own_form' {w:World}{base e size n m c:Nat}{b:Option Addr}{f:List Value}(h:w.ownsRow base e size (.slice b m c) n f):b=none->m=0/\c=0:=by
 intro d
 rcases h.2 with⟨a,_⟩|⟨g,cap,cur,a,_⟩
 ·cases a;exact⟨rfl,rfl⟩
 ·cases a;cases d
theorem intList_3 (F:Nat->Int)(m:Nat):zw (zfM (zfM (zfM F m 1) (m+1) 1) (m+2) 1) (m+3)=zw F m++[int i64 1,int i64 1,int i64 1]:=by
 rw[ZL,ZL,ZL];simp
theorem zgw {u:World}{base:Nat}(h:base<=u.heap.size)(x:Int):(u.alloc (.cells #[int i64 x] 3)).ownsRow base 3 1 (.slice (some ⟨u.heap.size,0,none⟩) 1 1) 1 (zw (fun _=>x) 1) :=
 ⟨rfl,.inr ⟨u.heap.size,1,#[int i64 x],rfl,h,heap_alloc_new u _,Nat.le_refl _,by decide,rfl,rfl⟩⟩
theorem op_any (A:Nat)(D:Option Addr)(n c a:Nat)(t P O:Option Addr)(N cs M cl R z:Nat)(S:Nat->Sail)(w:World)(ha:a<=600000000000000000)(hN:N<=1000)(hR:R<=1000)(h:CurIs w A D n c a)(hz:∀ u,zA w u (fun b=>b=A)->SailsAt u t N S) :
  Calls Tryz.prog 66 #[.pointer (some ⟨A,0,none⟩),.agg #[.slice t N cs,.slice P M cl,.slice O R z]] w fun e w'=>DrewOp w A D n c a e w':=by
 have HZ:=hI hz;have l:=h.lt;have T:=hI h.code_lt;clear hz;have a3:Below w.heap.size w ((w.alloc (.cells #[.slice t N cs,.slice P M cl,.slice O R z] 27)).alloc (.cells #[int i64 0,.string ⟨#[]⟩,int i64 0,.slice none 0 0,int i64 0,int i64 0,int i64 0,int i64 0,.bool false,int i64 0,int i64 0,int i64 0] 120)):=zl (zl bZ _) _;have bO:=zc (heap_alloc_new w (.cells #[.slice t N cs,.slice P M cl,.slice O R z] 27)) (.cells #[int i64 0,.string ⟨#[]⟩,int i64 0,.slice none 0 0,int i64 0,int i64 0,int i64 0,int i64 0,.bool false,int i64 0,int i64 0,int i64 0] 120);have bR:=zbZ w (.cells #[.slice t N cs,.slice P M cl,.slice O R z] 27) (.cells #[int i64 0,.string ⟨#[]⟩,int i64 0,.slice none 0 0,int i64 0,int i64 0,int i64 0,int i64 0,.bool false,int i64 0,int i64 0,int i64 0] 120);have a9:((w.alloc (.cells #[.slice t N cs,.slice P M cl,.slice O R z] 27)).alloc (.cells #[int i64 0,.string ⟨#[]⟩,int i64 0,.slice none 0 0,int i64 0,int i64 0,int i64 0,int i64 0,.bool false,int i64 0,int i64 0,int i64 0] 120)).heap.size=w.heap.size+1+1:=by simp
 go_enter Tryz.func66,Tryz.ntmps66;go_wp2_with fail;generalize ((w.alloc (.cells #[.slice t N cs,.slice P M cl,.slice O R z] 27)).alloc (.cells #[int i64 0,.string ⟨#[]⟩,int i64 0,.slice none 0 0,int i64 0,int i64 0,int i64 0,int i64 0,.bool false,int i64 0,int i64 0,int i64 0] 120))=V at a3 bO bR a9 ⊢;have a1:Below V.heap.size V (V.alloc (.cells ([1,2,2,3,3,3,3,4,5,5,6,7,8,9].map (fun x=>Value.int .i64 x)).toArray 3)):=zl bZ _
 have bL:(V.alloc (.cells ([1,2,2,3,3,3,3,4,5,5,6,7,8,9].map (fun x=>Value.int .i64 x)).toArray 3)).heap[w.heap.size+1+1]?=some (.cells ([1,2,2,3,3,3,3,4,5,5,6,7,8,9].map (fun x=>Value.int .i64 x)).toArray 3 (0,0)):=a9 ▸ heap_alloc_new V _
 refine(amongL A D n c a 14 [1,2,2,3,3,3,3,4,5,5,6,7,8,9] _ rfl (by omega) (by omega) (by omega) ((h.below a3).below a1) _ bL (by omega)).mono ?_
 rintro e w1 ⟨⟨x,rfl⟩,e1,a0⟩;have b6:=a0.blk (zb bO a1) (by omega)
 have b7:=a0.blk (zb bR a1) (by omega)
 have e6:=a0.size;have e0:zA w w1 (fun b=>b=A):=(zA.of_below (zf a3 a1)).trans a0
 have e7:w.heap.size+1<w1.heap.size:=by simp at e6;omega
 have a2:Z6 w (w1.alloc (.cells #[int i64 x,.string ⟨#[]⟩,int i64 0,.slice none 0 0,int i64 0,int i64 0,int i64 0,int i64 0,.bool false,int i64 0,int i64 0,int i64 0] 120)) A D n c (a+2) w1.heap.size (.slice t N cs) (.slice P M cl) (.slice O R z) (noOpD x) (.slice none 0 0) :=
  ⟨e1.below (zl bZ _),e0.trans (zA.of_below (zl bZ _)),e7,zc b6 _,zc b7 _,heap_alloc_new _ _,⟨rfl,.inl ⟨rfl,rfl⟩⟩⟩
 clear a1 bL a3 bO bR a9 e1 a0 b6 b7 e6 e0 h e7;go_wp2_with fail;generalize w1.alloc (.cells #[int i64 x,.string ⟨#[]⟩,int i64 0,.slice none 0 0,int i64 0,int i64 0,int i64 0,int i64 0,.bool false,int i64 0,int i64 0,int i64 0] 120)=u0 at a2 ⊢;generalize w1.heap.size=C at a2 ⊢;have HP:=hI a2;clear a2;refine(zL _ _).mono ?_;rintro e w' ⟨rfl,Y⟩;have Y:=Y.symm;subst Y;go_upto_if 12 with fail;go_cut [] (fun wx=>∃ (y:OpD) (m:Option Addr) (o:Nat),y.own.size<=10/\y.lgn<=4/\Hid (Z6 w wx A D n c (a+120) C (.slice t N cs) (.slice P M cl) (.slice O R z) y (.slice m y.lgn o)))
 case first =>
  by_cases hl:zO x
  ·have d1:decide (zO x)=true:=decide_eq_true hl
   have o0:=za HP.out.off 0 _ rfl;go_wp2_with fail;refine(zdG A D n c (a+2) t N cs S u0 (by omega) hN HP.out.cur (fun u hu=>HZ.out u (HP.out.kept.trans hu))).mono ?_
   rintro e u1 ⟨⟨v,k,F,j3,rfl,ho⟩,f,g⟩;obtain⟨av,cv,rfl,_,_,_⟩:=zr ho;have d:=hI (HP.out.on l f g);have b5:=hI (zC ho HP.out.kept.size);clear HP f g ho o0;have g3:=za d.out.box 3 _ rfl;have f3:=ze d.out.box 3;go_wp2_with fail;have H:Hid (Z6 w (u1.setCell ⟨C,3,none⟩ (.slice av k cv)) A D n c (a+2+60) C (.slice t N cs) (.slice P M cl) (.slice O R z) { noOpD x with lgn:=k,lg:=F } (.slice av k cv)):=d.out.put3 l T.out _ k F b5.out;generalize u1.setCell ⟨C,3,none⟩ (.slice av k cv)=u2 at H ⊢;clear g3 f3 d b5;refine(zeK A D n c (a+2+60) u2 (by omega) H.out.cur).mono ?_
   rintro e u3 ⟨⟨x0,x1,x2,x3,x4,x5,rfl⟩,f,g⟩;have p:=hI (H.out.on l f g);clear H f g;have g4:=za p.out.box 4 _ rfl;have g5:=za p.out.box 5 _ rfl;have g6:=za p.out.box 6 _ rfl;have g7:=za p.out.box 7 _ rfl;have g8:=za p.out.box 8 _ rfl;have g9:=za p.out.box 9 _ rfl;have f4:=ze p.out.box 4;have f5:=ze p.out.box 5;have f6:=ze p.out.box 6;have f7:=ze p.out.box 7;have f8:=ze p.out.box 8;have f9:=ze p.out.box 9;go_wp2;go_meet;exact⟨{ noOpD x with lgn:=k,lg:=F,pe:=x0,len:=x1,hei:=x2,cl:=x3,all:=x4,be:=x5 },av,cv,Nat.zero_le _,j3,(p.out.putP l T.out x0 x1 x2 x3 x4 x5).more (by omega)⟩
  ·have d1:decide (zO x)=false:=decide_eq_false hl
   go_wp2;go_meet;exact⟨noOpD x,none,0,Nat.zero_le _,Nat.zero_le _,HP.out.more (by omega)⟩
 case rest =>
  obtain⟨y,m,o,I,J,X⟩:=hcut;clear HP;have g0:wc.cell? ⟨C,0,none⟩=some (int i64 y.kind):=za X.out.box 0 _ rfl;go_wp2_with fail;refine(zF _ _).mono ?_;rintro e w' ⟨rfl,Y⟩;have Y:=Y.symm;subst Y;go_upto_if 23 with fail;clear g0;go_cut [] (fun wx=>∃ (y:OpD) (m:Option Addr) (o:Nat),y.own.size<=10/\y.lgn<=4/\Hid (Z6 w wx A D n c (a+130) C (.slice t N cs) (.slice P M cl) (.slice O R z) y (.slice m y.lgn o)))
  case first =>
   by_cases hn4:In y.kind 4 8
   ·have d1:decide (In y.kind 4 8)=true:=decide_eq_true hn4
    have o2:=za X.out.off 2 _ rfl;have wR:IntKind.i64.wrap ((R:Int)+1)=((R+1:Nat):Int):=by rw[IntKind.wrap_i64];omega
    go_wp2_with fail;refine(pick_any A D n c (a+120) (R+1) _ (by omega) (by omega) (by omega) X.out.cur).mono ?_
    rintro e u1 ⟨⟨r,rfl,hr⟩,f,g⟩;have d:=hI (X.out.on l f g);clear X f g;have j9:IntKind.i64.wrap (1+(r:Int))=1+(r:Int):=by rw[IntKind.wrap_i64];omega
    clear o2;have g2:=za d.out.box 2 _ rfl;have f2:=ze d.out.box 2;go_wp2_with fail;have H:Hid (Z6 w (u1.setCell ⟨C,2,none⟩ (int i64 (1+(r:Int)))) A D n c (a+120+2) C (.slice t N cs) (.slice P M cl) (.slice O R z) { y with name:=1+(r:Int) } (.slice m y.lgn o)):=d.out.put2 l T.out _;generalize u1.setCell ⟨C,2,none⟩ (int i64 (1+(r:Int)))=u2 at H ⊢;clear g2 f2 d j9;refine(one_any A D n c (a+120+2) 20 _ (by omega) (by omega) (by omega) H.out.cur).mono ?_
    rintro e u3 ⟨⟨tb,rfl⟩,f,g⟩;have p:=hI (H.out.on l f g);clear H f g
    cases tb with
    | false =>
     go_wp2;go_meet;exact⟨{ y with name:=1+(r:Int) },m,o,I,J,p.out.more (by omega)⟩
    | true =>
     go_wp2_with fail;have G:Hid (Z6 w (u3.alloc (.cells ([0,30,31].map (fun x=>Value.int .i64 x)).toArray 3)) A D n c (a+120+2+2) C (.slice t N cs) (.slice P M cl) (.slice O R z) { y with name:=1+(r:Int) } (.slice m y.lgn o)):=p.out.below (zl bZ _)
     have K:=p.out.cur.lt;refine(amongL A D n c (a+120+2+2) 3 [0,30,31] _ rfl (by omega) (by omega) (by omega) G.out.cur u3.heap.size (heap_alloc_new u3 _) (by omega)).mono ?_
     rintro e u4 ⟨⟨q,rfl⟩,f,g⟩;have W:=hI (G.out.on l f g);clear G f g K p;have g2:=za W.out.box 2 _ rfl;have f2:=ze W.out.box 2;go_wp2;go_meet;exact⟨{ y with name:=q },m,o,I,J,(W.out.put2 l T.out q).more (by omega)⟩
   ·have d1:decide (In y.kind 4 8)=false:=decide_eq_false hn4
    go_wp2;go_meet;exact⟨y,m,o,I,J,X.out.more (by omega)⟩
  case rest =>
   obtain⟨y,m,o,I,J,B⟩:=hcut;clear X;have g0:wc.cell? ⟨C,0,none⟩=some (int i64 y.kind):=za B.out.box 0 _ rfl;go_upto_block 0 with fail;go_cut [] (fun wx=>∃ (y:OpD) (m:Option Addr) (o:Nat),y.own.size<=10/\y.lgn<=4/\Hid (Z6 w wx A D n c (a+140) C (.slice t N cs) (.slice P M cl) (.slice O R z) y (.slice m y.lgn o)))
   case first =>
    by_cases c2:y.kind=2
    ·have d2:(y.kind == 2)=true:=by simpa using c2
     clear c2;go_wp2_with fail;have G:Hid (Z6 w (wc.alloc (.cells (([⟨#[65,110,110]⟩,⟨#[66,111]⟩]:List ByteArray).map Value.string).toArray 9)) A D n c (a+130) C (.slice t N cs) (.slice P M cl) (.slice O R z) y (.slice m y.lgn o)):=B.out.below (zl bZ _);have K:=B.out.cur.lt;refine(ofL A D n c (a+130) 2 [⟨#[65,110,110]⟩,⟨#[66,111]⟩] _ rfl (by omega) (by omega) (by omega) G.out.cur wc.heap.size (heap_alloc_new wc _) (by omega)).mono ?_
     rintro e u1 ⟨⟨s,rfl,Q⟩,f,g⟩;have d:=hI (G.out.on l f g);clear G f g K B;have Z:s.size<=10:=by
      have h1:=Q.out;simp only[List.mem_cons,List.not_mem_nil,or_false] at h1
      rcases h1 with rfl|rfl <;> decide
     clear Q;have g1:=za d.out.box 1 _ rfl;have f1:=ze d.out.box 1;go_wp2_with fail;have H:Hid (Z6 w (u1.setCell ⟨C,1,none⟩ (.string s)) A D n c (a+130+2) C (.slice t N cs) (.slice P M cl) (.slice O R z) { y with own:=s } (.slice m y.lgn o)):=d.out.put1 l T.out _;generalize u1.setCell ⟨C,1,none⟩ (.string s)=u2 at H ⊢;clear g1 f1 d;refine(pick_any A D n c (a+130+2) 50 _ (by omega) (by omega) (by omega) H.out.cur).mono ?_
     rintro e u3 ⟨⟨r,rfl,hr⟩,f,g⟩;have p:=hI (H.out.on l f g);clear H f g;have j0:=za p.out.box 10 _ rfl;have h6:=ze p.out.box 10;go_wp2;go_meet;exact⟨{ y with own:=s,unt:=r },m,o,Z,J,(p.out.put10 l T.out _).more (by omega)⟩
    ·have d2:(y.kind == 2)=false:=by simpa using c2
     by_cases c3:y.kind=3
     ·have d3:(y.kind == 3)=true:=by simpa using c3
      clear c3;go_wp2_with fail;have G:Hid (Z6 w (wc.alloc (.cells (([⟨#[65,110,110]⟩,⟨#[66,111]⟩,⟨#[67,121]⟩]:List ByteArray).map Value.string).toArray 9)) A D n c (a+130) C (.slice t N cs) (.slice P M cl) (.slice O R z) y (.slice m y.lgn o)):=B.out.below (zl bZ _);have K:=B.out.cur.lt;refine(ofL A D n c (a+130) 3 [⟨#[65,110,110]⟩,⟨#[66,111]⟩,⟨#[67,121]⟩] _ rfl (by omega) (by omega) (by omega) G.out.cur wc.heap.size (heap_alloc_new wc _) (by omega)).mono ?_
      rintro e u1 ⟨⟨s,rfl,Q⟩,f,g⟩;have d:=hI (G.out.on l f g);clear G f g K B;have Z:s.size<=10:=by
       have h1:=Q.out;simp only[List.mem_cons,List.not_mem_nil,or_false] at h1
       rcases h1 with rfl|rfl|rfl <;> decide
      clear Q;have g1:=za d.out.box 1 _ rfl;have f1:=ze d.out.box 1;go_wp2;go_meet;exact⟨{ y with own:=s },m,o,Z,J,(d.out.put1 l T.out _).more (by omega)⟩
     ·have d3:(y.kind == 3)=false:=by simpa using c3
      by_cases c7:y.kind=7
      ·have d7:(y.kind == 7)=true:=by simpa using c7
       clear c7;go_wp2_with fail;have G:Hid (Z6 w (wc.alloc (.cells (([⟨#[65,110,110]⟩,⟨#[66,111]⟩,⟨#[67,121]⟩]:List ByteArray).map Value.string).toArray 9)) A D n c (a+130) C (.slice t N cs) (.slice P M cl) (.slice O R z) y (.slice m y.lgn o)):=B.out.below (zl bZ _);have K:=B.out.cur.lt;refine(ofL A D n c (a+130) 3 [⟨#[65,110,110]⟩,⟨#[66,111]⟩,⟨#[67,121]⟩] _ rfl (by omega) (by omega) (by omega) G.out.cur wc.heap.size (heap_alloc_new wc _) (by omega)).mono ?_
       rintro e u1 ⟨⟨s,rfl,Q⟩,f,g⟩;have d:=hI (G.out.on l f g);clear G f g K B;have Z:s.size<=10:=by
        have h1:=Q.out;simp only[List.mem_cons,List.not_mem_nil,or_false] at h1
        rcases h1 with rfl|rfl|rfl <;> decide
       clear Q;have g1:=za d.out.box 1 _ rfl;have f1:=ze d.out.box 1;go_wp2;go_meet;exact⟨{ y with own:=s },m,o,Z,J,(d.out.put1 l T.out _).more (by omega)⟩
      ·have d7:(y.kind == 7)=false:=by simpa using c7
       by_cases c8:y.kind=8
       ·have d8:(y.kind == 8)=true:=by simpa using c8
        clear c8;go_wp2_with fail;refine(pick_any A D n c (a+130) 80 _ (by omega) (by omega) (by omega) B.out.cur).mono ?_
        rintro e u1 ⟨⟨r,rfl,hr⟩,f,g⟩;have d:=hI (B.out.on l f g);clear B f g;have d5:=za d.out.box 11 _ rfl;have b8:=ze d.out.box 11;go_wp2;go_meet;exact⟨{ y with now:=r },m,o,I,J,(d.out.put11 l T.out _).more (by omega)⟩
       ·have d8:(y.kind == 8)=false:=by simpa using c8
        by_cases c6:y.kind=6
        ·have d6:(y.kind == 6)=true:=by simpa using c6
         clear c6;go_wp2_with fail;refine(pick_any A D n c (a+130) 80 _ (by omega) (by omega) (by omega) B.out.cur).mono ?_
         rintro e u1 ⟨⟨r,rfl,hr⟩,f,g⟩;have d:=hI (B.out.on l f g);clear B f g;have d5:=za d.out.box 11 _ rfl;have b8:=ze d.out.box 11;go_wp2;go_meet;exact⟨{ y with now:=r },m,o,I,J,(d.out.put11 l T.out _).more (by omega)⟩
        ·have d6:(y.kind == 6)=false:=by simpa using c6
         by_cases c9:y.kind=9
         ·have d9:(y.kind == 9)=true:=by simpa using c9
          clear c9;have G:Hid (Z6 w (wc.alloc (.cells #[int i64 1] 3)) A D n c (a+130) C (.slice t N cs) (.slice P M cl) (.slice O R z) y (.slice m y.lgn o)):=B.out.below (zl bZ _);have b0:w.heap.size<=wc.heap.size:=B.out.kept.size;have HO:=hI (zgw b0 1);clear B;have g3:=za G.out.box 3 _ rfl;have f3:=ze G.out.box 3;have o0:=za G.out.off 0 _ rfl;go_upto_region 21 with fail;have d:Hid (Z6 w ((wc.alloc (.cells #[int i64 1] 3)).setCell ⟨C,3,none⟩ (.slice (some ⟨wc.heap.size,0,none⟩) 1 1)) A D n c (a+130) C (.slice t N cs) (.slice P M cl) (.slice O R z) { y with lgn:=1,lg:=fun _=>1 } (.slice (some ⟨wc.heap.size,0,none⟩) 1 1)):=G.out.put3 l T.out _ 1 (fun _=>1) HO.out
          generalize (wc.alloc (.cells #[int i64 1] 3)).setCell ⟨C,3,none⟩ (.slice (some ⟨wc.heap.size,0,none⟩) 1 1)=u1 at d ⊢;generalize wc.heap.size=gl at d ⊢;clear g3 f3 G HO o0 g0;have o0:=za d.out.off 0 _ rfl
          by_cases hN0:0<N
          ·have i0:(0:Int)<(N:Int):=by omega
           go_wp2_with fail;refine(one_any A D n c (a+130) 8 _ (by omega) (by omega) (by omega) d.out.cur).mono ?_
           rintro e u2 ⟨⟨tb,rfl⟩,f,g⟩;have H:=hI (d.out.on l f g);clear d f g
           cases tb with
           | true =>
            go_wp2;go_meet;exact⟨{ y with lgn:=1,lg:=fun _=>1 },some ⟨gl,0,none⟩,1,I,(show 1<=4 by decide),H.out.more (by omega)⟩
           | false =>
            clear o0;have o0:=za H.out.off 0 _ rfl;have l3:IntKind.i64.wrap (N:Int)=(N:Int):=by rw[IntKind.wrap_i64];omega
            have HD:Hid (Z6 w u2.drew A D n c (a+130+2) C (.slice t N cs) (.slice P M cl) (.slice O R z) { y with lgn:=1,lg:=fun _=>1 } (.slice (some ⟨gl,0,none⟩) 1 1)):=H.out.below bZ.drew
            have l4:=za HD.out.off 0 _ rfl;go_upto_region 22 with fail;go_region_with (first|(go_at_call 63;refine Calls.mono (pick_any A D n c (a+130+2) N _ (by omega) (by omega) (by omega) HD.out.cur) ?_;rintro e u3 ⟨⟨r,rfl,hr⟩,f,g⟩;have p:=hI (HD.out.on l f g);obtain⟨l5,so,la,lc,ca,cc,he,s0,_⟩:=HZ.out u3 p.out.kept r hr;subst he;have j1:(r:Int)<(N:Int):=(by omega);have o3:=za p.out.off 0 _ rfl;have W:Hid (Z6 w (u3.alloc (.cells #[int i64 (S r).id] 3)) A D n c (a+130+2+2) C _ (.slice P M cl) (.slice O R z) { y with lgn:=1,lg:=fun _=>1 } (.slice (some ⟨gl,0,none⟩) 1 1)):=p.out.below (zl bZ _);have g3:=za W.out.box 3 _ rfl;have f3:=ze W.out.box 3;clear f g))
            all_goals go_wp2
            all_goals go_meet
            all_goals exact⟨{ y with lgn:=1,lg:=fun _=>(S r).id },some ⟨u3.heap.size,0,none⟩,1,I,(show 1<=4 by decide),(W.out.put3 l T.out _ 1 (fun _=>(S r).id) (zgw p.out.kept.size _)).more (by omega)⟩
          ·have i0:¬ (0:Int)<(N:Int):=by omega
           go_wp2;go_meet;exact⟨{ y with lgn:=1,lg:=fun _=>1 },some ⟨gl,0,none⟩,1,I,(show 1<=4 by decide),d.out.more (by omega)⟩
         ·have d9:(y.kind == 9)=false:=by simpa using c9
          go_wp2;go_meet;exact⟨y,m,o,I,J,B.out.more (by omega)⟩
   case rest =>
    obtain⟨y,m,o,I,J,a5⟩:=hcut;clear B g0;go_wp2_with fail;refine(pick_any A D n c (a+140) 80 _ (by omega) (by omega) (by omega) a5.out.cur).mono ?_
    rintro e L ⟨⟨r6,rfl,l2⟩,f,g⟩;have E:=hI (a5.out.on l f g);clear a5 f g;go_upto_block 1 with fail;go_cut [] (fun wx=>∃ (y:OpD) (m:Option Addr) (o:Nat),y.own.size<=10/\y.lgn<=7/\Hid (Z6 w wx A D n c (a+300) C (.slice t N cs) (.slice P M cl) (.slice O R z) y (.slice m y.lgn o)))
    case first =>
     by_cases c0:r6=0
     ·subst c0
      go_wp2_with fail;have G:Hid (Z6 w (L.alloc (.cells ([0,10].map (fun x=>Value.int .i64 x)).toArray 3)) A D n c (a+140+2) C (.slice t N cs) (.slice P M cl) (.slice O R z) y (.slice m y.lgn o)):=E.out.below (zl bZ _)
      have K:=E.out.cur.lt;refine(amongL A D n c (a+140+2) 2 [0,10] _ rfl (by omega) (by omega) (by omega) G.out.cur L.heap.size (heap_alloc_new L _) (by omega)).mono ?_
      rintro e u1 ⟨⟨q,rfl⟩,f,g⟩;have d:=hI (G.out.on l f g);clear G f g K E;have g0:=za d.out.box 0 _ rfl;have f0:=ze d.out.box 0;go_wp2;go_meet;exact⟨{ y with kind:=q },m,o,I,Nat.le_trans J (by decide),(d.out.put0 l T.out q).more (by omega)⟩
     ·have d0:((r6:Int) == 0)=false:=by simpa using(show ¬ (r6:Int)=0 by omega)
      by_cases c1:r6=1
      ·subst c1
       go_wp2_with fail;have G:Hid (Z6 w (L.alloc (.cells (([⟨#[]⟩,⟨#[65,49]⟩,⟨#[65,110,110]⟩]:List ByteArray).map Value.string).toArray 9)) A D n c (a+140+2) C (.slice t N cs) (.slice P M cl) (.slice O R z) y (.slice m y.lgn o)):=E.out.below (zl bZ _);have K:=E.out.cur.lt;refine(ofL A D n c (a+140+2) 3 [⟨#[]⟩,⟨#[65,49]⟩,⟨#[65,110,110]⟩] _ rfl (by omega) (by omega) (by omega) G.out.cur L.heap.size (heap_alloc_new L _) (by omega)).mono ?_
       rintro e u1 ⟨⟨s,rfl,Q⟩,f,g⟩;have d:=hI (G.out.on l f g);clear G f g K E;have Z:s.size<=10:=by
        have h1:=Q.out;simp only[List.mem_cons,List.not_mem_nil,or_false] at h1
        rcases h1 with rfl|rfl|rfl <;> decide
       clear Q;have g1:=za d.out.box 1 _ rfl;have f1:=ze d.out.box 1;go_wp2;go_meet;exact⟨{ y with own:=s },m,o,Z,Nat.le_trans J (by decide),(d.out.put1 l T.out _).more (by omega)⟩
      ·have d1:((r6:Int) == 1)=false:=by simpa using(show ¬ (r6:Int)=1 by omega)
       by_cases c2:r6=2
       ·subst c2
        go_wp2_with fail;have G:Hid (Z6 w (L.alloc (.cells ([-1,0,1,10000,10001].map (fun x=>Value.int .i64 x)).toArray 3)) A D n c (a+140+2) C (.slice t N cs) (.slice P M cl) (.slice O R z) y (.slice m y.lgn o)):=E.out.below (zl bZ _)
        have K:=E.out.cur.lt;refine(amongL A D n c (a+140+2) 5 [-1,0,1,10000,10001] _ rfl (by omega) (by omega) (by omega) G.out.cur L.heap.size (heap_alloc_new L _) (by omega)).mono ?_
        rintro e u1 ⟨⟨q,rfl⟩,f,g⟩;have d:=hI (G.out.on l f g);clear G f g K E;have j0:=za d.out.box 10 _ rfl;have h6:=ze d.out.box 10;go_wp2;go_meet;exact⟨{ y with unt:=q },m,o,I,Nat.le_trans J (by decide),(d.out.put10 l T.out q).more (by omega)⟩
       ·have d2:((r6:Int) == 2)=false:=by simpa using(show ¬ (r6:Int)=2 by omega)
        by_cases c3:r6=3
        ·subst c3
         go_wp2_with fail;have G:Hid (Z6 w (L.alloc (.cells ([-1,10000,10001].map (fun x=>Value.int .i64 x)).toArray 3)) A D n c (a+140+2) C (.slice t N cs) (.slice P M cl) (.slice O R z) y (.slice m y.lgn o)):=E.out.below (zl bZ _)
         have K:=E.out.cur.lt;refine(amongL A D n c (a+140+2) 3 [-1,10000,10001] _ rfl (by omega) (by omega) (by omega) G.out.cur L.heap.size (heap_alloc_new L _) (by omega)).mono ?_
         rintro e u1 ⟨⟨q,rfl⟩,f,g⟩;have d:=hI (G.out.on l f g);clear G f g K E;have d5:=za d.out.box 11 _ rfl;have b8:=ze d.out.box 11;go_wp2;go_meet;exact⟨{ y with now:=q },m,o,I,Nat.le_trans J (by decide),(d.out.put11 l T.out q).more (by omega)⟩
        ·have d3:((r6:Int) == 3)=false:=by simpa using(show ¬ (r6:Int)=3 by omega)
         by_cases c4:r6=4
         ·subst c4
          obtain⟨n0,ni,e8,e9,h0⟩:=info_parts Tryz.infoInt;have e4:(L.alloc (.cells #[] 3)).ownsRow L.heap.size 3 1 (.slice (some ⟨L.heap.size,0,none⟩) 0 0) 0 []:=⟨rfl,.inr ⟨L.heap.size,0,#[],rfl,Nat.le_refl _,heap_alloc_new L _,Nat.le_refl _,Nat.zero_le _,rfl,rfl⟩⟩;have h4:Hid (∀ ad,m=some ad->∀ j u,(zw y.lg y.lgn)[j]?=some u->(L.alloc (.cells #[] 3)).cell? (ad.add j)=some u):=qE ((own_ints E.out.legs).below (zl bZ _));have h5:=hI ((own_form' E.out.legs));have g3:(L.alloc (.cells #[] 3)).cell? ⟨C,3,none⟩=some (.slice m y.lgn o):=za (zc E.out.box _) 3 _ rfl;have b0:w.heap.size<=L.heap.size:=E.out.kept.size;go_wp2_with (first|(at_builtin;refine zu _ (by rfl) (.tmp 115) (.tmp 117) 37 (by rfl) L.heap.size 3 n0 (int i64 0) 1 8 Tryz.underlying37 ni e8 e9 h0 rfl (by decide) _ 0 [] (by rfl) e4 m y.lgn o (zw y.lg y.lgn) (by rfl) h5.out (by rw[zW,Nat.mul_one]) h4.out (intList_one _ _) (by unfold maxLen;omega) (by omega) (by first|exact Nat.le_refl _|(simp;done)|(simp;omega)) ?_;intro v4 w4 a8 e2;have a7:Hid (Below L.heap.size L w4):=(zl (Below.refl L.heap.size L) (.cells #[] 3)).grown e2 (by simp) (fun j hj=>(e4.lt j hj).1);rw[Nat.zero_add,List.nil_append] at a8;clear e2)|(at_builtin;refine zu _ (by rfl) (.tmp 118) (.tmp 119) 37 (by rfl) L.heap.size 3 n0 (int i64 0) 1 8 Tryz.underlying37 ni e8 e9 h0 rfl (by decide) _ y.lgn (zw y.lg y.lgn) (by rfl) (a8.alloc _) (some ⟨w4.heap.size,0,none⟩) 3 3 [int i64 1,int i64 1,int i64 1] (by rfl) (fun h=>by cases h) (by rfl) (fun ad e=>by cases e;exact World.news_of_block (heap_alloc_new w4 _)) (by intro v hv;simp at hv;subst hv;rfl) (by unfold maxLen;omega) (by omega) (by have:=a7.out.size;simp;omega) ?_;intro v5 w5 e5 e3;have j2:Hid (Below L.heap.size L w5):=(zl a7.out (.cells #[int i64 1,int i64 1,int i64 1] 3)).grown e3 (by have:=a7.out.size;simp;omega) (fun j hj=>(a8.lt j hj).1);obtain⟨av,cv,j4,_⟩:=zr e5;subst j4;have a6:=hI (E.out.below j2.out);have l1:w5.cell? ⟨C,3,none⟩=some (.slice m y.lgn o):=za a6.out.box 3 _ rfl;have l0:=ze a6.out.box 3;clear e3))
          go_meet;exact⟨{ y with lgn:=y.lgn+3,lg:=zfM (zfM (zfM y.lg y.lgn 1) (y.lgn+1) 1) (y.lgn+2) 1 },av,cv,I,by show y.lgn+3<=7;omega,(a6.out.put3 l T.out _ (y.lgn+3) _ (by rw[intList_3];exact zC e5 b0)).more (by omega)⟩
         ·have d4:((r6:Int) == 4)=false:=by simpa using(show ¬ (r6:Int)=4 by omega)
          go_wp2;go_meet;exact⟨y,m,o,I,Nat.le_trans J (by decide),E.out.more (by omega)⟩
    case rest =>
     obtain⟨y,m,o,I,J,i⟩:=hcut;clear E;have k0:wc.cell? ⟨C,0,none⟩=some (int i64 y.kind):=za i.out.box 0 _ rfl;have m0:=za i.out.res 0 _ rfl;have h9:=ze i.out.res 0;have k1:wc.cell? ⟨C,1,none⟩=some (.string y.own):=za i.out.box 1 _ rfl;have m1:=za i.out.res 1 _ rfl;have i1:=ze i.out.res 1;have k2:wc.cell? ⟨C,2,none⟩=some (int i64 y.name):=za i.out.box 2 _ rfl;have m2:=za i.out.res 2 _ rfl;have i2:=ze i.out.res 2;have k3:wc.cell? ⟨C,3,none⟩=some (.slice m y.lgn o):=za i.out.box 3 _ rfl;have m3:=za i.out.res 3 _ rfl;have i3:=ze i.out.res 3;have k4:wc.cell? ⟨C,4,none⟩=some (int i64 y.pe):=za i.out.box 4 _ rfl;have m4:=za i.out.res 4 _ rfl;have i4:=ze i.out.res 4;have k5:wc.cell? ⟨C,5,none⟩=some (int i64 y.len):=za i.out.box 5 _ rfl;have m5:=za i.out.res 5 _ rfl;have i5:=ze i.out.res 5;have k6:wc.cell? ⟨C,6,none⟩=some (int i64 y.hei):=za i.out.box 6 _ rfl;have m6:=za i.out.res 6 _ rfl;have i6:=ze i.out.res 6;have k7:wc.cell? ⟨C,7,none⟩=some (int i64 y.cl):=za i.out.box 7 _ rfl;have m7:=za i.out.res 7 _ rfl;have i7:=ze i.out.res 7;have k8:wc.cell? ⟨C,8,none⟩=some (.bool y.all):=za i.out.box 8 _ rfl;have m8:=za i.out.res 8 _ rfl;have i8:=ze i.out.res 8;have k9:wc.cell? ⟨C,9,none⟩=some (int i64 y.be):=za i.out.box 9 _ rfl;have m9:=za i.out.res 9 _ rfl;have i9:=ze i.out.res 9;have j5:wc.cell? ⟨C,10,none⟩=some (int i64 y.unt):=za i.out.box 10 _ rfl;have j7:=za i.out.res 10 _ rfl;have b9:=ze i.out.res 10;have j6:wc.cell? ⟨C,11,none⟩=some (int i64 y.now):=za i.out.box 11 _ rfl;have j8:=za i.out.res 11 _ rfl;have c5:=ze i.out.res 11;go_wp2;have U:=i.out.fin l T.out;clear k0 m0 h9 k1 m1 i1 k2 m2 i2 k3 m3 i3 k4 m4 i4 k5 m5 i5 k6 m6 i6 k7 m7 i7 k8 m8 i8 k9 m9 i9 j5 j7 b9 j6 j8 c5;have z0:(zeI wc (w.heap.size+1) y (.slice m y.lgn o)).cell? ⟨w.heap.size+1,0,none⟩=some (int i64 y.kind):=za U.2.2.1 0 _ rfl;have z1:(zeI wc (w.heap.size+1) y (.slice m y.lgn o)).cell? ⟨w.heap.size+1,1,none⟩=some (.string y.own):=za U.2.2.1 1 _ rfl;have z2:(zeI wc (w.heap.size+1) y (.slice m y.lgn o)).cell? ⟨w.heap.size+1,2,none⟩=some (int i64 y.name):=za U.2.2.1 2 _ rfl;have z3:(zeI wc (w.heap.size+1) y (.slice m y.lgn o)).cell? ⟨w.heap.size+1,3,none⟩=some (.slice m y.lgn o):=za U.2.2.1 3 _ rfl;have z4:(zeI wc (w.heap.size+1) y (.slice m y.lgn o)).cell? ⟨w.heap.size+1,4,none⟩=some (int i64 y.pe):=za U.2.2.1 4 _ rfl;have z5:(zeI wc (w.heap.size+1) y (.slice m y.lgn o)).cell? ⟨w.heap.size+1,5,none⟩=some (int i64 y.len):=za U.2.2.1 5 _ rfl;have z6:(zeI wc (w.heap.size+1) y (.slice m y.lgn o)).cell? ⟨w.heap.size+1,6,none⟩=some (int i64 y.hei):=za U.2.2.1 6 _ rfl;have z7:(zeI wc (w.heap.size+1) y (.slice m y.lgn o)).cell? ⟨w.heap.size+1,7,none⟩=some (int i64 y.cl):=za U.2.2.1 7 _ rfl;have z8:(zeI wc (w.heap.size+1) y (.slice m y.lgn o)).cell? ⟨w.heap.size+1,8,none⟩=some (.bool y.all):=za U.2.2.1 8 _ rfl;have z9:(zeI wc (w.heap.size+1) y (.slice m y.lgn o)).cell? ⟨w.heap.size+1,9,none⟩=some (int i64 y.be):=za U.2.2.1 9 _ rfl;have h2:(zeI wc (w.heap.size+1) y (.slice m y.lgn o)).cell? ⟨w.heap.size+1,10,none⟩=some (int i64 y.unt):=za U.2.2.1 10 _ rfl;have h3:(zeI wc (w.heap.size+1) y (.slice m y.lgn o)).cell? ⟨w.heap.size+1,11,none⟩=some (int i64 y.now):=za U.2.2.1 11 _ rfl
     change bodyPost _ _ _ _ _ (zeI wc (w.heap.size+1) y (.slice m y.lgn o))
     generalize zeI wc (w.heap.size+1) y (.slice m y.lgn o)=wE at U z0 z1 z2 z3 z4 z5 z6 z7 z8 z9 h2 h3 ⊢;exact bodyPost_ret (v:=.agg (zah y (.slice m y.lgn o))) (by simp[results,Tryz.results66,go_sem,zah,z0,z1,z2,z3,z4,z5,z6,z7,z8,z9,h2,h3]) rfl ⟨⟨y,m,o,rfl,I,J,U.2.2.2⟩,U.1,U.2.1⟩
end Go.Proofs.YtgmdnkngnhkgbaaGreat
