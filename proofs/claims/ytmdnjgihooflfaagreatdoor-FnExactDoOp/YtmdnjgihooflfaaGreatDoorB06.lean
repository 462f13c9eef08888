/-
  OWN TEXT: ClassI, WishI, PartyI, PlainPr, BandsI, CarI, CabinI.
-/
import Derived.Deep.DeepCutAuto
import Derived.Test.YtmdnjgihooflfaaGreatDoorRows
import Derived.Test.YtmdnjgihooflfaaGreatDoorB05
namespace Go.Proofs.YtmdnjgihooflfaaGreatDoor
open Go.RowKit
open Go.Value (int)
open Go.IntKind (i64)
open Tryz
set_option maxHeartbeats 64000000
set_option maxRecDepth 100000
theorem zbr (x:Int)(w:World) :
  Calls prog 262 #[int i64 x] w λe w'=>e=.returned (.bool (decide (In x 1 3)))/\w'=w:=by
 go_enter func262,ntmps262;go_wp2_with (first|(go_at_call 191;refine sC (zz _ _ _ _) ?_))
 go_ret;exact⟨rfl,rfl⟩
theorem zdj (x:Int)(w:World) :
  Calls prog 263 #[int i64 x] w λe w'=>e=.returned (.bool (decide (In x 1 4)))/\w'=w:=by
 go_enter func263,ntmps263;go_wp2_with (first|(go_at_call 191;refine sC (zz _ _ _ _) ?_))
 go_ret;exact⟨rfl,rfl⟩
theorem zcF (cl:Int)(all:Bool)(be:Int)(w:World) :
  Calls prog 268 #[cl,all,be] w λe w'=>e=.returned (.bool (decide (zfN cl all be)))/\w'=w:=by
 obtain⟨c,f⟩:∃ c,c=decide (zfN cl all be):=⟨_,rfl⟩;rw[← f];have a:=hI f;clear f
 by_cases h1:In cl 1 3
 ·have i:=Jd h1
  have b:=hI h1;clear h1
  cases all with
  | true =>
   by_cases h2:be=0
   ·subst h2
    go_enter func268,ntmps268;go_wp2_with (first|(go_at_call 262;refine sC (zbr _ _) ?_))
    go_ret;exact⟨by rw[a.out,Jd ⟨b.out,.inl ⟨rfl,rfl⟩⟩];rfl,rfl⟩
   ·have g:(be == 0)=false:=by simpa using h2
    have d:=hI h2;clear h2;go_enter func268,ntmps268;go_wp2_with (first|(go_at_call 262;refine sC (zbr _ _) ?_))
    go_ret;exact⟨by rw[a.out,Jc (λh=>by rcases h.2 with h|h;exact d.out h.2;cases h.1)];rfl,rfl⟩
  | false =>
   by_cases h2:In be 1 4
   ·have g:=Jd h2
    have d:=hI h2;clear h2;go_enter func268,ntmps268;go_wp2_with (first|(go_at_call 262;refine sC (zbr _ _) ?_)|(go_at_call 263;refine sC (zdj _ _) ?_))
    go_ret;exact⟨by rw[a.out,Jd ⟨b.out,.inr ⟨rfl,d.out⟩⟩];rfl,rfl⟩
   ·have g:=Jc h2
    have d:=hI h2;clear h2;go_enter func268,ntmps268;go_wp2_with (first|(go_at_call 262;refine sC (zbr _ _) ?_)|(go_at_call 263;refine sC (zdj _ _) ?_))
    go_ret;exact⟨by rw[a.out,Jc (λh=>by rcases h.2 with h|h;cases h.1;exact d.out h.2)];rfl,rfl⟩
 ·have i:=Jc h1
  have b:=hI h1;clear h1
  cases all with
  | true =>
   go_enter func268,ntmps268;go_wp2_with (first|(go_at_call 262;refine sC (zbr _ _) ?_))
   go_ret;exact⟨by rw[a.out,Jc (λh=>b.out h.1)];rfl,rfl⟩
  | false =>
   go_enter func268,ntmps268;go_wp2_with (first|(go_at_call 262;refine sC (zbr _ _) ?_))
   go_ret;exact⟨by rw[a.out,Jc (λh=>b.out h.1)];rfl,rfl⟩
theorem Qw (pe len hei cl:Int)(all:Bool)(be:Int)(w:World) :
  Calls prog 240 #[.agg #[pe,len,hei,cl,all,be]] w λe w'=>qX (qI ⟨pe,len,hei,cl,all,be⟩) e/\Below w.heap.size w w':=by
 obtain⟨c1,n⟩:∃ c,c=decide (In pe 1 20):=⟨_,rfl⟩;obtain⟨c2,o⟩:∃ c,c=decide (¬ (len=0/\hei=0)):=⟨_,rfl⟩;obtain⟨c3,p⟩:∃ c,c=decide (In len 1 2000/\In hei 1 500):=⟨_,rfl⟩;obtain⟨c4,q⟩:∃ c,c=decide (¬ (cl=0/\all=false/\be=0)):=⟨_,rfl⟩;obtain⟨c5,r⟩:∃ c,c=decide (zfN cl all be):=⟨_,rfl⟩;have C:=hI n;have D:=hI o;have E:=hI p;have A:=hI q;have B:=hI r;have g:Hid (qI ⟨pe,len,hei,cl,all,be⟩↔c1=true/\(c2=false∨c3=true)/\(c4=false∨c5=true)):=by
  show _↔_
  rw[n,o,p,q,r];unfold qI zbA;simp only[decide_eq_true_eq,decide_eq_false_iff_not,Classical.not_not]
 clear n o p q r;go_enter func240,ntmps240;go_wp2_with fail;have j:Below _ w (w.alloc (.cells #[pe,len,hei,cl,all,be] 45)):=zk bZ _;have x:=Jb w (.cells #[pe,len,hei,cl,all,be] 45);generalize w.alloc _=W at j x ⊢;obtain⟨v,y,z,s,t,u⟩:=ce6 x;refine(zz _ _ _ _).mono ?_;rw[← C.out];rintro e w' ⟨rfl,a⟩;have a:=a.symm;subst a
 cases c1 with
 | false =>
  have k:Hid (¬ _):=λh=>by have:=(g.1 h).1;cases this
  clear g;go_wp2;go_ret;exact⟨zl k,j⟩
 | true =>
  go_wp2_with fail;refine(zcE pe len hei cl all be _).mono ?_;rw[← D.out];rintro e w1 ⟨rfl,m⟩;have f:=zb x m;have i:=ze j m;clear v y z s t u j x m;have y:=za f 1 _ rfl;have z:=za f 2 _ rfl
  cases c2 with
  | false =>
   have v:=za f 0 _ rfl;have s:=za f 3 _ rfl;have t:=za f 4 _ rfl;have u:=za f 5 _ rfl;go_wp2_with fail;refine(Q7 pe len hei cl all be _).mono ?_;rw[← A.out];rintro e F ⟨rfl,d⟩;have l:=zb f d;have b:=ze i d;clear v y z s t u i f d;have s:=za l 3 _ rfl;have t:=za l 4 _ rfl;have u:=za l 5 _ rfl
   cases c4 with
   | false =>
    go_wp2;go_ret;exact⟨zR (g.2 (by simp)),b⟩
   | true =>
    go_wp2_with fail;refine(zcF _ _ _ _).mono ?_;rw[← B.out];rintro e w' ⟨rfl,a⟩;have a:=a.symm;subst a
    cases c5 with
    | true =>
     go_wp2;go_ret;exact⟨zR (g.2 (by simp)),b⟩
    | false =>
     have k:Hid (¬ _):=λh=>by have h:=g.1 h;simp at h
     clear g;go_wp2;go_ret;exact⟨zl k,b⟩
  | true =>
   go_wp2_with fail;refine(zbq _ _ _).mono ?_;rw[← E.out];rintro e w' ⟨rfl,a⟩;have a:=a.symm;subst a
   cases c3 with
   | false =>
    have k:Hid (¬ _):=λh=>by have h:=g.1 h;simp at h
    clear g;go_wp2;go_ret;exact⟨zl k,i⟩
   | true =>
    have v:=za f 0 _ rfl;have s:=za f 3 _ rfl;have t:=za f 4 _ rfl;have u:=za f 5 _ rfl;go_wp2_with fail;refine(Q7 pe len hei cl all be _).mono ?_;rw[← A.out];rintro e F ⟨rfl,d⟩;have l:=zb f d;have b:=ze i d;clear v y z s t u i f d;have s:=za l 3 _ rfl;have t:=za l 4 _ rfl;have u:=za l 5 _ rfl
    cases c4 with
    | false =>
     go_wp2;go_ret;exact⟨zR (g.2 (by simp)),b⟩
    | true =>
     go_wp2_with fail;refine(zcF _ _ _ _).mono ?_;rw[← B.out];rintro e w' ⟨rfl,a⟩;have a:=a.symm;subst a
     cases c5 with
     | true =>
      go_wp2;go_ret;exact⟨zR (g.2 (by simp)),b⟩
     | false =>
      have k:Hid (¬ _):=λh=>by have h:=g.1 h;simp at h
      clear g;go_wp2;go_ret;exact⟨zl k,b⟩
def zdJ (p:Qh)(legs:Int)(e:Ending):Prop:=e=.returned (.tuple #[int i64 (if QU p legs then zE p legs else 0),.bool (decide (QU p legs))])
theorem zbL {p:Qh}{legs:Int}(h:QU p legs):zdJ p legs (.returned (.tuple #[int i64 (zE p legs),.bool true])):=by
 unfold zdJ;rw[Jf h,Jd h]
theorem zgo {p:Qh}{legs:Int}(h:¬ QU p legs):zdJ p legs (.returned (.tuple #[int i64 0,.bool false])):=by
 unfold zdJ;rw[Je h,Jc h]
def Zq (w:World):Prop :=
 w.cell? (11,0)=some ()/\w.cell? (11,1)=some (int i64 60) /\
 w.cell? (11,2)=some (int i64 450)/\w.cell? (11,3)=some (int i64 30) /\
 w.cell? (11,4)=some (int i64 600)/\w.cell? (11,5)=some (int i64 25)
theorem Zq.below {w w':World}(h:Zq w)(a:Below w.heap.size w w'):Zq w':=by
 obtain⟨b,h1,h2,h3,c,d⟩:=h;exact⟨(a.cell (Ja w _ b)).trans b,(a.cell (Ja w _ h1)).trans h1,(a.cell (Ja w _ h2)).trans h2,(a.cell (Ja w _ h3)).trans h3,(a.cell (Ja w _ c)).trans c,(a.cell (Ja w _ d)).trans d⟩
def Zu (w:World):Prop :=
 w.cell? (10,0)=some (int i64 30)/\w.cell? (10,1)=some (int i64 50)/\w.cell? (10,2)=some (int i64 80)
theorem Zu.below {w w':World}(h:Zu w)(a:Below w.heap.size w w'):Zu w':=by
 obtain⟨b,h1,h2⟩:=h;exact⟨(a.cell (Ja w _ b)).trans b,(a.cell (Ja w _ h1)).trans h1,(a.cell (Ja w _ h2)).trans h2⟩
theorem steps_is (x:Int)(w:World)(h:In x 1 1400) :
  Calls prog 299 #[x] w λe w'=>e=.returned (int i64 ((x+99) / 100))/\w'=w:=by
 unfold In at h;have a:IntKind.i64.wrap (x+100)=x+100:=by rw[Jk];omega
 have b:IntKind.i64.wrap (x+100 - 1)=x+99:=by rw[Jk];omega
 have hq:Int.tdiv (x+99) 100=(x+99) / 100:=by rw[Int.tdiv_eq_ediv_of_nonneg (by omega)]
 have c:IntKind.i64.wrap ((x+99) / 100)=(x+99) / 100:=by rw[Jk];omega
 go_enter func299,ntmps299;go_wp2;go_ret;exact⟨rfl,rfl⟩
theorem zhP (x:Int)(w:World)(h:In x 1 2000)(k:Zq w) :
  Calls prog 297 #[x] w λe w'=>e=.returned (int i64 (if 600<x then 90+25*((x - 600+99) / 100) else if 450<x then 90 else 60))/\Below w.heap.size w w':=by
 obtain⟨V,c⟩:∃ V,V=(if 600<x then 90+25*((x - 600+99) / 100) else if 450<x then 90 else 60):=⟨_,rfl⟩;rw[← c];have a:=hI c;clear c;obtain⟨b0,b1,b2,b3,b4,b5⟩:=k;unfold In at h
 by_cases h1:600<x
 ·have i:=Jd h1
  have m:IntKind.i64.wrap (x - 600)=x - 600:=by rw[Jk];omega
  obtain⟨q,d⟩:∃ q,q=(x - 600+99) / 100:=⟨_,rfl⟩;have l:0<=q/\q<=20:=by omega
  have n:IntKind.i64.wrap (25*q)=25*q:=by rw[Jk];omega
  have o:IntKind.i64.wrap (25*q+30)=25*q+30:=by rw[Jk];omega
  have p:IntKind.i64.wrap (25*q+30+60)=25*q+30+60:=by rw[Jk];omega
  have f:In (x - 600) 1 1400:=⟨by omega,by omega⟩
  have b:Hid (V=25*q+30+60):=by show V=_;rw[a.out,Jf h1,← d];omega
  have g:=hI d;rw[b.out];clear h d a h1;go_enter func297,ntmps297;go_wp2;go_quiet (first|(go_at_call 299;refine Calls.quiet_of_same (v:=int i64 q) ((steps_is _ _ f).mono ?_);rintro e w' ⟨rfl,rfl⟩;exact⟨by rw[g.out],rfl⟩))
  go_wp2;go_ret;exact⟨rfl,dN bZ _⟩
 ·have i:=Jc h1
  by_cases h2:450<x
  ·have j:=Jd h2
   have b:Hid (V=90):=by show V=90;rw[a.out,Je h1,Jf h2]
   rw[b.out];clear h h1 h2 a;go_enter func297,ntmps297;go_wp2;go_ret;exact⟨rfl,bZ⟩
  ·have j:=Jc h2
   have e3:decide (0<x)=true:=Jd (by omega)
   have b:Hid (V=60):=by show V=60;rw[a.out,Je h1,Je h2]
   rw[b.out];clear h h1 h2 a;go_enter func297,ntmps297;go_wp2;go_ret;exact⟨rfl,bZ⟩
theorem zlE (x y:Int)(w:World)(l:Zq w) :
  Calls prog 292 #[x,y] w λe w'=>e=.returned (Ql x y)/\Below w.heap.size w w':=by
 obtain⟨V,j⟩:∃ V,V=Ql x y:=⟨_,rfl⟩;rw[← j];have h:=hI j;have k:=hI l;clear j l
 by_cases h0:In x 1 2000/\In y 1 500
 ·have m:=Jd h0
  obtain⟨c,p⟩:∃ c,c=decide (In x 1 2000/\In y 1 500):=⟨_,rfl⟩;obtain⟨L,i⟩:∃ L,L=(if 600<x then 90+25*((x - 600+99) / 100) else if 450<x then 90 else 60):=⟨_,rfl⟩;have g:=hI i;have b:=hI h0;have o:0<=L/\L<=1000:=by
   have:=h0.1;unfold In at this;rw[i];repeat' split
   all_goals omega
  have q:IntKind.i64.wrap (L+30)=L+30:=by rw[Jk];omega
  clear p i h0 c m
  by_cases h5:220<y
  ·have n:=Jd h5
   have f:Hid (V=L+30):=by show V=_;rw[h.out,g.out];unfold Ql;rw[Jf (show zbA x y from b.out),Jf h5]
   rw[f.out];clear h5;go_enter func292,ntmps292;go_wp2_with (first|(go_at_call 267;refine(zbq _ _ _).mono ?_;rw[Jd b.out];rintro e w' ⟨rfl,a⟩;have a:=a.symm;subst a)|(go_at_call 297;refine(zhP _ _ b.1 k).mono ?_;rw[← g.out];rintro e r ⟨rfl,d⟩))
   go_ret;exact⟨rfl,d⟩
  ·have n:=Jc h5
   have f:Hid (V=L):=by show V=L;rw[h.out,g.out];unfold Ql;rw[Jf (show zbA x y from b.out),Je h5];omega
   rw[f.out];clear h5;go_enter func292,ntmps292;go_wp2_with (first|(go_at_call 267;refine(zbq _ _ _).mono ?_;rw[Jd b.out];rintro e w' ⟨rfl,a⟩;have a:=a.symm;subst a)|(go_at_call 297;refine(zhP _ _ b.1 k).mono ?_;rw[← g.out];rintro e r ⟨rfl,d⟩))
   go_ret;exact⟨rfl,d⟩
 ·have b:=hI h0
  have f:Hid (V=0):=by rw[h.out];exact Je h0
  rw[f.out];clear h0;go_enter func292,ntmps292;go_wp2_with (first|(go_at_call 267;refine(zbq _ _ _).mono ?_;rw[Jc b.out];rintro e w' ⟨rfl,a⟩;have a:=a.symm;subst a))
  go_ret;exact⟨rfl,bZ⟩
theorem ziv (cl:Int)(all:Bool)(be:Int)(w:World)(i:Zu w) :
  Calls prog 293 #[cl,all,be] w λe w'=>e=.returned (Zs cl all be)/\Below w.heap.size w w':=by
 obtain⟨V,f⟩:∃ V,V=Zs cl all be:=⟨_,rfl⟩;rw[← f];have d:=hI f;clear f;obtain⟨b0,b1,b2⟩:=i
 by_cases h1:zfN cl all be
 ·have b:=hI h1
  have h3:cl=1∨cl=2∨cl=3:=by have:=h1.1;unfold In at this;omega
  cases all with
  | true =>
   obtain rfl:be=0:=by rcases h1.2 with h|h;exact h.2;cases h.1
   clear h1
   rcases h3 with rfl|rfl|rfl
   ·have c:Hid (V=90):=by show V=90;rw[d.out];exact Jf b
    rw[c.out];go_enter func293,ntmps293;go_wp2_with (first|(go_at_call 268;refine(zcF _ _ _ _).mono ?_;rw[Jd b.out];rintro e w' ⟨rfl,a⟩;have a:=a.symm;subst a))
    go_ret;exact⟨rfl,bZ⟩
   ·have c:Hid (V=150):=by show V=150;rw[d.out];exact Jf b
    rw[c.out];go_enter func293,ntmps293;go_wp2_with (first|(go_at_call 268;refine(zcF _ _ _ _).mono ?_;rw[Jd b.out];rintro e w' ⟨rfl,a⟩;have a:=a.symm;subst a))
    go_ret;exact⟨rfl,bZ⟩
   ·have c:Hid (V=240):=by show V=240;rw[d.out];exact Jf b
    rw[c.out];go_enter func293,ntmps293;go_wp2_with (first|(go_at_call 268;refine(zcF _ _ _ _).mono ?_;rw[Jd b.out];rintro e w' ⟨rfl,a⟩;have a:=a.symm;subst a))
    go_ret;exact⟨rfl,bZ⟩
  | false =>
   have h4:1<=be/\be<=4:=by rcases h1.2 with h|h;cases h.1;exact h.2
   clear h1
   rcases h3 with rfl|rfl|rfl
   ·have c:Hid (V=be*30):=by show V=_;rw[d.out];unfold Zs;rw[Jf b.out];exact Int.mul_comm 30 be
    rw[c.out];have g:IntKind.i64.wrap (be*30)=be*30:=by rw[Jk];omega
    go_enter func293,ntmps293;go_wp2_with (first|(go_at_call 268;refine(zcF _ _ _ _).mono ?_;rw[Jd b.out];rintro e w' ⟨rfl,a⟩;have a:=a.symm;subst a))
    go_ret;exact⟨rfl,bZ⟩
   ·have c:Hid (V=be*50):=by show V=_;rw[d.out];unfold Zs;rw[Jf b.out];exact Int.mul_comm 50 be
    rw[c.out];have g:IntKind.i64.wrap (be*50)=be*50:=by rw[Jk];omega
    go_enter func293,ntmps293;go_wp2_with (first|(go_at_call 268;refine(zcF _ _ _ _).mono ?_;rw[Jd b.out];rintro e w' ⟨rfl,a⟩;have a:=a.symm;subst a))
    go_ret;exact⟨rfl,bZ⟩
   ·have c:Hid (V=be*80):=by show V=_;rw[d.out];unfold Zs;rw[Jf b.out];exact Int.mul_comm 80 be
    rw[c.out];have g:IntKind.i64.wrap (be*80)=be*80:=by rw[Jk];omega
    go_enter func293,ntmps293;go_wp2_with (first|(go_at_call 268;refine(zcF _ _ _ _).mono ?_;rw[Jd b.out];rintro e w' ⟨rfl,a⟩;have a:=a.symm;subst a))
    go_ret;exact⟨rfl,bZ⟩
 ·have b:=hI h1
  have c:Hid (V=0):=by rw[d.out];exact Je h1
  rw[c.out];clear h1;go_enter func293,ntmps293;go_wp2_with (first|(go_at_call 268;refine(zcF _ _ _ _).mono ?_;rw[Jc b.out];rintro e w' ⟨rfl,a⟩;have a:=a.symm;subst a))
  go_ret;exact⟨rfl,bZ⟩
end Go.Proofs.YtmdnjgihooflfaaGreatDoor
