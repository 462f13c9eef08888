/-
  OWN TEXT: PartyI, PlainPr, BandsI, CarI, CabinI, PriceI, RefundI.
-/
import Derived.Deep.DeepCutAuto
import Derived.Test.YtmdnjgihooflfaaGreatDoorKitCo
import Derived.Test.YtmdnjgihooflfaaGreatDoorRows
import Derived.Test.YtmdnjgihooflfaaGreatDoorB05
namespace Go.Proofs.YtmdnjgihooflfaaGreatDoor
open Go.RowKit
open Go.Value (int)
open Go.IntKind (i64)
open Tryz
set_option maxHeartbeats 64000000
set_option maxRecDepth 100000
theorem Qw (pe len hei cl:Int)(all:Bool)(be:Int)(w:World) :
  Calls prog 240 #[.agg #[pe,len,hei,cl,all,be]] w λe w'=>qX (qI ⟨pe,len,hei,cl,all,be⟩) e/\Below w.heap.size w w':=by
 obtain⟨c1,n⟩:∃ c,c=decide (In pe 1 20):=⟨_,rfl⟩;obtain⟨c2,o⟩:∃ c,c=decide (¬ (len=0/\hei=0)):=⟨_,rfl⟩;obtain⟨c3,p⟩:∃ c,c=decide (In len 1 2000/\In hei 1 500):=⟨_,rfl⟩;obtain⟨c4,q⟩:∃ c,c=decide (¬ (cl=0/\all=false/\be=0)):=⟨_,rfl⟩;obtain⟨c5,r⟩:∃ c,c=decide (zfN cl all be):=⟨_,rfl⟩;have C:=hI n;have D:=hI o;have E:=hI p;have A:=hI q;have B:=hI r;have g:Hid (qI ⟨pe,len,hei,cl,all,be⟩↔c1=true/\(c2=false∨c3=true)/\(c4=false∨c5=true)):=by
  show _↔_
  rw[n,o,p,q,r];unfold qI zbA;simp only[decide_eq_true_eq,decide_eq_false_iff_not,Classical.not_not]
 clear n o p q r;go_enter func240,ntmps240;go_wp2_with fail;have j:Below _ w (w.alloc (.cells #[pe,len,hei,cl,all,be] 45)):=zk bZ _;have x:=Jb w (.cells #[pe,len,hei,cl,all,be] 45);generalize w.alloc _=W at j x ⊢;obtain⟨v,y,z,s,t,u⟩:=ce6 x;refine(zz _ _ _ _).mono ?_;rw[← C.out];rintro e w' ⟨rfl,a⟩;have a:=a.symm;subst a
 cases c1 with
 | false =>
  have k:Hid (¬ _):=λh=>by have:=(g.1 h).1;cases this
  clear g;go_wp2;go_ret;exact⟨zl k,j⟩
 | true =>
  go_wp2_with fail;refine(zcE pe len hei cl all be _).mono ?_;rw[← D.out];rintro e w1 ⟨rfl,m⟩;have f:=zb x m;have i:=ze j m;clear v y z s t u j x m;have y:=za f 1 _ rfl;have z:=za f 2 _ rfl
  cases c2 with
  | false =>
   have v:=za f 0 _ rfl;have s:=za f 3 _ rfl;have t:=za f 4 _ rfl;have u:=za f 5 _ rfl;go_wp2_with fail;refine(Q7 pe len hei cl all be _).mono ?_;rw[← A.out];rintro e F ⟨rfl,d⟩;have l:=zb f d;have b:=ze i d;clear v y z s t u i f d;have s:=za l 3 _ rfl;have t:=za l 4 _ rfl;have u:=za l 5 _ rfl
   cases c4 with
   | false =>
    go_wp2;go_ret;exact⟨zR (g.2 (by simp)),b⟩
   | true =>
    go_wp2_with fail;refine(zcF _ _ _ _).mono ?_;rw[← B.out];rintro e w' ⟨rfl,a⟩;have a:=a.symm;subst a
    cases c5 with
    | true =>
     go_wp2;go_ret;exact⟨zR (g.2 (by simp)),b⟩
    | false =>
     have k:Hid (¬ _):=λh=>by have h:=g.1 h;simp at h
     clear g;go_wp2;go_ret;exact⟨zl k,b⟩
  | true =>
   go_wp2_with fail;refine(zbq _ _ _).mono ?_;rw[← E.out];rintro e w' ⟨rfl,a⟩;have a:=a.symm;subst a
   cases c3 with
   | false =>
    have k:Hid (¬ _):=λh=>by have h:=g.1 h;simp at h
    clear g;go_wp2;go_ret;exact⟨zl k,i⟩
   | true =>
    have v:=za f 0 _ rfl;have s:=za f 3 _ rfl;have t:=za f 4 _ rfl;have u:=za f 5 _ rfl;go_wp2_with fail;refine(Q7 pe len hei cl all be _).mono ?_;rw[← A.out];rintro e F ⟨rfl,d⟩;have l:=zb f d;have b:=ze i d;clear v y z s t u i f d;have s:=za l 3 _ rfl;have t:=za l 4 _ rfl;have u:=za l 5 _ rfl
    cases c4 with
    | false =>
     go_wp2;go_ret;exact⟨zR (g.2 (by simp)),b⟩
    | true =>
     go_wp2_with fail;refine(zcF _ _ _ _).mono ?_;rw[← B.out];rintro e w' ⟨rfl,a⟩;have a:=a.symm;subst a
     cases c5 with
     | true =>
      go_wp2;go_ret;exact⟨zR (g.2 (by simp)),b⟩
     | false =>
      have k:Hid (¬ _):=λh=>by have h:=g.1 h;simp at h
      clear g;go_wp2;go_ret;exact⟨zl k,b⟩
def zdJ (p:Qh)(legs:Int)(e:Ending):Prop:=e=.returned (.tuple #[int i64 (if QU p legs then zE p legs else 0),.bool (decide (QU p legs))])
theorem zbL {p:Qh}{legs:Int}(h:QU p legs):zdJ p legs (.returned (.tuple #[int i64 (zE p legs),.bool true])):=by
 unfold zdJ;rw[Jf h,Jd h]
theorem zgo {p:Qh}{legs:Int}(h:¬ QU p legs):zdJ p legs (.returned (.tuple #[int i64 0,.bool false])):=by
 unfold zdJ;rw[Je h,Jc h]
def Zq (w:World):Prop :=
 w.cell? (11,0)=some ()/\w.cell? (11,1)=some (int i64 60) /\
 w.cell? (11,2)=some (int i64 450)/\w.cell? (11,3)=some (int i64 30) /\
 w.cell? (11,4)=some (int i64 600)/\w.cell? (11,5)=some (int i64 25)
theorem Zq.below {w w':World}(h:Zq w)(a:Below w.heap.size w w'):Zq w':=by
 obtain⟨b,h1,h2,h3,c,d⟩:=h;exact⟨(a.cell (Ja w _ b)).trans b,(a.cell (Ja w _ h1)).trans h1,(a.cell (Ja w _ h2)).trans h2,(a.cell (Ja w _ h3)).trans h3,(a.cell (Ja w _ c)).trans c,(a.cell (Ja w _ d)).trans d⟩
def Zu (w:World):Prop :=
 w.cell? (10,0)=some (int i64 30)/\w.cell? (10,1)=some (int i64 50)/\w.cell? (10,2)=some (int i64 80)
theorem Zu.below {w w':World}(h:Zu w)(a:Below w.heap.size w w'):Zu w':=by
 obtain⟨b,h1,h2⟩:=h;exact⟨(a.cell (Ja w _ b)).trans b,(a.cell (Ja w _ h1)).trans h1,(a.cell (Ja w _ h2)).trans h2⟩
theorem steps_is (x:Int)(w:World)(h:In x 1 1400) :
  Calls prog 299 #[x] w λe w'=>e=.returned (int i64 ((x+99) / 100))/\w'=w:=by
 unfold In at h;have a:IntKind.i64.wrap (x+100)=x+100:=by rw[Jk];omega
 have b:IntKind.i64.wrap (x+100 - 1)=x+99:=by rw[Jk];omega
 have hq:Int.tdiv (x+99) 100=(x+99) / 100:=by rw[Int.tdiv_eq_ediv_of_nonneg (by omega)]
 have c:IntKind.i64.wrap ((x+99) / 100)=(x+99) / 100:=by rw[Jk];omega
 go_enter func299,ntmps299;go_wp2;go_ret;exact⟨rfl,rfl⟩
theorem zhP (x:Int)(w:World)(h:In x 1 2000)(k:Zq w) :
  Calls prog 297 #[x] w λe w'=>e=.returned (int i64 (if 600<x then 90+25*((x - 600+99) / 100) else if 450<x then 90 else 60))/\Below w.heap.size w w':=by
 obtain⟨V,c⟩:∃ V,V=(if 600<x then 90+25*((x - 600+99) / 100) else if 450<x then 90 else 60):=⟨_,rfl⟩;rw[← c];have a:=hI c;clear c;obtain⟨b0,b1,b2,b3,b4,b5⟩:=k;unfold In at h
 by_cases h1:600<x
 ·have i:=Jd h1
  have m:IntKind.i64.wrap (x - 600)=x - 600:=by rw[Jk];omega
  obtain⟨q,d⟩:∃ q,q=(x - 600+99) / 100:=⟨_,rfl⟩;have l:0<=q/\q<=20:=by omega
  have n:IntKind.i64.wrap (25*q)=25*q:=by rw[Jk];omega
  have o:IntKind.i64.wrap (25*q+30)=25*q+30:=by rw[Jk];omega
  have p:IntKind.i64.wrap (25*q+30+60)=25*q+30+60:=by rw[Jk];omega
  have f:In (x - 600) 1 1400:=⟨by omega,by omega⟩
  have b:Hid (V=25*q+30+60):=by show V=_;rw[a.out,Jf h1,← d];omega
  have g:=hI d;rw[b.out];clear h d a h1;go_enter func297,ntmps297;go_wp2;go_quiet (first|(go_at_call 299;refine Calls.quiet_of_same (v:=int i64 q) ((steps_is _ _ f).mono ?_);rintro e w' ⟨rfl,rfl⟩;exact⟨by rw[g.out],rfl⟩))
  go_wp2;go_ret;exact⟨rfl,dN bZ _⟩
 ·have i:=Jc h1
  by_cases h2:450<x
  ·have j:=Jd h2
   have b:Hid (V=90):=by show V=90;rw[a.out,Je h1,Jf h2]
   rw[b.out];clear h h1 h2 a;go_enter func297,ntmps297;go_wp2;go_ret;exact⟨rfl,bZ⟩
  ·have j:=Jc h2
   have e3:decide (0<x)=true:=Jd (by omega)
   have b:Hid (V=60):=by show V=60;rw[a.out,Je h1,Je h2]
   rw[b.out];clear h h1 h2 a;go_enter func297,ntmps297;go_wp2;go_ret;exact⟨rfl,bZ⟩
theorem zlE (x y:Int)(w:World)(l:Zq w) :
  Calls prog 292 #[x,y] w λe w'=>e=.returned (Ql x y)/\Below w.heap.size w w':=by
 obtain⟨V,j⟩:∃ V,V=Ql x y:=⟨_,rfl⟩;rw[← j];have h:=hI j;have k:=hI l;clear j l
 by_cases h0:In x 1 2000/\In y 1 500
 ·have m:=Jd h0
  obtain⟨c,p⟩:∃ c,c=decide (In x 1 2000/\In y 1 500):=⟨_,rfl⟩;obtain⟨L,i⟩:∃ L,L=(if 600<x then 90+25*((x - 600+99) / 100) else if 450<x then 90 else 60):=⟨_,rfl⟩;have g:=hI i;have b:=hI h0;have o:0<=L/\L<=1000:=by
   have:=h0.1;unfold In at this;rw[i];repeat' split
   all_goals omega
  have q:IntKind.i64.wrap (L+30)=L+30:=by rw[Jk];omega
  clear p i h0 c m
  by_cases h5:220<y
  ·have n:=Jd h5
   have f:Hid (V=L+30):=by show V=_;rw[h.out,g.out];unfold Ql;rw[Jf (show zbA x y from b.out),Jf h5]
   rw[f.out];clear h5;go_enter func292,ntmps292;go_wp2_with (first|(go_at_call 267;refine(zbq _ _ _).mono ?_;rw[Jd b.out];rintro e w' ⟨rfl,a⟩;have a:=a.symm;subst a)|(go_at_call 297;refine(zhP _ _ b.1 k).mono ?_;rw[← g.out];rintro e r ⟨rfl,d⟩))
   go_ret;exact⟨rfl,d⟩
  ·have n:=Jc h5
   have f:Hid (V=L):=by show V=L;rw[h.out,g.out];unfold Ql;rw[Jf (show zbA x y from b.out),Je h5];omega
   rw[f.out];clear h5;go_enter func292,ntmps292;go_wp2_with (first|(go_at_call 267;refine(zbq _ _ _).mono ?_;rw[Jd b.out];rintro e w' ⟨rfl,a⟩;have a:=a.symm;subst a)|(go_at_call 297;refine(zhP _ _ b.1 k).mono ?_;rw[← g.out];rintro e r ⟨rfl,d⟩))
   go_ret;exact⟨rfl,d⟩
 ·have b:=hI h0
  have f:Hid (V=0):=by rw[h.out];exact Je h0
  rw[f.out];clear h0;go_enter func292,ntmps292;go_wp2_with (first|(go_at_call 267;refine(zbq _ _ _).mono ?_;rw[Jc b.out];rintro e w' ⟨rfl,a⟩;have a:=a.symm;subst a))
  go_ret;exact⟨rfl,bZ⟩
theorem ziv (cl:Int)(all:Bool)(be:Int)(w:World)(i:Zu w) :
  Calls prog 293 #[cl,all,be] w λe w'=>e=.returned (Zs cl all be)/\Below w.heap.size w w':=by
 obtain⟨V,f⟩:∃ V,V=Zs cl all be:=⟨_,rfl⟩;rw[← f];have d:=hI f;clear f;obtain⟨b0,b1,b2⟩:=i
 by_cases h1:zfN cl all be
 ·have b:=hI h1
  have h3:cl=1∨cl=2∨cl=3:=by have:=h1.1;unfold In at this;omega
  cases all with
  | true =>
   obtain rfl:be=0:=by rcases h1.2 with h|h;exact h.2;cases h.1
   clear h1
   rcases h3 with rfl|rfl|rfl
   ·have c:Hid (V=90):=by show V=90;rw[d.out];exact Jf b
    rw[c.out];go_enter func293,ntmps293;go_wp2_with (first|(go_at_call 268;refine(zcF _ _ _ _).mono ?_;rw[Jd b.out];rintro e w' ⟨rfl,a⟩;have a:=a.symm;subst a))
    go_ret;exact⟨rfl,bZ⟩
   ·have c:Hid (V=150):=by show V=150;rw[d.out];exact Jf b
    rw[c.out];go_enter func293,ntmps293;go_wp2_with (first|(go_at_call 268;refine(zcF _ _ _ _).mono ?_;rw[Jd b.out];rintro e w' ⟨rfl,a⟩;have a:=a.symm;subst a))
    go_ret;exact⟨rfl,bZ⟩
   ·have c:Hid (V=240):=by show V=240;rw[d.out];exact Jf b
    rw[c.out];go_enter func293,ntmps293;go_wp2_with (first|(go_at_call 268;refine(zcF _ _ _ _).mono ?_;rw[Jd b.out];rintro e w' ⟨rfl,a⟩;have a:=a.symm;subst a))
    go_ret;exact⟨rfl,bZ⟩
  | false =>
   have h4:1<=be/\be<=4:=by rcases h1.2 with h|h;cases h.1;exact h.2
   clear h1
   rcases h3 with rfl|rfl|rfl
   ·have c:Hid (V=be*30):=by show V=_;rw[d.out];unfold Zs;rw[Jf b.out];exact Int.mul_comm 30 be
    rw[c.out];have g:IntKind.i64.wrap (be*30)=be*30:=by rw[Jk];omega
    go_enter func293,ntmps293;go_wp2_with (first|(go_at_call 268;refine(zcF _ _ _ _).mono ?_;rw[Jd b.out];rintro e w' ⟨rfl,a⟩;have a:=a.symm;subst a))
    go_ret;exact⟨rfl,bZ⟩
   ·have c:Hid (V=be*50):=by show V=_;rw[d.out];unfold Zs;rw[Jf b.out];exact Int.mul_comm 50 be
    rw[c.out];have g:IntKind.i64.wrap (be*50)=be*50:=by rw[Jk];omega
    go_enter func293,ntmps293;go_wp2_with (first|(go_at_call 268;refine(zcF _ _ _ _).mono ?_;rw[Jd b.out];rintro e w' ⟨rfl,a⟩;have a:=a.symm;subst a))
    go_ret;exact⟨rfl,bZ⟩
   ·have c:Hid (V=be*80):=by show V=_;rw[d.out];unfold Zs;rw[Jf b.out];exact Int.mul_comm 80 be
    rw[c.out];have g:IntKind.i64.wrap (be*80)=be*80:=by rw[Jk];omega
    go_enter func293,ntmps293;go_wp2_with (first|(go_at_call 268;refine(zcF _ _ _ _).mono ?_;rw[Jd b.out];rintro e w' ⟨rfl,a⟩;have a:=a.symm;subst a))
    go_ret;exact⟨rfl,bZ⟩
 ·have b:=hI h1
  have c:Hid (V=0):=by rw[d.out];exact Je h1
  rw[c.out];clear h1;go_enter func293,ntmps293;go_wp2_with (first|(go_at_call 268;refine(zcF _ _ _ _).mono ?_;rw[Jc b.out];rintro e w' ⟨rfl,a⟩;have a:=a.symm;subst a))
  go_ret;exact⟨rfl,bZ⟩
theorem zlF (pe len hei cl:Int)(all:Bool)(be:Int)(w:World)(p:In pe 1 20)(n:Zq w)(o:Zu w) :
  Calls prog 285 #[.agg #[pe,len,hei,cl,all,be]] w λe w'=>e=.returned (int i64 (40*pe+Ql len hei+Zs cl all be))/\Below w.heap.size w w':=by
 obtain⟨h,d⟩:∃ c,c=Ql len hei:=⟨_,rfl⟩;obtain⟨k,b⟩:∃ c,c=Zs cl all be:=⟨_,rfl⟩;rw[← d,← b];have u:0<=h/\h<=500:=by rw[d];exact zbV len hei
 have x:0<=k/\k<=320:=by rw[b];exact zbf cl all be
 have m:=hI d;have l:=hI b;have q:=hI n;have r:=hI o;unfold In at p;have y:IntKind.i64.wrap (40*pe)=40*pe:=by rw[Jk];omega
 have z:IntKind.i64.wrap (40*pe+h)=40*pe+h:=by rw[Jk];omega
 have A:IntKind.i64.wrap (40*pe+h+k)=40*pe+h+k:=by rw[Jk];omega
 clear d b n o u x p;go_enter func285,ntmps285;go_upto_region 1 with fail;have a:Below _ w (w.alloc (.cells #[pe,len,hei,cl,all,be] 45)):=zk bZ _;have f:=Jb w (.cells #[pe,len,hei,cl,all,be] 45);generalize w.alloc _=W at a f ⊢;have j:=zM f;have C:∀ g:zn W,g.val.cell? _=some (.int _ pe):=λg=>(g.bel.cell j).trans (za f 0 _ rfl)
 have D:∀ g:zn W,g.val.cell? _=some (.int _ len):=λg=>(g.bel.cell j).trans (za f 1 _ rfl)
 have E:∀ g:zn W,g.val.cell? _=some (.int _ hei):=λg=>(g.bel.cell j).trans (za f 2 _ rfl)
 have F:∀ g:zn W,g.val.cell? _=some (.int _ cl):=λg=>(g.bel.cell j).trans (za f 3 _ rfl)
 have G:∀ g:zn W,g.val.cell? _=some (.bool all):=λg=>(g.bel.cell j).trans (za f 4 _ rfl)
 have H:∀ g:zn W,g.val.cell? _=some (.int _ be):=λg=>(g.bel.cell j).trans (za f 5 _ rfl)
 have s:Hid (∀ g:zn W,_):=λg=>(q.below a).below g.bel
 have t:Hid (∀ g:zn W,_):=λg=>(r.below a).below g.bel
 refine zh (by kernel_rfl) (by kernel_rfl) ?_
 repeat(first|go_big_quiet_skip|(go_big_quiet_want;go_big_quiet_op;first|go_big_quiet_on|(apply Jg;refine⟨λg=>?_,?_⟩;(focus(first|(go_at_call 292;refine zf (v:=int i64 h) ((zlE _ _ _ (s g)).mono ?_);rintro e B ⟨rfl,i⟩;exact⟨by rw[m.out],i⟩)|(go_at_call 293;refine zf (v:=int i64 k) ((ziv _ _ _ _ (t g)).mono ?_);rintro e B ⟨rfl,i⟩;exact⟨by rw[l.out],i⟩)));go_big_quiet_on)))
 refine Jl ?_;rintro _ ⟨g,rfl⟩;clear C D E F G H;go_wp2;go_ret;exact⟨rfl,ze a g.bel⟩
theorem ziw (pe len hei cl:Int)(all:Bool)(be legs:Int)(w:World)(y:Zq w)(g:Zu w) :
  Calls prog 253 #[.agg #[pe,len,hei,cl,all,be],legs] w λe w'=>zdJ ⟨pe,len,hei,cl,all,be⟩ legs e/\Below w.heap.size w w':=by
 have z:=hI y;have A:=hI g;clear y g;go_enter func253,ntmps253;go_wp2_with fail;have i:Below _ w (w.alloc (.cells #[pe,len,hei,cl,all,be] 45)):=zk bZ _;have t:=Jb w (.cells #[pe,len,hei,cl,all,be] 45);generalize w.alloc _=W at i t ⊢;refine(Qw pe len hei cl all be _).mono ?_;rintro e w1 ⟨⟨q,rfl,r⟩,j⟩;have n:=zb t j;have a:=ze i j;obtain⟨O,P,Q,R,S,T⟩:=ce6 n;clear i t j
 cases q with
 | false =>
  have B:Hid (¬ _):=λh=>by have:=r.2 h;cases this
  clear r n;go_wp2;exact Jj (by simp[results,results253,go_sem]) rfl ⟨zgo (λh=>B h.1),a⟩
 | true =>
  have l:=hI (r.1 rfl);clear r
  by_cases k1:In legs 1 3
  ·have N:=Jd k1
   have m:=hI k1;obtain⟨F,g⟩:∃ F,F=40*pe+Ql len hei+Zs cl all be:=⟨_,rfl⟩;have s:=hI g;have u:0<=F/\F<=2000:=by
    have h1:=zbV len hei;have h2:=zbf cl all be;have h3:=l.1;unfold In at h3;dsimp only at h3;rw[g];omega
   obtain⟨V,x⟩:∃ V,V=zE ⟨pe,len,hei,cl,all,be⟩ legs:=⟨_,rfl⟩;obtain⟨M,p⟩:∃ M,M=legs*F:=⟨_,rfl⟩;have b:Hid (V=zdb pe legs M):=by show V=_;rw[x,p,g];rfl
   have c:=hI x;have o:0<=M/\M<=10000:=by
    have h3:legs=1∨legs=2∨legs=3:=by unfold In at k1;omega
    rw[p]
    rcases h3 with rfl|rfl|rfl <;> omega
   have C:IntKind.i64.wrap (legs*F)=M:=by rw[← p,Jk];omega
   clear k1 g x p u;go_wp2_with (first|(go_at_call 191;refine sC (zz _ _ _ _) ?_))
   refine(zlF pe len hei cl all be _ l.1 (z.below a) (A.below a)).mono ?_;rw[← s.out];rintro e w2 ⟨rfl,k⟩;have c0:=za (zb n k) 0 _ rfl;have d:=ze a k;clear O P Q R S T n k;have q1:Int.tdiv M 20=M / 20:=by rw[Int.tdiv_eq_ediv_of_nonneg o.1]
   have q2:Int.tdiv M 10=M / 10:=by rw[Int.tdiv_eq_ediv_of_nonneg o.1]
   have D:IntKind.i64.wrap (M / 20)=M / 20:=by rw[Jk];omega
   have E:IntKind.i64.wrap (M - M / 20)=M - M / 20:=by rw[Jk];omega
   have G:IntKind.i64.wrap (M / 10)=M / 10:=by rw[Jk];omega
   have H:IntKind.i64.wrap (M - M / 10)=M - M / 10:=by rw[Jk];omega
   have q3:Int.tdiv (M - M / 20) 10=(M - M / 20) / 10:=by rw[Int.tdiv_eq_ediv_of_nonneg (by omega)]
   have I:IntKind.i64.wrap ((M - M / 20) / 10)=(M - M / 20) / 10:=by rw[Jk];omega
   have J:IntKind.i64.wrap (M - M / 20 - (M - M / 20) / 10)=M - M / 20 - (M - M / 20) / 10:=by rw[Jk];omega
   by_cases j1:8<=pe
   ·have K:=Jd j1
    by_cases j2:legs=3
    ·subst j2
     have f:Hid (zE ⟨pe,len,hei,cl,all,be⟩ 3=M - M / 20 - (M - M / 20) / 10):=by show _=_;rw[← c.out,b.out];unfold zdb;rw[Jf j1,Jf rfl]
     clear j1;go_wp2;exact Jj (v:=.tuple #[int i64 (M - M / 20 - (M - M / 20) / 10),.bool true]) (by simp[results,results253,go_sem]) rfl ⟨by rw[← f.out];exact zbL ⟨l,m⟩,d⟩
    ·have L:(legs == 3)=false:=by simpa using j2
     have f:Hid (zE ⟨pe,len,hei,cl,all,be⟩ legs=M - M / 20):=by show _=_;rw[← c.out,b.out];unfold zdb;rw[Jf j1,Je j2]
     clear j1 j2;go_wp2;exact Jj (v:=.tuple #[int i64 (M - M / 20),.bool true]) (by simp[results,results253,go_sem]) rfl ⟨by rw[← f.out];exact zbL ⟨l,m⟩,d⟩
   ·have K:=Jc j1
    by_cases j2:legs=3
    ·subst j2
     have f:Hid (zE ⟨pe,len,hei,cl,all,be⟩ 3=M - M / 10):=by show _=_;rw[← c.out,b.out];unfold zdb;rw[Je j1,Jf rfl]
     clear j1;go_wp2;exact Jj (v:=.tuple #[int i64 (M - M / 10),.bool true]) (by simp[results,results253,go_sem]) rfl ⟨by rw[← f.out];exact zbL ⟨l,m⟩,d⟩
    ·have L:(legs == 3)=false:=by simpa using j2
     have f:Hid (zE ⟨pe,len,hei,cl,all,be⟩ legs=M):=by show _=_;rw[← c.out,b.out];unfold zdb;rw[Je j1,Je j2]
     clear j1 j2;go_wp2;exact Jj (v:=.tuple #[M,.bool true]) (by simp[results,results253,go_sem]) rfl ⟨by rw[← f.out];exact zbL ⟨l,m⟩,d⟩
  ·have N:=Jc k1
   have m:=hI k1;clear k1 n;go_wp2_with (first|(go_at_call 191;refine sC (zz _ _ _ _) ?_))
   exact Jj (by simp[results,results253,go_sem]) rfl ⟨zgo (λh=>m h.2),a⟩
theorem i6Ref_is (x y:Int)(w:World) :
  Calls prog 254 #[x,y] w λe w'=>e=.returned (Z6 x y)/\w'=w:=by
 obtain⟨V,d⟩:∃ V,V=Z6 x y:=⟨_,rfl⟩;rw[← d];have b:=hI d;clear d
 by_cases h1:In x 0 1000000
 ·have f:=Jd h1
  by_cases h2:In y (-10000) 10000
  ·have g:=Jd h2
   have k:=h1.1;have l:=h1.2;have c:Hid (_/\_):=⟨h1,h2⟩;clear h1 h2
   by_cases h3:100<=y
   ·have i:=Jd h3
    have a:Hid (V=x):=by show V=x;rw[b.out];unfold Z6;rw[Jf c.out,Jf h3]
    rw[a.out];clear h3;go_enter func254,ntmps254;go_wp2_with (first|(go_at_call 191;refine sC (zz _ _ _ _) ?_))
    go_ret;exact⟨rfl,rfl⟩
   ·have i:=Jc h3
    by_cases h4:20<=y
    ·have j:=Jd h4
     have a:Hid (V=x / 2):=by show V=_;rw[b.out];unfold Z6;rw[Jf c.out,Je h3,Jf h4]
     have hq:Int.tdiv x 2=x / 2:=by rw[Int.tdiv_eq_ediv_of_nonneg k]
     have m:IntKind.i64.wrap (x / 2)=x / 2:=by rw[Jk];omega
     rw[a.out];clear h3 h4;go_enter func254,ntmps254;go_wp2_with (first|(go_at_call 191;refine sC (zz _ _ _ _) ?_))
     go_ret;exact⟨rfl,rfl⟩
    ·have j:=Jc h4
     have a:Hid (V=0):=by show V=0;rw[b.out];unfold Z6;rw[Jf c.out,Je h3,Je h4]
     rw[a.out];clear h3 h4;go_enter func254,ntmps254;go_wp2_with (first|(go_at_call 191;refine sC (zz _ _ _ _) ?_))
     go_ret;exact⟨rfl,rfl⟩
  ·have g:=Jc h2
   have a:Hid (V=0):=by rw[b.out];exact Je (λh=>h2 h.2)
   rw[a.out];clear h1 h2;go_enter func254,ntmps254;go_wp2_with (first|(go_at_call 191;refine sC (zz _ _ _ _) ?_))
   go_ret;exact⟨rfl,rfl⟩
 ·have f:=Jc h1
  have a:Hid (V=0):=by rw[b.out];exact Je (λh=>h1 h.1)
  rw[a.out];clear h1;go_enter func254,ntmps254;go_wp2_with (first|(go_at_call 191;refine sC (zz _ _ _ _) ?_))
  go_ret;exact⟨rfl,rfl⟩
theorem zhz (x y:Int)(w:World):Calls prog 254 #[x,y] w λe w'=>e=.returned (Z6 x y)/\Below w.heap.size w w':=(i6Ref_is x y w).mono λ_ _ ⟨a,b⟩=>⟨a,by rw[b];exact bZ⟩
end Go.Proofs.YtmdnjgihooflfaaGreatDoor
