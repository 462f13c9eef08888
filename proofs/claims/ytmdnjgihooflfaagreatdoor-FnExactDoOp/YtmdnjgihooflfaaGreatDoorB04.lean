import Derived.Lib.SliceRun
import Derived.Laws.CopyOwn
import Derived.Laws.Tables
import Derived.Laws.CopyRow
import Derived.Test.YtmdnjgihooflfaaGreatDoorChecked
import Derived.WalkLawsBesides
import Derived.Defers
import Derived.Recover
import Derived.Shelf.Abstract
import Derived.LaidEql
import Derived.Stop.Asserts
import Derived.RowKitTokens
import Derived.Test.YtmdnjgihooflfaaGreatDoorB00
namespace Go.Proofs.YtmdnjgihooflfaaGreatDoor
open Go.RowKit
open Go.Value (int)
open Go.IntKind (i64)
open _root_.Go.Proofs.Tryz
set_option maxHeartbeats 64000000
set_option maxRecDepth 1000000
variable{w w':World}{t i base e sz g c N n:Nat}{v:Value}{P:Program}
theorem Tryz.infoBooking:(Tryz.prog.info? 150).map (λi=>(i.zero,i.size,i.bytes))=some (some (.agg #[int i64 0,int i64 0,.string ⟨#[]⟩,.slice none 0 0,int i64 0,int i64 0,int i64 0,int i64 0,.bool false,int i64 0,int i64 0,int i64 0,int i64 0]),13,128):=kR
theorem Du (pe len hei cl:Int)(all:Bool)(be:Int)(w:World) :
  Calls prog 182 #[.agg #[pe,len,hei,cl,all,be]] w λe w'=>e=.returned (.bool (decide (¬ (len=0/\hei=0))))/\Below w w w':=by
 obtain⟨c,d⟩:=nM (decide (¬ (len=0/\hei=0)));rw[← d];have a:=hI d;clear d
 by_cases h1:len=0
 ·subst h1
  by_cases h2:hei=0
  ·subst h2
   go_enter func182,ntmps182;go_wp2;go_ret;exact⟨by rw[a.out];rfl,zd bZ _⟩
  ·have e2:(hei != 0)=true:=by simpa using h2
   have b:Hid (c=true):=by rw[a.out];exact Jd (λh=>h2 h.2)
   clear h2;go_enter func182,ntmps182;go_wp2;go_ret;exact⟨by rw[b.out];rfl,zd bZ _⟩
 ·have e1:(len != 0)=true:=by simpa using h1
  have b:Hid (c=true):=by rw[a.out];exact Jd (λh=>h1 h.1)
  clear h1;go_enter func182,ntmps182;go_wp2;go_ret;exact⟨by rw[b.out];rfl,zd bZ _⟩
theorem Ar (pe len hei cl:Int)(all:Bool)(be:Int)(w:World) :
  Calls prog 183 #[.agg #[pe,len,hei,cl,all,be]] w λe w'=>e=.returned (.bool (decide (¬ (cl=0/\all=false/\be=0))))/\Below w w w':=by
 obtain⟨c,d⟩:=nM (decide (¬ (cl=0/\all=false/\be=0)));rw[← d];have b:=hI d;clear d
 by_cases h1:cl=0
 ·subst h1
  cases all with
  |true =>
   have a:Hid (c=true):=by rw[b.out];exact Jd (λh=>by cases h.2.1)
   go_enter func183,ntmps183;go_wp2;go_ret;exact⟨by rw[a.out];rfl,zd bZ _⟩
  |false =>
   by_cases h2:be=0
   ·subst h2
    go_enter func183,ntmps183;go_wp2;go_ret;exact⟨by rw[b.out];rfl,zd bZ _⟩
   ·have e2:(be != 0)=true:=by simpa using h2
    have a:Hid (c=true):=by rw[b.out];exact Jd (λh=>h2 h.2.2)
    clear h2;go_enter func183,ntmps183;go_wp2;go_ret;exact⟨by rw[a.out];rfl,zd bZ _⟩
 ·have e1:(cl != 0)=true:=by simpa using h1
  have a:Hid (c=true):=by rw[b.out];exact Jd (λh=>h1 h.1)
  clear h1;go_enter func183,ntmps183;go_wp2;go_ret;exact⟨by rw[a.out];rfl,zd bZ _⟩
theorem Bq (x y:Int)(w:World) :
  Calls prog 267 #[x,y] w λe w'=>e=.returned (.bool (decide (In x 1 2000/\In y 1 500)))/\w'=w:=by
 obtain⟨c,g⟩:=nM (decide (In x 1 2000/\In y 1 500));rw[← g];have f:=hI g;clear g
 by_cases h1:In x 1 2000
 ·have i:=Jd h1
  have b:=hI h1;clear h1
  by_cases h2:In y 1 500
  ·have j:=Jd h2
   have d:=hI h2;clear h2;go_enter func267,ntmps267;go_wp2_with (first|(go_at_call 191;refine bM (zx _ _ _ _) λw' a=>?_;have a:=a.symm;subst a))
   go_ret;exact⟨by rw[f.out,Jd ⟨b.out,d.out⟩];rfl,rfl⟩
  ·have j:=Jc h2
   have d:=hI h2;clear h2;go_enter func267,ntmps267;go_wp2_with (first|(go_at_call 191;refine bM (zx _ _ _ _) λw' a=>?_;have a:=a.symm;subst a))
   go_ret;exact⟨by rw[f.out,Jc (λh=>d.out h.2)];rfl,rfl⟩
 ·have i:=Jc h1
  have b:=hI h1;clear h1;go_enter func267,ntmps267;go_wp2_with (first|(go_at_call 191;refine bM (zx _ _ _ _) λw' a=>?_;have a:=a.symm;subst a))
  go_ret;exact⟨by rw[f.out,Jc (λh=>b.out h.1)];rfl,rfl⟩
theorem Br (x:Int)(w:World) :
  Calls prog 262 #[int i64 x] w λe w'=>e=.returned (.bool (decide (In x 1 3)))/\w'=w:=by
 go_enter func262,ntmps262;go_wp2_with (first|(go_at_call 191;refine bM (zx _ _ _ _) λw' a=>?_;have a:=a.symm;subst a))
 go_ret;exact⟨rfl,rfl⟩
theorem DT (x:Int)(w:World) :
  Calls prog 263 #[int i64 x] w λe w'=>e=.returned (.bool (decide (In x 1 4)))/\w'=w:=by
 go_enter func263,ntmps263;go_wp2_with (first|(go_at_call 191;refine bM (zx _ _ _ _) λw' a=>?_;have a:=a.symm;subst a))
 go_ret;exact⟨rfl,rfl⟩
theorem Cw (cl:Int)(all:Bool)(be:Int)(w:World) :
  Calls prog 268 #[cl,all,be] w λe w'=>e=.returned (.bool (decide (Fb cl all be)))/\w'=w:=by
 obtain⟨c,g⟩:=nM (decide (Fb cl all be));rw[← g];have b:=hI g;clear g
 by_cases h1:In cl 1 3
 ·have j:=Jd h1
  have d:=hI h1;clear h1
  cases all with
  |true =>
   by_cases h2:be=0
   ·subst h2
    go_enter func268,ntmps268;go_wp2_with (first|(go_at_call 262;refine bM (Br _ _) λw' a=>?_;have a:=a.symm;subst a))
    go_ret;exact⟨by rw[b.out,Jd ⟨d.out,.inl ⟨rfl,rfl⟩⟩];rfl,rfl⟩
   ·have i:(be == 0)=false:=by simpa using h2
    have f:=hI h2;clear h2;go_enter func268,ntmps268;go_wp2_with (first|(go_at_call 262;refine bM (Br _ _) λw' a=>?_;have a:=a.symm;subst a))
    go_ret;exact⟨by rw[b.out,Jc (λh=>by rcases h.2 with h|h;exact f.out h.2;cases h.1)];rfl,rfl⟩
  |false =>
   by_cases h2:In be 1 4
   ·have i:=Jd h2
    have f:=hI h2;clear h2;go_enter func268,ntmps268;go_wp2_with (first|(go_at_call 262;refine bM (Br _ _) λw' a=>?_;have a:=a.symm;subst a)|(go_at_call 263;refine bM (DT _ _) λw' a=>?_;have a:=a.symm;subst a))
    go_ret;exact⟨by rw[b.out,Jd ⟨d.out,.inr ⟨rfl,f.out⟩⟩];rfl,rfl⟩
   ·have i:=Jc h2
    have f:=hI h2;clear h2;go_enter func268,ntmps268;go_wp2_with (first|(go_at_call 262;refine bM (Br _ _) λw' a=>?_;have a:=a.symm;subst a)|(go_at_call 263;refine bM (DT _ _) λw' a=>?_;have a:=a.symm;subst a))
    go_ret;exact⟨by rw[b.out,Jc (λh=>by rcases h.2 with h|h;cases h.1;exact f.out h.2)];rfl,rfl⟩
 ·have j:=Jc h1
  have d:=hI h1;clear h1
  cases all with
  |true =>
   go_enter func268,ntmps268;go_wp2_with (first|(go_at_call 262;refine bM (Br _ _) λw' a=>?_;have a:=a.symm;subst a))
   go_ret;exact⟨by rw[b.out,Jc (λh=>d.out h.1)];rfl,rfl⟩
  |false =>
   go_enter func268,ntmps268;go_wp2_with (first|(go_at_call 262;refine bM (Br _ _) λw' a=>?_;have a:=a.symm;subst a))
   go_ret;exact⟨by rw[b.out,Jc (λh=>d.out h.1)];rfl,rfl⟩
theorem QX (pe len hei cl:Int)(all:Bool)(be:Int)(w:World) :
  Calls prog 240 #[.agg #[pe,len,hei,cl,all,be]] w λe w'=>qH (Zc ⟨pe,len,hei,cl,all,be⟩) e/\Below w w w':=by
 obtain⟨c1,m⟩:=nM (decide (In pe 1 20));obtain⟨c2,n⟩:=nM (decide (¬ (len=0/\hei=0)));obtain⟨c3,o⟩:=nM (decide (In len 1 2000/\In hei 1 500));obtain⟨c4,p⟩:=nM (decide (¬ (cl=0/\all=false/\be=0)));obtain⟨c5,q⟩:=nM (decide (Fb cl all be));have B:=hI m;have C:=hI n;have D:=hI o;have z:=hI p;have A:=hI q;have f:Hid (Zc ⟨pe,len,hei,cl,all,be⟩↔c1=true/\(c2=false∨c3=true)/\(c4=false∨c5=true)):=by
  show _↔_
  rw[m,n,o,p,q];unfold Zc Ce;simp only[decide_eq_true_eq,decide_eq_false_iff_not,Classical.not_not]
 clear m n o p q;go_enter func240,ntmps240;go_wp2_with fail;have i:Below _ w (w.alloc (.cells #[pe,len,hei,cl,all,be] 45)):=zd bZ _;have v:=Jb w (.cells #[pe,len,hei,cl,all,be] 45);generalize w.alloc _=W at i v ⊢;obtain⟨u,x,y,r,s,t⟩:=Rz v;refine(zx _ _ _ _).mono ?_;rw[← B.out];rintro e w' ⟨rfl,a⟩;have a:=a.symm;subst a
 cases c1 with
 |false =>
  have j:Hid (¬ _):=λh=>by have:=(f.1 h).1;cases this
  clear f;go_wp2;go_ret;exact⟨zh j,i⟩
 |true =>
  go_wp2_with fail;refine(Du pe len hei cl all be _).mono ?_;rw[← C.out];rintro e w1 ⟨rfl,l⟩;have d:=za v l;have g:=zb i l;clear u x y r s t i v l;have x:=bC d 1;have y:=bC d 2
  cases c2 with
  |false =>
   have u:=bC d 0;have r:=bC d 3;have s:=bC d 4;have t:=bC d 5;go_wp2_with fail;refine(Ar pe len hei cl all be _).mono ?_;rw[← z.out];rintro e E ⟨rfl,c⟩;have k:=za d c;have b:=zb g c;clear u x y r s t g d c;have r:=bC k 3;have s:=bC k 4;have t:=bC k 5
   cases c4 with
   |false =>
    go_wp2;go_ret;exact⟨zN (f.2 sM),b⟩
   |true =>
    go_wp2_with fail;refine(Cw _ _ _ _).mono ?_;rw[← A.out];rintro e w' ⟨rfl,a⟩;have a:=a.symm;subst a
    cases c5 with
    |true =>
     go_wp2;go_ret;exact⟨zN (f.2 sM),b⟩
    |false =>
     have j:Hid (¬ _):=λh=>by have h:=f.1 h;simp at h
     clear f;go_wp2;go_ret;exact⟨zh j,b⟩
  |true =>
   go_wp2_with fail;refine(Bq _ _ _).mono ?_;rw[← D.out];rintro e w' ⟨rfl,a⟩;have a:=a.symm;subst a
   cases c3 with
   |false =>
    have j:Hid (¬ _):=λh=>by have h:=f.1 h;simp at h
    clear f;go_wp2;go_ret;exact⟨zh j,g⟩
   |true =>
    have u:=bC d 0;have r:=bC d 3;have s:=bC d 4;have t:=bC d 5;go_wp2_with fail;refine(Ar pe len hei cl all be _).mono ?_;rw[← z.out];rintro e E ⟨rfl,c⟩;have k:=za d c;have b:=zb g c;clear u x y r s t g d c;have r:=bC k 3;have s:=bC k 4;have t:=bC k 5
    cases c4 with
    |false =>
     go_wp2;go_ret;exact⟨zN (f.2 sM),b⟩
    |true =>
     go_wp2_with fail;refine(Cw _ _ _ _).mono ?_;rw[← A.out];rintro e w' ⟨rfl,a⟩;have a:=a.symm;subst a
     cases c5 with
     |true =>
      go_wp2;go_ret;exact⟨zN (f.2 sM),b⟩
     |false =>
      have j:Hid (¬ _):=λh=>by have h:=f.1 h;simp at h
      clear f;go_wp2;go_ret;exact⟨zh j,b⟩
def DU (p:ZP)(legs:Int)(e:Ending):Prop:=e=.returned (.tuple #[int i64 (if QO p legs then zP p legs else 0),.bool (decide (QO p legs))])
theorem Cx {p:ZP}{legs:Int}(h:QO p legs):DU p legs (.returned (.tuple #[int i64 (zP p legs),.bool true])):=by
 unfold DU;rw[Jf h,Jd h]
theorem Il {p:ZP}{legs:Int}(h:¬ QO p legs):DU p legs (.returned (.tuple #[int i64 0,.bool false])):=by
 unfold DU;rw[Je h,Jc h]
def Zn (w:World):Prop :=
 w.cell? (11,0)=some ()/\w.cell? (11,1)=some (int i64 60) /\
 w.cell? (11,2)=some (int i64 450)/\w.cell? (11,3)=some (int i64 30) /\
 w.cell? (11,4)=some (int i64 600)/\w.cell? (11,5)=some (int i64 25)
theorem Zn.j0 (h:Zn w)(a:Below w w w'):Zn w':=by
 obtain⟨b,h1,h2,h3,c,d⟩:=h;exact⟨(a.cell (Ja w _ b)).trans b,(a.cell (Ja w _ h1)).trans h1,(a.cell (Ja w _ h2)).trans h2,(a.cell (Ja w _ h3)).trans h3,(a.cell (Ja w _ c)).trans c,(a.cell (Ja w _ d)).trans d⟩
def Zp (w:World):Prop :=
 w.cell? (10,0)=some (int i64 30)/\w.cell? (10,1)=some (int i64 50)/\w.cell? (10,2)=some (int i64 80)
theorem Zp.j0 (h:Zp w)(a:Below w w w'):Zp w':=by
 obtain⟨b,h1,h2⟩:=h;exact⟨(a.cell (Ja w _ b)).trans b,(a.cell (Ja w _ h1)).trans h1,(a.cell (Ja w _ h2)).trans h2⟩
theorem fg (x:Int)(w:World)(h:In x 1 1400) :
  Calls prog 299 #[x] w λe w'=>e=.returned (int i64 ((x+99) / 100))/\w'=w:=by
 unfold In at h;have a:=wR (x+100);have b:IntKind.i64.wrap (x+100 - 1)=x+99:=by rw[Jk];omega
 have hq:Int.tdiv (x+99) 100=(x+99) / 100:=by rw[Int.tdiv_eq_ediv_of_nonneg oM]
 have c:=wR ((x+99) / 100);go_enter func299,ntmps299;go_wp2;go_ret;exact⟨rfl,rfl⟩
theorem KH (x:Int)(w:World)(h:In x 1 2000)(k:Zn w) :
  Calls prog 297 #[x] w λe w'=>e=.returned (int i64 (if 600<x then 90+25*((x - 600+99) / 100) else if 450<x then 90 else 60))/\Below w w w':=by
 obtain⟨V,c⟩:=nM ((if 600<x then 90+25*((x - 600+99) / 100) else if 450<x then 90 else 60));rw[← c];have a:=hI c;clear c;obtain⟨b0,b1,b2,b3,b4,b5⟩:=k;unfold In at h
 by_cases h1:600<x
 ·have i:=Jd h1
  have m:=wR (x - 600);obtain⟨q,d⟩:=nM ((x - 600+99) / 100);have l:0<=q/\q<=20:=oM;have n:=wR (25*q);have o:=wR (25*q+30);have p:=wR (25*q+30+60);have f:In (x - 600) 1 1400:=⟨by omega,by omega⟩
  have b:Hid (V=25*q+30+60):=by show V=_;rw[a.out,Jf h1,← d];omega
  have g:=hI d;rw[b.out];clear h d a h1;go_enter func297,ntmps297;go_wp2;go_quiet (first|(go_at_call 299;refine Calls.quiet_of_same (v:=int i64 q) ((fg _ _ f).mono ?_);rintro e w' ⟨rfl,rfl⟩;exact⟨by rw[g.out],rfl⟩))
  go_wp2;go_ret;exact⟨rfl,dN bZ _⟩
 ·have i:=Jc h1
  by_cases h2:450<x
  ·have j:=Jd h2
   have b:Hid (V=90):=by show V=90;rw[a.out,Je h1,Jf h2]
   rw[b.out];clear h h1 h2 a;go_enter func297,ntmps297;go_wp2;go_ret;exact⟨rfl,bZ⟩
  ·have j:=Jc h2
   have e3:decide (0<x)=true:=dT;have b:Hid (V=60):=by show V=60;rw[a.out,Je h1,Je h2]
   rw[b.out];clear h h1 h2 a;go_enter func297,ntmps297;go_wp2;go_ret;exact⟨rfl,bZ⟩
theorem Po (x y:Int)(w:World)(l:Zn w) :
  Calls prog 292 #[x,y] w λe w'=>e=.returned (Qd x y)/\Below w w w':=by
 obtain⟨V,j⟩:=nM (Qd x y);rw[← j];have h:=hI j;have k:=hI l;clear j l
 by_cases h0:In x 1 2000/\In y 1 500
 ·have m:=Jd h0
  obtain⟨c,p⟩:=nM (decide (In x 1 2000/\In y 1 500));obtain⟨L,i⟩:=nM ((if 600<x then 90+25*((x - 600+99) / 100) else if 450<x then 90 else 60));have g:=hI i;have b:=hI h0;have o:0<=L/\L<=1000:=by
   have:=h0.1;unfold In at this;rw[i];repeat' split
   all_goals omega
  have q:=wR (L+30);clear p i h0 c m
  by_cases h5:220<y
  ·have n:=Jd h5
   have f:Hid (V=L+30):=by show V=_;rw[h.out,g.out];unfold Qd;rw[Jf (show Ce x y from b.out),Jf h5]
   rw[f.out];clear h5;go_enter func292,ntmps292;go_wp2_with (first|(go_at_call 267;refine(Bq _ _ _).mono ?_;rw[Jd b.out];rintro e w' ⟨rfl,a⟩;have a:=a.symm;subst a)|(go_at_call 297;refine(KH _ _ b.1 k).mono ?_;rw[← g.out];rintro e r ⟨rfl,d⟩))
   go_ret;exact⟨rfl,d⟩
  ·have n:=Jc h5
   have f:Hid (V=L):=by show V=L;rw[h.out,g.out];unfold Qd;rw[Jf (show Ce x y from b.out),Je h5];omega
   rw[f.out];clear h5;go_enter func292,ntmps292;go_wp2_with (first|(go_at_call 267;refine(Bq _ _ _).mono ?_;rw[Jd b.out];rintro e w' ⟨rfl,a⟩;have a:=a.symm;subst a)|(go_at_call 297;refine(KH _ _ b.1 k).mono ?_;rw[← g.out];rintro e r ⟨rfl,d⟩))
   go_ret;exact⟨rfl,d⟩
 ·have b:=hI h0
  have f:Hid (V=0):=by rw[h.out];exact Je h0
  rw[f.out];clear h0;go_enter func292,ntmps292;go_wp2_with (first|(go_at_call 267;refine(Bq _ _ _).mono ?_;rw[Jc b.out];rintro e w' ⟨rfl,a⟩;have a:=a.symm;subst a))
  go_ret;exact⟨rfl,bZ⟩
theorem LU (cl:Int)(all:Bool)(be:Int)(w:World)(i:Zp w) :
  Calls prog 293 #[cl,all,be] w λe w'=>e=.returned (Zs cl all be)/\Below w w w':=by
 obtain⟨V,f⟩:=nM (Zs cl all be);rw[← f];have d:=hI f;clear f;obtain⟨b0,b1,b2⟩:=i
 by_cases h1:Fb cl all be
 ·have b:=hI h1
  have h3:cl=1∨cl=2∨cl=3:=by have:=h1.1;unfold In at this;omega
  cases all with
  |true =>
   obtain rfl:be=0:=by rcases h1.2 with h|h;exact h.2;cases h.1
   clear h1
   rcases h3 with rfl|rfl|rfl
   ·have c:Hid (V=90):=by show V=90;rw[d.out];exact Jf b
    rw[c.out];go_enter func293,ntmps293;go_wp2_with (first|(go_at_call 268;refine(Cw _ _ _ _).mono ?_;rw[Jd b.out];rintro e w' ⟨rfl,a⟩;have a:=a.symm;subst a))
    go_ret;exact⟨rfl,bZ⟩
   ·have c:Hid (V=150):=by show V=150;rw[d.out];exact Jf b
    rw[c.out];go_enter func293,ntmps293;go_wp2_with (first|(go_at_call 268;refine(Cw _ _ _ _).mono ?_;rw[Jd b.out];rintro e w' ⟨rfl,a⟩;have a:=a.symm;subst a))
    go_ret;exact⟨rfl,bZ⟩
   ·have c:Hid (V=240):=by show V=240;rw[d.out];exact Jf b
    rw[c.out];go_enter func293,ntmps293;go_wp2_with (first|(go_at_call 268;refine(Cw _ _ _ _).mono ?_;rw[Jd b.out];rintro e w' ⟨rfl,a⟩;have a:=a.symm;subst a))
    go_ret;exact⟨rfl,bZ⟩
  |false =>
   have h4:1<=be/\be<=4:=by rcases h1.2 with h|h;cases h.1;exact h.2
   clear h1
   rcases h3 with rfl|rfl|rfl
   ·have c:Hid (V=be*30):=by show V=_;rw[d.out];unfold Zs;rw[Jf b.out];exact Int.mul_comm 30 be
    rw[c.out];have g:=wR (be*30);go_enter func293,ntmps293;go_wp2_with (first|(go_at_call 268;refine(Cw _ _ _ _).mono ?_;rw[Jd b.out];rintro e w' ⟨rfl,a⟩;have a:=a.symm;subst a))
    go_ret;exact⟨rfl,bZ⟩
   ·have c:Hid (V=be*50):=by show V=_;rw[d.out];unfold Zs;rw[Jf b.out];exact Int.mul_comm 50 be
    rw[c.out];have g:=wR (be*50);go_enter func293,ntmps293;go_wp2_with (first|(go_at_call 268;refine(Cw _ _ _ _).mono ?_;rw[Jd b.out];rintro e w' ⟨rfl,a⟩;have a:=a.symm;subst a))
    go_ret;exact⟨rfl,bZ⟩
   ·have c:Hid (V=be*80):=by show V=_;rw[d.out];unfold Zs;rw[Jf b.out];exact Int.mul_comm 80 be
    rw[c.out];have g:=wR (be*80);go_enter func293,ntmps293;go_wp2_with (first|(go_at_call 268;refine(Cw _ _ _ _).mono ?_;rw[Jd b.out];rintro e w' ⟨rfl,a⟩;have a:=a.symm;subst a))
    go_ret;exact⟨rfl,bZ⟩
 ·have b:=hI h1
  have c:Hid (V=0):=by rw[d.out];exact Je h1
  rw[c.out];clear h1;go_enter func293,ntmps293;go_wp2_with (first|(go_at_call 268;refine(Cw _ _ _ _).mono ?_;rw[Jc b.out];rintro e w' ⟨rfl,a⟩;have a:=a.symm;subst a))
  go_ret;exact⟨rfl,bZ⟩
theorem fh (x y:Int)(w:World) :
  Calls prog 254 #[x,y] w λe w'=>e=.returned (Z9 x y)/\w'=w:=by
 obtain⟨V,f⟩:=nM (Z9 x y);rw[← f];have c:=hI f;clear f
 by_cases h1:In x 0 1000000
 ·have g:=Jd h1
  by_cases h2:In y (-10000) 10000
  ·have i:=Jd h2
   have l:=h1.1;have m:=h1.2;have d:Hid (_/\_):=⟨h1,h2⟩;clear h1 h2
   by_cases h3:100<=y
   ·have j:=Jd h3
    have b:Hid (V=x):=by show V=x;rw[c.out];unfold Z9;rw[Jf d.out,Jf h3]
    rw[b.out];clear h3;go_enter func254,ntmps254;go_wp2_with (first|(go_at_call 191;refine bM (zx _ _ _ _) λw' a=>?_;have a:=a.symm;subst a))
    go_ret;exact⟨rfl,rfl⟩
   ·have j:=Jc h3
    by_cases h4:20<=y
    ·have k:=Jd h4
     have b:Hid (V=x / 2):=by show V=_;rw[c.out];unfold Z9;rw[Jf d.out,Je h3,Jf h4]
     have hq:Int.tdiv x 2=x / 2:=by rw[Int.tdiv_eq_ediv_of_nonneg l]
     have n:=wR (x / 2);rw[b.out];clear h3 h4;go_enter func254,ntmps254;go_wp2_with (first|(go_at_call 191;refine bM (zx _ _ _ _) λw' a=>?_;have a:=a.symm;subst a))
     go_ret;exact⟨rfl,rfl⟩
    ·have k:=Jc h4
     have b:Hid (V=0):=by show V=0;rw[c.out];unfold Z9;rw[Jf d.out,Je h3,Je h4]
     rw[b.out];clear h3 h4;go_enter func254,ntmps254;go_wp2_with (first|(go_at_call 191;refine bM (zx _ _ _ _) λw' a=>?_;have a:=a.symm;subst a))
     go_ret;exact⟨rfl,rfl⟩
  ·have i:=Jc h2
   have b:Hid (V=0):=by rw[c.out];exact Je (λh=>h2 h.2)
   rw[b.out];clear h1 h2;go_enter func254,ntmps254;go_wp2_with (first|(go_at_call 191;refine bM (zx _ _ _ _) λw' a=>?_;have a:=a.symm;subst a))
   go_ret;exact⟨rfl,rfl⟩
 ·have g:=Jc h1
  have b:Hid (V=0):=by rw[c.out];exact Je (λh=>h1 h.1)
  rw[b.out];clear h1;go_enter func254,ntmps254;go_wp2_with (first|(go_at_call 191;refine bM (zx _ _ _ _) λw' a=>?_;have a:=a.symm;subst a))
  go_ret;exact⟨rfl,rfl⟩
theorem KI (x y:Int)(w:World):Calls prog 254 #[x,y] w λe w'=>e=.returned (Z9 x y)/\Below w w w':=(fh x y w).mono λ_ _ ⟨a,b⟩=>⟨a,by rw[b];exact bZ⟩
def mg (C:Nat->List Value)(t f:Nat)(v:Value)(i:Nat):List Value:=if i=t then (C t).set f v else C i
theorem qV (C:Nat->List Value)(t f:Nat)(v:Value):mg C t f v t=(C t).set f v:=Jf rfl
theorem Ki (C:Nat->List Value)(f:Nat)(v:Value)(h:i≠t):mg C t f v i=C i:=Je h
theorem Zo {C:Nat->List Value}(h:w.ownsRow base e sz (some (g,0),N,c) N ((List.range (N*sz)).map (qd sz C)))(t f:Nat)(v:Value)(hl:(C t).length=sz)(b:f<sz) :
  (w.setCell (g,t*sz+f) v).ownsRow base e sz (some (g,0),N,c) N ((List.range (N*sz)).map (qd sz (mg C t f v))):=by
 have h0:0<sz:=oM;refine qX (zI h _ v) (λj _=>?_)
 by_cases e:j=t*sz+f
 ·subst e
  rw[Jf rfl,zO sz _ t f b,qV,List.getD_eq_getElem?_getD,List.getElem?_set_self oM]
  rfl
 ·rw[Je e]
  unfold qd
  by_cases e2:j / sz=t
  ·have a:j % sz≠f:=λa=>e (by have:=Nat.div_add_mod j sz;rw[e2,a,Nat.mul_comm] at this;omega)
   rw[e2,qV,List.getD_eq_getElem?_getD,List.getD_eq_getElem?_getD,List.getElem?_set_ne (λh=>a h.symm)]
  ·rw[Ki _ _ _ e2]
theorem Bs {C a:Nat->List Value}(h:w.ownsRow base e sz v n ((List.range (N*sz)).map (qd sz C)))(b:0<sz)(c:∀ i,i<N->C i=a i):w.ownsRow base e sz v n ((List.range (N*sz)).map (qd sz a)) :=
 qX h (λj d=>by unfold qd;rw[c _ ((Nat.div_lt_iff_lt_mul b).2 d)])
theorem zT {C:Nat->List Value}(h:w.ownsRow base e sz (some (g,0),N,c) N ((List.range (N*sz)).map (qd sz C))){f:Nat}(d:t<N)(b:f<sz):w.cell? (g,t*sz+f)=some ((C t).getD f (.bool false)):=by
 have a:t*sz+f<N*sz:=by
  have h1:(t+1)*sz<=_:=Nat.mul_le_mul_right sz d;have h2:(t+1)*sz=_:=Nat.succ_mul t sz
  omega
 rw[zs h _ a rfl,zO sz C t f b]
theorem Ps {c:Option Addr}{F:Nat->Int}(h:zS w c n F):∀ a,c=some a->∀ j u,(qp F n)[j]?=some u->w.cell? (a.add j)=some u:=by
 intro a e j u i;obtain⟨g,rfl⟩:=Dr _ _ _ _ i;obtain⟨b,off,d,f⟩:=h j g;rw[e] at d
 cases d
 rw[Addr.add_lit];exact f
theorem Hd (l:Addr)(n c:Nat)(F:Nat->Int)(w:World)(hn:n<=1048576)(r:zS w (some l) n F) :
  Calls prog 212 #[(some l,n,c)] w λe w'=>(∃ v,e=.returned v/\w'.ownsRow w 3 1 v n (qp F n))/\Below w w w':=by
 obtain⟨s,t,g,i,k⟩:=info_parts Tryz.infoInt;have b:Below _ w (w.alloc (.cells #[] 3)):=zd bZ _;have m:(w.alloc _).ownsRow _ 3 1 _ 0 []:=⟨rfl,.inr ⟨_,0,#[],rfl,Jr _,Jb w _,Jr _,Jq _,rfl,rfl⟩⟩;have p:=hI (Ps (r.j0 b));have qT:∀ (w) (a) (n c o c'),(binOp _ 27 (.slice a n c) _).run _ w=_:=λw a n c o c'=>Lib.run_eql_slice_nil w _ _ a n c o c' underlying27
 go_enter func212,ntmps212;go_wp2_with (first|(at_builtin;refine zu _ rfl _ _ 27 rfl _ 3 s _ 1 8 underlying27 t g i k rfl dC _ 0 [] (by rfl) m _ n c _ rfl (λh=>(by cases h)) (by rw[Qy,Nat.mul_one]) p (Az _ _) (by unfold maxLen;omega) oM sM ?_;intro v' w3 d f))
 go_ret;rw[Nat.zero_add,List.nil_append] at d;exact⟨⟨_,rfl,d⟩,b.grown f sM (λj q=>(m.lt j q).1)⟩
theorem QP {b:Func}{tmps:Array Value}{r:Nat}{t:TypeId}{a:Addr}(d:b.results=#[.cell r t])(f:tmps.getD r undef=.pointer (some a))(e:(loadVar t a).run P w=.ok v w) :
  (results b tmps).run P w=.ok v w:=by
 have c:(asAddr (.pointer (some a))).run P w=.ok a w:=by simp[asAddr,go_sem]
 unfold results;rw[d];simp only[List.mapM_toArray,List.mapM_cons,List.mapM_nil,Sem.run_bind,f];simp[↓c,↓e]
section
variable{w w':World}{base g k N e c t:Nat}{L:Nat->Value}
theorem Tryz.sizeBk:(Tryz.prog.info? 150).map (·.size)=some 13:=kR
theorem IZ (y:zA)(j:Addr)(o:Nat)(w:World)(M:y.c<=1048576)(N:zS w (some j) y.c y.J) :
  Calls prog 117 #[.agg #[int i64 y.k,int i64 y.e,.string y.j1,.slice (some j) y.c o,int i64 y.v,int i64 y.f,int i64 y.j,int i64 y.w,.bool y.h,int i64 y.x,int i64 y.C,int i64 y.y,int i64 y.j2]] w λe w'=>(∃ c c3,e=.returned (.agg #[int i64 y.k,int i64 y.e,.string y.j1,.slice c y.c c3,int i64 y.v,int i64 y.f,int i64 y.j,int i64 y.w,.bool y.h,int i64 y.x,int i64 y.C,int i64 y.y,int i64 y.j2])/\w'.ownsRow w 3 1 (.slice c y.c c3) y.c (qp y.J y.c))/\Below w w w':=by
 have f:Below _ w ((w.alloc (.cells (y,some j,o) 150)).alloc (.cells #[(),(),False,True,(),(),(),(),.bool false,(),(),(),()] 150)):=zd (zd bZ _) _;have x:=Cs f;have A:=by
  have h:=Jb (w.alloc (.cells (y,some j,o) 150)) (.cells #[(),(),False,True,(),(),(),(),.bool false,(),(),(),()] 150);rw[show(w.alloc (.cells (y,some j,o) 150)).heap.size=w.heap.size+1 by simp] at h
  exact h
 have G:((w.alloc (.cells (y,some j,o) 150)).alloc (.cells #[(),(),False,True,(),(),(),(),.bool false,(),(),(),()] 150)).heap.size=w.heap.size+2:=sM;have I:=bC x 3;go_enter func117,ntmps117;go_upto_region 1 with fail;generalize (w.alloc _).alloc _=V at f x A G I ⊢;go_wp2_with fail;refine(Hd j _ o _ V M (N.j0 f)).mono ?_;rintro e n ⟨⟨v,rfl,z⟩,i⟩;obtain⟨c,c3,rfl,_⟩:=zn z;have d:=za x i;have q:=za A i;have O:=bC d 3;have f3:=zc d 3;have H:zl n (n.setCell _ (c,y.c,c3)) _:=(zl.refl n (λb=>b=w.heap.size)).set (a:=(w.heap.size,3)) rfl _
 have r:(n.setCell (w.heap.size,3) (c,y.c,c3)).heap[w.heap.size]?=some (.cells (y,c,c3) 150 (0,0)):=by simpa using zk d 3 _
 have l:(n.setCell ⟨w.heap.size,3,_⟩ (c,y.c,c3)).heap[w.heap.size+1]?=_:=zG q 3 _ oM;have m:=H.j1 z (λg B s=>by have s:=s;have:=(World.ownsRow.lt z g B).1;omega)
 have u:Below _ w (n.setCell _ (c,y.c,c3)):=(zb f i).setCell (p:=(w.heap.size,3)) (Jr _) _;clear I x A i d q;go_upto_region 2 with fail;generalize n.setCell _ _=W at r l m u ⊢;clear O f3 H z;refine wp_region_lit ?_;refine wpList_load_row rfl _ _ rfl _ rfl _ _ _ _ r underlying150 rfl Tryz.sizeBk ?_;refine wpList_store_row rfl _ _ _ rfl _ _ rfl rfl _ _ l Tryz.sizeBk rfl (by simp[Value.oneCell']) ?_
 obtain⟨F,t⟩:=nM (W.setRow (w.heap.size+1) (y,c,c3));have K:F.heap[w.heap.size+1]?=some (.cells (y,c,c3) 150 (0,0)):=by rw[t];exact setRow_heap _ _ _ _ _ _ l
 have J:Below w w F:=by rw[t];exact below_setRow u oM _
 have E:=by
  have C:zl W F (λb=>b=w.heap.size+1):=by rw[t];exact⟨rfl,rfl,rfl,(below_setRow (Ji 0 W) (Jq _) _).size,λk _ D=>setRow_other _ _ _ _ D⟩
  exact C.j1 m (λg B s=>by have s:=s;have:=(World.ownsRow.lt m g B).1;omega)
 rw[← t];clear t;have L:=run_loadVar_row F _ 150 150 _ _ _ K underlying150 rfl Tryz.sizeBk;go_wp2;exact Jj (QP results117 rfl L) rfl ⟨⟨c,c3,rfl,zo E oM⟩,J⟩
theorem mh {l:List Value}(h:l.length=13):∃ u0 u1 u2 u3 u4 u5 u6 u7 u8 u9 u10 u11 u12,l=[u0,u1,u2,u3,u4,u5,u6,u7,u8,u9,u10,u11,u12]:=by
 refine⟨l[0],l[1],l[2],l[3],l[4],l[5],l[6],l[7],l[8],l[9],l[10],l[11],l[12],?_⟩
 apply List.ext_getElem
 ·simpa using h
 ·intro i h1 h2
  have h3:i<13:=oM;have a:i=0∨i=1∨i=2∨i=3∨i=4∨i=5∨i=6∨i=7∨i=8∨i=9∨i=10∨i=11∨i=12:=oM
  rcases a with rfl|rfl|rfl|rfl|rfl|rfl|rfl|rfl|rfl|rfl|rfl|rfl|rfl <;> rfl
structure KK (w:World)(base g k N:Nat)(S:Nat->zA)(L:Nat->Value):Prop where
 row:w.ownsRow base 150 13 (some (g,0),N,N) N ((List.range (N*13)).map (qd 13 (QM k (AM S L) [(),(),False,True,(),(),(),(),.bool false,(),(),(),()])))
 j4:∀ i,i<k->w.ownsRow base 3 1 (L i) (S i).c (qp (S i).J (S i).c)
 apart:∀ i j,i<j->j<k->∀ b,(L i).ownBlock=some b->(L j).ownBlock≠some b
theorem KK.j0 {S:Nat->zA}(h:KK w base g k N S L)(a:Below w w w'):KK w' base g k N S L:=⟨zm a h.row,λi b=>zm a (h.j4 i b),h.apart⟩
theorem KK.j1 {S:Nat->zA}(h:KK w base g N N S L):Zq w base (some (g,0),N,N) N S L :=
 ⟨Bs h.row dC (λi a=>qi _ _ a),h.j4,h.apart⟩
def KL (w:World)(g t:Nat)(v0 v1 v2 v3 v4 v5 v6 v7 d e a b c:Value):World :=
 (((((((((((((w.setCell (g,t*13) v0).setCell (g,t*13+1) v1).setCell (g,t*13+2) v2).setCell (g,t*13+3) v3).setCell (g,t*13+4) v4).setCell (g,t*13+5) v5).setCell (g,t*13+6) v6).setCell (g,t*13+7) v7).setCell (g,t*13+8) d).setCell (g,t*13+9) e).setCell (g,t*13+10) a).setCell (g,t*13+11) b).setCell (g,t*13+12) c)
theorem Gd (w:World)(g t:Nat)(v0 v1 v2 v3 v4 v5 v6 v7 f h c d e:Value):zl w (KL w g t v0 v1 v2 v3 v4 v5 v6 v7 f h c d e) (λb=>b=g) :=
 (((((((((((((zl.refl w (λb=>b=g)).set (a:=(g,t*13)) rfl v0).set (a:=(g,t*13+1)) rfl v1).set (a:=(g,t*13+2)) rfl v2).set (a:=(g,t*13+3)) rfl v3).set (a:=(g,t*13+4)) rfl v4).set (a:=(g,t*13+5)) rfl v5).set (a:=(g,t*13+6)) rfl v6).set (a:=(g,t*13+7)) rfl v7).set (a:=(g,t*13+8)) rfl f).set (a:=(g,t*13+9)) rfl h).set (a:=(g,t*13+10)) rfl c).set (a:=(g,t*13+11)) rfl d).set (a:=(g,t*13+12)) rfl e
theorem MU {C:Nat->List Value}(v0 v1 v2 v3 v4 v5 v6 v7 m n b d f:Value)(h:w.ownsRow base e 13 (some (g,0),N,c) N ((List.range (N*13)).map (qd 13 C)))(a:(C t).length=13) :
  (KL w g t v0 v1 v2 v3 v4 v5 v6 v7 m n b d f).ownsRow base e 13 (some (g,0),N,c) N ((List.range (N*13)).map (qd 13 (λi=>if i=t then [v0,v1,v2,v3,v4,v5,v6,v7,m,n,b,d,f] else C i))):=by
 have o:=Zo h t 0 v0 a dC;rw[Nat.add_zero] at o;have h1:=Zo o t 1 v1 (by simp only[qV,List.length_set];exact a) dC
 have h2:=Zo h1 t 2 v2 (by simp only[qV,List.length_set];exact a) dC
 have h3:=Zo h2 t 3 v3 (by simp only[qV,List.length_set];exact a) dC
 have p:=Zo h3 t 4 v4 (by simp only[qV,List.length_set];exact a) dC
 have q:=Zo p t 5 v5 (by simp only[qV,List.length_set];exact a) dC
 have r:=Zo q t 6 v6 (by simp only[qV,List.length_set];exact a) dC
 have s:=Zo r t 7 v7 (by simp only[qV,List.length_set];exact a) dC
 have h8:=Zo s t 8 m (by simp only[qV,List.length_set];exact a) dC
 have h9:=Zo h8 t 9 n (by simp only[qV,List.length_set];exact a) dC
 have j:=Zo h9 t 10 b (by simp only[qV,List.length_set];exact a) dC
 have k:=Zo j t 11 d (by simp only[qV,List.length_set];exact a) dC
 have l:=Zo k t 12 f (by simp only[qV,List.length_set];exact a) dC
 refine Bs l dC (λi hi=>?_)
 by_cases e:i=t
 ·subst e
  rw[Jf rfl];simp only[qV];obtain⟨u0,u1,u2,u3,u4,u5,u6,u7,u8,u9,u10,u11,u12,u⟩:=mh a;rw[u]
  rfl
 ·rw[Je e]
  simp only[Ki _ _ _ e]
theorem LX (ao:Option Addr)(N c:Nat)(S:Nat->zA)(w:World)(hN:N<=1048576)(hs:∀ i,i<N->0<(S i).c/\(S i).c<=1048576)(hz:qL w ao N S) :
  Calls prog 116 #[.slice ao N c,.func (.func 117) #[] #[]] w λe w'=>(∃ g L,e=.returned (.slice (some ⟨g,0,none⟩) N N)/\Zq w' w.heap.size (.slice (some ⟨g,0,none⟩) N N) N S L)/\Below w w w':=by
 obtain⟨i0,P,a0,a1,a2⟩:=info_parts Tryz.infoBooking;have HS:=hI hs;have HX:=hI hz;clear hs hz;go_enter func116,ntmps116;go_wp2_with (first|(at_make;refine wpList_make_full _ rfl _ _ 36 rfl _ 150 i0 _ 13 underlying36 P a0 a1 _ _ _ _ N rfl rfl rfl rfl (by rw[a2];omega) (by unfold maxLen;omega) (Jr _) ?_;intro w1 s r))
 go_loopw [6,7,13] (λ_ _ i wr=>∃ (k:Nat) (L:_),k<=N/\i=int i64 k/\KK wr w.heap.size w.heap.size k N S L/\Below w w wr) (λ_ _ i _=>N - (intOf i).toNat)
 case atStart=>exact⟨0,λ_=>.slice none 0 0,Jq _,rfl,⟨ZM ((ZW s).congr (λj hj=>(Ft (z:=#[_,_,_,_,_,_,_,_,_,_,_,_,_]) (sz:=13) rfl N j hj).trans (by unfold qd;rw[BU _ _ oM]))) (Jr _) (by unfold maxLen;omega),λi P=>by omega,λi j _ hj=>by omega⟩,bZ.grown r (Jr _) sM⟩
 case round =>
  obtain⟨k,L,hk,rfl,x,f⟩:=hrel;clear s r
  by_cases hlt:k<N
  ·obtain⟨E,hE,hI⟩:=HX
   obtain⟨b,off,rfl,n⟩:=hE k hlt;obtain⟨U,M,q,D,a6⟩:=hI k hlt;obtain⟨a4,a5⟩:=HS k hlt;obtain⟨b2,o2,ea,_⟩:=D 0 a4;obtain⟨H,rfl⟩:∃ H,U=_:=⟨_,ea⟩;clear ea;have l:b<w.heap.size:=Ja w _ (n 0 dC);have i1:(k:Int)<(N:Int):=oM;have F:Hid (zS w _ _ _):=D;have c0:wr.cell? _=some (.int _ _):=(f.cell (p:=⟨b,off+_,_⟩) l).trans (rC q (n 0 dC));have c1:wr.cell? _=some (.int _ _):=(f.cell l).trans (rC q (n 1 dC));have c2:wr.cell? _=some (.string _):=(f.cell l).trans (rC q (n 2 dC));have c3:wr.cell? _=some (.slice _ _ M):=(f.cell l).trans (rC q (n 3 dC));have c4:wr.cell? _=some (.int _ _):=(f.cell l).trans (rC q (n 4 dC));have c5:wr.cell? _=some (.int _ _):=(f.cell l).trans (rC q (n 5 dC));have c6:wr.cell? _=some (.int _ _):=(f.cell l).trans (rC q (n 6 dC));have c7:wr.cell? _=some (.int _ _):=(f.cell l).trans (rC q (n 7 dC));have c8:wr.cell? _=some (.bool _):=(f.cell l).trans (rC q (n 8 dC));have c9:wr.cell? _=some (.int _ _):=(f.cell l).trans (rC q (n 9 dC));have V:wr.cell? _=some (.int _ _):=(f.cell l).trans (rC q (n 10 dC));have X:wr.cell? _=some (.int _ _):=(f.cell l).trans (rC q (n 11 dC));have Y:wr.cell? _=some (.int _ _):=(f.cell l).trans (rC q (n 12 dC));have m:=zd f (.cells (S k,some H,M) 150);have u:=x.j0 (zd (Ji _ wr) (.cells (S k,some H,M) 150));have B:=Jb wr (.cells (S k,some H,M) 150);clear hE hI n q D a6 x;go_wp2_with fail;generalize wr.alloc _=W at m u B ⊢;clear c0 c1 c2 c3 c4 c5 c6 c7 c8 c9 V X Y B;refine(IZ _ H M W a5 (F.j0 m)).mono ?_;rintro e o ⟨⟨O,c3,rfl,Q⟩,y⟩;have d:=u.j0 y;have A:=Gd o w.heap.size k (S k).k (S k).e (S k).j1 (O,(S k).c,c3) (S k).v (S k).f (S k).j (S k).w (S k).h (S k).x (S k).C (S k).y (S k).j2;have G:Hid _:=MU (t:=k) (S k).k (S k).e (S k).j1 (O,(S k).c,c3) (S k).v (S k).f (S k).j (S k).w (S k).h (S k).x (S k).C (S k).y (S k).j2 d.row (by rw[BU _ _ oM];rfl)
   have I:=zl.j0 (zb m y) (zb m y).size A (λb e=>by have e:=e;omega)
   have T:Hid (KK (KL o w.heap.size k (S k).k (S k).e (S k).j1 (O,(S k).c,c3) (S k).v (S k).f (S k).j (S k).w (S k).h (S k).x (S k).C (S k).y (S k).j2) w.heap.size w.heap.size (k+1) N S (AP L k (O,(S k).c,c3))):=by
    refine⟨Bs G dC (λi P=>?_),λi P=>?_,λi j J hj=>?_⟩
    ·by_cases e:i=k
     ·subst e;rw[Jf rfl,qi _ _ oM];unfold AM;rw[qg]
     ·rw[Je e]
      by_cases h:i<k
      ·rw[qi _ _ h,qi _ _ oM];unfold AM;rw[zV _ _ _ _ e]
      ·rw[BU _ _ h,BU _ _ oM]
    ·by_cases e:i=k
     ·subst e;rw[qg];exact A.j1 (zo Q m.size) (λg Z e2=>zE d.row (zo Q m.size) dC g (by rw[show _ from e2];rfl) Z)
     ·rw[zV _ _ _ _ e];exact A.j1 (d.j4 i oM) (λg Z e2=>zE d.row (d.j4 i oM) dC g (by rw[show _ from e2];rfl) Z)
    ·by_cases e:j=k
     ·subst e
      rw[qg,zV _ _ _ _ oM];intro b h1 h3;have a:=((u.j4 i J).lt b h1).2;have c:=(World.ownsRow.lt Q b h3).1
      omega
     ·rw[zV _ _ _ _ e,zV _ _ _ _ oM]
      exact u.apart i j J oM
   have R:=hI I;obtain⟨u0,o0⟩:∃ v,o.cell? ⟨_,_+0,_⟩=some v:=⟨_,zT d.row hlt dC⟩;have f0:=d.row.frozenAt (k*13);obtain⟨u1,o1⟩:∃ v,o.cell? ⟨_,_+1,_⟩=some v:=⟨_,zT d.row hlt dC⟩;have f1:=d.row.frozenAt (k*13+1);obtain⟨u2,o2⟩:∃ v,o.cell? ⟨_,_+2,_⟩=some v:=⟨_,zT d.row hlt dC⟩;have f2:=d.row.frozenAt (k*13+2);obtain⟨u3,o3⟩:∃ v,o.cell? ⟨_,_+3,_⟩=some v:=⟨_,zT d.row hlt dC⟩;have f3:=d.row.frozenAt (k*13+3);obtain⟨u4,o4⟩:∃ v,o.cell? ⟨_,_+4,_⟩=some v:=⟨_,zT d.row hlt dC⟩;have f4:=d.row.frozenAt (k*13+4);obtain⟨u5,o5⟩:∃ v,o.cell? ⟨_,_+5,_⟩=some v:=⟨_,zT d.row hlt dC⟩;have f5:=d.row.frozenAt (k*13+5);obtain⟨u6,o6⟩:∃ v,o.cell? ⟨_,_+6,_⟩=some v:=⟨_,zT d.row hlt dC⟩;have f6:=d.row.frozenAt (k*13+6);obtain⟨u7,o7⟩:∃ v,o.cell? ⟨_,_+7,_⟩=some v:=⟨_,zT d.row hlt dC⟩;have f7:=d.row.frozenAt (k*13+7);obtain⟨u8,o8⟩:∃ v,o.cell? ⟨_,_+8,_⟩=some v:=⟨_,zT d.row hlt dC⟩;have f8:=d.row.frozenAt (k*13+8);obtain⟨u9,o9⟩:∃ v,o.cell? ⟨_,_+9,_⟩=some v:=⟨_,zT d.row hlt dC⟩;have f9:=d.row.frozenAt (k*13+9);obtain⟨u10,b0⟩:∃ v,o.cell? ⟨_,_+10,_⟩=some v:=⟨_,zT d.row hlt dC⟩;have a7:=d.row.frozenAt (k*13+10);obtain⟨u11,b1⟩:∃ v,o.cell? ⟨_,_+11,_⟩=some v:=⟨_,zT d.row hlt dC⟩;have a8:=d.row.frozenAt (k*13+11);obtain⟨u12,b3⟩:∃ v,o.cell? ⟨_,_+12,_⟩=some v:=⟨_,zT d.row hlt dC⟩;have a9:=d.row.frozenAt (k*13+12);rw[Nat.add_zero] at o0;clear u d Q m y A G I f F;go_wp2;go_roundw
   case rel =>
    have K:=T;have C:=R;unfold KL at K C;exact⟨_,_,by omega,by go_num,K,C⟩
   case measure=>simp[intOf];omega
  ·obtain rfl:k=N:=by omega
   have HO:=hI x.j1;go_wp2;go_ret;exact⟨⟨_,L,rfl,HO⟩,f⟩
end
section
def Qq (S:Nat->zA)(k:Nat)(b:zA)(i:Nat):zA:=if i=k then b else S i
theorem ZS (S:Nat->zA)(k:Nat)(b:zA):Qq S k b k=b:=Jf rfl
theorem Au (S:Nat->zA)(k:Nat)(b:zA){i:Nat}(h:i≠k):Qq S k b i=S i:=Je h
theorem TH (S:Nat->zA)(k:Nat)(a b:zA):Qq (Qq S k a) k b=Qq S k b:=by
 funext i
 unfold Qq
 split <;> rfl
def Zd (b:zA)(a:Int)(y:qD):zA :=
 if y.d=4 then { b with C:=2,y:=0 }
 else if y.d=5 then { b with e:=a,c:=y.c,J:=y.J,v:=y.v,f:=y.f,j:=y.j,w:=y.w,h:=y.h,x:=y.x,j2:=zP ⟨y.v,y.f,y.j,y.w,y.h,y.x⟩ y.c }
 else if y.d=6 then { b with C:=3,y:=0 }
 else if y.d=7 then { b with j1:=y.j1 }
 else { b with C:=4 }
def Aw (n:Nat)(a:Int)(y:qD):zA :=
 ⟨(n:Int)+1,a,y.j1,y.c,y.J,y.v,y.f,y.j,y.w,y.h,y.x,if y.d=2 then 1 else 2,if y.d=2 then y.y else 0,zP ⟨y.v,y.f,y.j,y.w,y.h,y.x⟩ y.c⟩
theorem Fu (sz:Nat)(a:0<sz){C b:Nat->List Value}{f:Nat->Value}{k:Nat}(h1:∀ r,r<sz->f (k*sz+r)=(b k).getD r (.bool false))(h2:∀ j,j / sz≠k->f j=qd sz C j)(h3:∀ i,i≠k->b i=C i)(j:Nat):f j=qd sz b j:=by
 by_cases e:j / sz=k
 ·have c:j=k*sz+j % sz:=by rw[← e,Nat.mul_comm];exact(Nat.div_add_mod j sz).symm
  rw[c,h1 _ (Nat.mod_lt _ a),zO sz _ _ _ (Nat.mod_lt _ a)]
 ·rw[h2 j e]
  unfold qd;rw[h3 _ e]
section
variable {w w' : World} {base g c k N : Nat} {S : Nat -> zA} {E : Nat -> Value} {u : Value} {y : zA}
theorem Zq.put (h:Zq w base (some (g,0),N,c) N S E)(s:zl w w' (λb=>b=g))(a:w'.ownsRow base 150 13 (some (g,0),N,c) N (AQ (Qq S k y) (AP E k u) N))(t:w.ownsRow base 3 1 u y.c (qp y.J y.c))(m:∀ i,i<N->i≠k->∀ b,(E i).ownBlock=some b->u.ownBlock≠some b) :
  Zq w' base (some (g,0),N,c) N (Qq S k y) (AP E k u):=by
 have far:∀ {n} {v} {xs},_->w'.ownsRow base 3 1 v n xs:=λp=>s.j1 p (λq f l=>zE h.row p dC q (by rw[l];rfl) f)
 refine⟨a,λi r=>?_,λi j d o b h1 h2=>?_⟩
 ·by_cases e:i=k
  ·subst e;rw[qg,ZS];exact far t
  ·rw[zV _ _ _ _ e,Au _ _ _ e];exact far (h.j4 i r)
 ·by_cases e:i=k
  ·subst e
   rw[qg] at h1;rw[zV _ _ _ _ oM] at h2;exact m j o oM b h2 h1
  ·rw[zV _ _ _ _ e] at h1
   by_cases e2:j=k
   ·subst e2
    rw[qg] at h2;exact m i oM e b h1 h2
   ·rw[zV _ _ _ _ e2] at h2
    exact h.apart i j d o b h1 h2
theorem Zq.far_same (h:Zq w base (some (g,0),N,c) N S E)(e:k<N):∀ i,i<N->i≠k->∀ b,(E i).ownBlock=some b->(E k).ownBlock≠some b:=λi d a b h1 h2=>by
 rcases Nat.lt_or_gt_of_ne a with c|c
 ·exact h.apart i k c e b h1 h2
 ·exact h.apart k i c d b h2 h1
end
section
variable {w w' : World} {base g c k n1 n2 n3 : Nat} {v1 v2 u : Value} {x : zY} {L C A B D E : Nat -> Value} {y : zA}
theorem zz.k4 (h:zz w base v1 v2 (some (g,0),n3,c) n1 n2 n3 x L C A B D E)(f:zl w w' (λb=>b=g))(a:w'.ownsRow base 150 13 (some (g,0),n3,c) n3 (AQ (Qq x.u k y) (AP E k u) n3))(l:w.ownsRow base 3 1 u y.c (qp y.J y.c))(j:∀ i,i<n3->i≠k->∀ b,(E i).ownBlock=some b->u.ownBlock≠some b) :
  zz w' base v1 v2 (some (g,0),n3,c) n1 n2 n3 { x with u:=Qq x.u k y } L C A B D (AP E k u) :=
 ⟨h.G.j7 f (λq e=>by obtain⟨cs,d⟩:=zC h.u.row q (by rw[show _ from e];rfl);exact⟨cs,_,d,by decide,by decide,by decide⟩),h.F.j7 f (λq e=>by obtain⟨cs,d⟩:=zC h.u.row q (by rw[show _ from e];rfl);exact⟨cs,_,d,by decide,by decide,by decide,by decide⟩),h.u.put f a l j⟩
end
section
variable {w w' : World} {base k n1 n2 : Nat} {v1 v2 v3 v' lv : Value} {x : zY} {L C A B D E : Nat -> Value}
theorem zz.addBk {lim:Nat}{nb:zA}(h:zz w base v1 v2 v3 n1 n2 k x L C A B D E)(a:∀ i,i<k->∀ b,(E i).ownBlock=some b->b<lim)
  (n:w.ownsRow lim 3 1 lv nb.c (qp nb.J nb.c)) (c:base<=lim) (g:w.grownBy w' v3.ownBlock)
  (d:w'.ownsRow base 150 13 v' (k+1) (AQ x.u E k++AM (Qq x.u k nb) (AP E k lv) k)):zz w' base v1 v2 v' n1 n2 (k+1) { x with g:=k+1,u:=Qq x.u k nb } L C A B D (AP E k lv):=by
 have f:=h.u.congr (S':=Qq _ k nb) (λi hi=>(Au _ _ _ oM).symm)
 have h2:zz w _ v1 v2 v3 n1 n2 k { x with g:=k+1,u:=Qq _ k nb } L C A B D E:=⟨h.G,h.F,f⟩;have e:AQ _ E k=AQ (Qq x.u k nb) E k:=List.map_congr_left λj l=>by
  have m:=by simpa using l
  unfold qd AM;rw[Au _ _ _ (show j / 13≠k by omega)]
 rw[e] at d;exact h2.book a (by show w.ownsRow lim 3 1 lv (Qq _ k nb k).c (qp (Qq _ k nb k).J (Qq _ k nb k).c);rw[ZS];exact n) c g d
end
def Ct (g base N f c:Nat)(b a:Option Addr)(T:Nat->Prop)(h:zY)(d name price:Int)(i:World->Value->Prop)(L C A B D:Nat->Value)(w:World)(e:Ending)(w':World):Prop :=
 ∃ abk cbk rv E,e=.returned (.agg #[d,name,price,rv])/\i w' rv/\zz w' base (b,N,f) (a,N,c) (abk,h.g,cbk) N N h.g h L C A B D E /\
  w'.heap[g]?=some (.cells #[.slice b N f,.slice a N c,.slice abk h.g cbk] 38 (0,0))/\zl w w' T
theorem Cy {w:World}{g t:Nat}{u0 u1 u2 u3:Value}(h:w.heap[g]?=some (.cells #[u0,u1,u2,u3] t (0,0)))(v0 v1 v2 v3:Value):((((w.setCell (g,0) v0).setCell (g,1) v1).setCell (g,2) v2).setCell (g,3) v3).heap[g]?=some (.cells #[v0,v1,v2,v3] t (0,0)):=by
 simpa using zk (zk (zk (zk h 0 v0) 1 v1) 2 v2) 3 v3
theorem AR (w:World)(g:Nat)(v0 v1 v2 v3:Value):zl w ((((w.setCell ⟨g,0,none⟩ v0).setCell ⟨g,1,none⟩ v1).setCell ⟨g,2,none⟩ v2).setCell ⟨g,3,none⟩ v3) (λb=>b=g):=((((zl.refl w (λb=>b=g)).set (a:=⟨g,0,none⟩) rfl v0).set (a:=⟨g,1,none⟩) rfl v1).set (a:=⟨g,2,none⟩) rfl v2).set (a:=⟨g,3,none⟩) rfl v3
theorem jz {w:World}{g t:Nat}{u0 u1 u2 u3:Value}(h:w.heap[g]?=some (.cells #[u0,u1,u2,u3] t (0,0)))(v:Value):(w.setCell (g,2) v).heap[g]?=some (.cells #[u0,u1,v,u3] t (0,0)):=by simpa using zk h 2 v
theorem Pw {w w':World}{T:Nat->Prop}(h:zl w w' T){b i:Nat}(hb:w.heap.size<=b)(u:Value):zl w (w'.setCell (b,i) u) T :=
 ⟨h.os,h.tape,h.output,by have:=h.size;simpa using this,λk a c=>(Below.heap_setCell w' (b,i) u k (by show k≠b;omega)).trans (h.block k a c)⟩
theorem fq {w w':World}{c:Option Addr}{n base gb:Nat}{F:Nat->Int}(g:zl w w' (λb=>b=gb))(h:zS w c n F)(e:0<n->∀ a,c=some a->a.block<base)(hg:base<=gb):zS w' c n F:=λk d=>by
 obtain⟨b,off,rfl,f⟩:=h k d;have hb:b<base:=e oM _ rfl;have i:=g.block b (Ja w _ f) (by show _;omega)
 refine⟨b,off,rfl,?_⟩;rw[← f];unfold World.cell?;simp only[i]
theorem Q5 {w w':World}{T:Nat->Prop}(h:zl w w' T){a:Addr}{v:Value}(b:w.cell? a=some v)(c:¬ T a.block):w'.cell? a=some v:=by
 have:=h.block _ (Ja w _ b) c;unfold World.cell? at b ⊢;rw[this];exact b
theorem BY {w Z:World}{T:Nat->Prop}{g c base k l m:Nat}{v1 v2 v3 n o p u0 u1 u2 u3:Value}{x:zY}{L C A B D E:Nat->Value}(d:zl w Z T)(h:zz Z base v1 v2 v3 k l m x L C A B D E)(j:Z.heap[g]?=some (.cells #[n,o,p] 38 (0,0)))(b:Z.heap[c]?=some (.cells #[u0,u1,u2,u3] 41 (0,0)))(a:w.heap.size<=c)(i c1 c2 c3:Value){F:World}(q:F=(((Z.setCell ⟨c,0,none⟩ i).setCell ⟨c,1,none⟩ c1).setCell ⟨c,2,none⟩ c2).setCell ⟨c,3,none⟩ c3) :
  zz F base v1 v2 v3 k l m x L C A B D E/\F.heap[g]?=some (.cells #[n,o,p] 38 (0,0))/\zl w F T/\F.heap[c]?=some (.cells #[i,c1,c2,c3] 41 (0,0)):=by
 subst q;have f:g≠c:=λe=>by subst e;rw[j] at b;simp at b
 exact⟨h.box (AR _ _ _ _ _ _) b dC,(AR _ _ _ _ _ _).blk j f,Pw (Pw (Pw (Pw d a _) a _) a _) a _,Cy b _ _ _ _⟩
theorem Hf {w Z:World}{T:Nat->Prop}{g h d base q r s:Nat}{v1 v2 v3 t u v u0 u1 u2 u3 y z I G:Value}{x:zY}{L C A B D E:Nat->Value}(k:zl w Z T)(m:zz Z base v1 v2 v3 q r s x L C A B D E)(o:Z.heap[g]?=some (.cells #[t,u,v] 38 (0,0)))(i:Z.heap[h]?=some (.cells #[u0,u1,u2,u3] 41 (0,0)))(c:Z.heap[d]?=some (.cells #[y,z,I,G] 41 (0,0)))(f:h≠d)(n:w.heap.size<=d)(p:Value){F:World}(H:F=Z.setCell (d,2) p) :
  zz F base v1 v2 v3 q r s x L C A B D E/\F.heap[g]?=some (.cells #[t,u,v] 38 (0,0))/\zl w F T/\F.heap[h]?=some (.cells #[u0,u1,u2,u3] 41 (0,0))/\F.heap[d]?=some (.cells #[y,z,p,G] 41 (0,0)):=by
 subst H;have l:g≠d:=λe=>by subst e;rw[o] at c;simp at c
 have j:=(zl.refl Z (λb=>b=d)).set (a:=(d,2)) rfl p
 exact⟨m.box j c dC,j.blk o l,Pw k n _,j.blk i f,jz c p⟩
end
def js (n m:Nat)(P:Nat->Prop)(r:Int):Prop:=(∃ k:Nat,r=(k:Int)/\n≠60/\ZC m P k)∨(r=-1/\(n=60∨∀ k,¬ ZC m P k))
theorem GI (y bo:Option Addr)(m K n c:Nat)(p:zv)(S:Nat->zU)(cl q:Int)(w:World)(C:p.n=m)(x:QF p n S)(I:zJ w y p)(J:qn w bo n S) :
  Calls prog 167 #[(y,m,K),(bo,n,c),cl,q] w λe w'=>(∃ r:Int,e=.returned r/\js n p.n (BM p n S cl q) r)/\Below w w w':=by
 have u:=hI C;have E:=hI x;have F:=hI I;have N:=hI J;have Q:m<=6:=by rw[← C];exact x.1.1
 have s:=x.2.1;clear C x I J
 by_cases h60:n=60
 ·have z:(n == 60)=true:=by simpa using h60
  have A:((n:Int) == 60)=true:=by simp;omega
  have l:=hI h60;clear h60;go_enter func167,ntmps167;go_wp2;go_ret;exact⟨⟨_,rfl,.inr ⟨rfl,.inl l⟩⟩,bZ⟩
 ·have z:(n == 60)=false:=by simpa using h60
  have A:((n:Int) == 60)=false:=by simp;omega
  have l:Hid (n≠60):=h60;clear h60;go_enter func167,ntmps167;go_wp2_with fail;refine(Gj y bo m K n c p S _ u E.1 s E.manys F N).mono ?_;rintro e D ⟨⟨v,rfl,d⟩,f⟩;obtain⟨aw,cw,rfl,_⟩:=zn d;have M:=hI (Bo d);clear d;go_wp2;go_loopw [10,11,20] (λ_ _ i wr=>∃ k,k<=m/\i=int i64 k/\(∀ j,j<k->¬ BM p n S cl q j)/\Below D D wr) (λ_ _ i _=>m - (intOf i).toNat)
  case atStart=>exact⟨0,Jq _,rfl,λj H=>by omega,bZ⟩
  case round =>
   obtain⟨k,hk,rfl,g,a⟩:=hrel;have t:=hI g;clear g
   by_cases hlt:k<m
   ·obtain⟨b,off,rfl,h1,h2⟩:=F k (by rw[u.out];exact hlt)
    have G:=Ja w _ h1;have c1:=tR (zb f a) h1 G;have c2:=tR (zb f a) h2 G;obtain⟨b3,L,rfl,h3⟩:=M k hlt;have B:=Ja D _ h3;have c3:(wr.alloc (.cells #[(p.A k),(p.B k)] 231)).cell? _=_:=tR (zd a _) h3 B;have i1:=n0 k;have i2:(k:Int)<(m:Int):=oM;clear h1 h2 h3
    by_cases g1:p.A k=cl
    ·have O:(p.A k == cl)=true:=by simpa using g1
     by_cases g2:q<=qZ p S n k
     ·have P:=Jd g2
      have o:Hid (ZC p.n _ k):=⟨by rw[u.out];exact hlt,⟨g1,g2⟩,t⟩
      clear g1 g2;go_wp2;go_ret;exact⟨⟨_,rfl,.inl ⟨k,rfl,l,o⟩⟩,zb f (zd a _)⟩
     ·have P:=Jc g2
      have o:Hid (¬ BM p n S cl q k):=λh=>g2 h.2
      clear g1 g2;go_wp2;go_roundw
      case rel=>exact⟨k+1,by omega,by go_num,λj H=>by
       by_cases e:j=k
       ·subst e;exact o
       ·exact t j oM,zd a _⟩
      case measure=>simp[intOf];omega
    ·have O:(p.A k == cl)=false:=by simpa using g1
     have o:Hid (¬ BM p n S cl q k):=λh=>g1 h.1
     clear g1;go_wp2;go_roundw
     case rel=>exact⟨k+1,by omega,by go_num,λj H=>by
      by_cases e:j=k
      ·subst e;exact o
      ·exact t j oM,zd a _⟩
     case measure=>simp[intOf];omega
   ·obtain rfl:k=m:=by omega
    go_wp2;go_ret;exact⟨⟨_,rfl,.inr ⟨rfl,.inr (λj h=>t j (by have:=h.1;rw[u.out] at this;exact this) h.2.1)⟩⟩,zb f a⟩
theorem PL (K bo:Option Addr)(m mc n c:Nat)(p:zv)(S:Nat->zU)(cl q:Int)(w:World)(R:p.n=m)(H:QF p n S)(Z:zJ w K p)(hz:qn w bo n S) :
  Calls prog 168 #[(K,m,mc),(bo,n,c),cl,q] w λe w'=>(∃ r:Int,e=.returned r/\js n p.n (BL p n S cl q) r)/\Below w w w':=by
 have A:=hI R;have U:=hI H;have J:=hI Z;have HZ:=hI hz;have a1:m<=6:=by rw[← R];exact H.1.1
 have G:=H.2.1;clear R H Z hz
 by_cases h60:n=60
 ·have O:(n == 60)=true:=by simpa using h60
  have P:((n:Int) == 60)=true:=by simp;omega
  have u:=hI h60;clear h60;go_enter func168,ntmps168;go_wp2;go_ret;exact⟨⟨_,rfl,.inr ⟨rfl,.inl u⟩⟩,bZ⟩
 ·have O:(n == 60)=false:=by simpa using h60
  have P:((n:Int) == 60)=false:=by simp;omega
  have u:Hid (n≠60):=h60;clear h60;go_enter func168,ntmps168;go_wp2_with fail;refine(Gj K bo m mc n c p S _ A U.1 G U.manys J HZ).mono ?_;rintro e w1 ⟨⟨v,rfl,s⟩,y⟩;obtain⟨aw,cw,rfl,_⟩:=zn s;have V:=hI (Bo s);clear s;go_wp2;go_loopw [10,12,23] (λv _ i wr=>∃ (k:Nat) (L:Bool),k<=m/\i=int i64 k/\v=.bool L/\(L=true↔∃ j,j<k/\p.A j=cl/\q<=p.B j)/\Below w1 w1 wr) (λ_ _ i _=>m - (intOf i).toNat)
  case atStart=>exact⟨0,_,Jq _,rfl,rfl,⟨λh=>(by cases h),λ⟨j,B,_⟩=>oM⟩,bZ⟩
  case round =>
   obtain⟨k,L,hk,rfl,rfl,Y,a⟩:=hrel;have l:=hI Y;clear Y
   by_cases hlt:k<m
   ·obtain⟨b,off,rfl,h1,h2⟩:=J k (by rw[A.out];exact hlt)
    have F:=Ja w _ h1;have c1:=tR (zb y a) h1 F;have c2:=tR (zb y a) h2 F;clear h1 h2
    cases L with
    |true =>
     go_wp2;go_roundw
     case rel=>exact⟨k+1,_,by omega,by go_num,rfl,⟨λ_=>(by obtain⟨j,B,h⟩:=l.1 rfl;exact⟨j,by omega,h⟩),λ_=>rfl⟩,zd a _⟩
     case measure=>simp[intOf];omega
    |false =>
     have X:Hid (¬ _):=λh=>by have:=l.2 h;cases this
     clear l
     by_cases g1:p.A k=cl
     ·have M:(p.A k == cl)=true:=by simpa using g1
      by_cases g2:q<=p.B k
      ·have N:=Jd g2
       have D:Hid (_/\_):=⟨g1,g2⟩;clear g1 g2;go_wp2;go_roundw
       case rel=>exact⟨k+1,_,by omega,by go_num,rfl,⟨λ_=>⟨k,by omega,D⟩,λ_=>rfl⟩,zd a _⟩
       case measure=>simp[intOf];omega
      ·have N:=Jc g2
       have D:Hid (¬ (p.A k=cl/\_)):=λh=>g2 h.2
       clear g1 g2;go_wp2;go_roundw
       case rel=>exact⟨k+1,_,by omega,by go_num,rfl,⟨λh=>(by cases h),λ⟨j,B,h⟩=>by
        by_cases e:j=k
        ·subst e;exact absurd h D
        ·exact absurd ⟨j,by omega,h⟩ X⟩,zd a _⟩
       case measure=>simp[intOf];omega
     ·have M:(p.A k == cl)=false:=by simpa using g1
      have D:Hid (¬ (_/\q<=p.B k)):=λh=>g1 h.1
      clear g1;go_wp2;go_roundw
      case rel=>exact⟨k+1,_,by omega,by go_num,rfl,⟨λh=>(by cases h),λ⟨j,B,h⟩=>by
       by_cases e:j=k
       ·subst e;exact absurd h D
       ·exact absurd ⟨j,by omega,h⟩ X⟩,zd a _⟩
      case measure=>simp[intOf];omega
   ·obtain rfl:k=m:=by omega
    have E:Hid (L=true↔∃ j,j<p.n/\p.A j=cl/\q<=p.B j):=by rw[A.out];exact l
    have I:=hI (V.j0 a);have o:=zb y a;clear l V y a;generalize wr=T at *;go_wp2;go_loopw [13,14,43] (λ_ _ i wr=>∃ t,t<=k/\i=int i64 t/\(∀ j,j<t->¬ BL p n S cl q j)/\Below T T wr) (λ_ _ i _=>k - (intOf i).toNat)
    case atStart=>exact⟨0,Jq _,rfl,λj B=>by omega,bZ⟩
    case round =>
     obtain⟨t,ht,rfl,z,a⟩:=hrel;have C:=hI z;clear z
     by_cases hlt2:t<k
     ·obtain⟨b,off,rfl,h1,h2⟩:=J t (by rw[A.out];exact hlt2)
      have F:=Ja w _ h1;have c1:=tR (zb o a) h1 F;have c2:=tR (zb o a) h2 F;obtain⟨b3,a0,rfl,h3⟩:=I t hlt2;have Q:=Ja T _ h3;have d:=Jb wr (.cells #[(p.A t),(p.B t)] 231);have f:=zd a (.cells #[(p.A t),(p.B t)] 231);clear h1 h2;go_upto_region 13 with fail;generalize hW:wr.alloc _=W at d f ⊢;clear hW;have a2:=zD d;have z0:=gC d 0;have z1:=gC d 1;have y3:=gW f h3 Q;have i1:=n0 t;have i2:(t:Int)<(k:Int):=oM;clear c1 c2 d a h3
      by_cases g1:p.A t=cl
      ·have M:(p.A t == cl)=true:=by simpa using g1
       by_cases g2:qZ p S n t=p.B t
       ·have N:(qZ p S n t == p.B t)=true:=by simpa using g2
        by_cases g3:q<=p.B t
        ·have e3:=Jd g3
         have x:Hid (ZC p.n _ t):=⟨by rw[A.out];exact hlt2,⟨g1,g2,.inl g3⟩,C⟩
         clear g1 g2 g3;refine ze kR kR ?_
         repeat(go_big_quiet_step (fail))
         refine Jl ?_;rintro _ ⟨g,rfl⟩;go_wp2;go_ret;exact⟨⟨_,rfl,.inl ⟨t,rfl,u,x⟩⟩,zb o (zb f g.o)⟩
        ·have e3:=Jc g3
         cases L with
         |false =>
          have x:Hid (ZC p.n _ t):=⟨by rw[A.out];exact hlt2,⟨g1,g2,.inr (λh=>by have:=E.2 h;cases this)⟩,C⟩
          clear g1 g2 g3;refine ze kR kR ?_
          repeat(go_big_quiet_step (fail))
          refine Jl ?_;rintro _ ⟨g,rfl⟩;go_wp2;go_ret;exact⟨⟨_,rfl,.inl ⟨t,rfl,u,x⟩⟩,zb o (zb f g.o)⟩
         |true =>
          have x:Hid (¬ BL p n S cl q t):=λh=>by
           rcases h.2.2 with h|h
           ·exact g3 h
           ·exact h (E.1 rfl)
          clear g1 g2 g3;refine ze kR kR ?_
          repeat(go_big_quiet_step (fail))
          refine Jl ?_;rintro _ ⟨g,rfl⟩;go_wp2;go_roundw
          case rel=>exact⟨t+1,by omega,by go_num,λj B=>by
           by_cases e:j=t
           ·subst e;exact x
           ·exact C j oM,zb f g.o⟩
          case measure=>simp[intOf];omega
       ·have N:(qZ p S n t == p.B t)=false:=by simpa using g2
        have x:Hid (¬ BL p n S cl q t):=λh=>g2 h.2.1
        clear g1 g2;refine ze kR kR ?_
        repeat(go_big_quiet_step (fail))
        refine Jl ?_;rintro _ ⟨g,rfl⟩;go_wp2;go_roundw
        case rel=>exact⟨t+1,by omega,by go_num,λj B=>by
         by_cases e:j=t
         ·subst e;exact x
         ·exact C j oM,zb f g.o⟩
        case measure=>simp[intOf];omega
      ·have M:(p.A t == cl)=false:=by simpa using g1
       have x:Hid (¬ BL p n S cl q t):=λh=>g1 h.1
       clear g1;refine ze kR kR ?_
       repeat(go_big_quiet_step (fail))
       refine Jl ?_;rintro _ ⟨g,rfl⟩;go_wp2;go_roundw
       case rel=>exact⟨t+1,by omega,by go_num,λj B=>by
        by_cases e:j=t
        ·subst e;exact x
        ·exact C j oM,zb f g.o⟩
       case measure=>simp[intOf];omega
     ·obtain rfl:t=k:=by omega
      go_wp2;go_ret;exact⟨⟨_,rfl,.inr ⟨rfl,.inr (λj h=>C j (by have:=h.1;rw[A.out] at this;exact this) h.2.1)⟩⟩,zb o a⟩

theorem IG (c d f x:Int)(g:Bool)(a:Nat)(w:World)(i:w.cell? (a,0)=some (int i64 x)) :
  Calls prog 272 #[.agg #[c,d,f,g],.pointer (some (a,0))] w λe w'=>e=.returned (.bool (c == x))/\Below w w w':=by
 have b:=Ja w _ i;have h:¬ a=w.heap.size:=by have:a<w.heap.size:=b;omega
 go_enter func272,ntmps272;go_wp2;go_ret;exact⟨rfl,zd bZ _⟩
theorem Mk (r:Option Addr)(n c:Nat)(S:Nat->zU)(x:Int)(g:Nat)(w:World)(hn:n<=1048576)(y:qn w r n S)(p:w.cell? (g,0)=some (int i64 x)) :
  Calls prog 271 #[(r,n,c),.func (.func 272) #[] #[.pointer (some (g,0))]] w λe w'=>e=.returned (Zt (Zl S) x n)/\Below w w w':=by
 have o:=Ja w _ p;go_enter func271,ntmps271;go_wp2;go_loopw [5,8] (λ_ i wr=>∃ k,k<=n/\i=int i64 k/\(∀ j,j<k->Zl S j≠x)/\Below w w wr) (λ_ i _=>n - (intOf i).toNat)
 case atStart=>exact⟨0,Jq _,rfl,λj v=>by omega,bZ⟩
 case round =>
  obtain⟨k,hk,rfl,d,a⟩:=hrel;have h:=hI d;clear d
  by_cases hlt2:k<n
  ·obtain⟨b,off,rfl,m,h1,h2,h3⟩:=y k hlt2
   have u:=Ja w _ m;obtain⟨c0,c1,c2,c3⟩:=OP a m h1 h2 h3 u;have q:=hI (tR a p o);clear m h1 h2 h3 p
   by_cases he:Zl S k=x
   ·have t:((S k).e == x)=true:=by unfold Zl at he;simpa using he
    have l:Hid (Zt (Zl S) x n=k):=by
     have:=Fv hlt2 he h;unfold Zt Hid;rw[this,Jf hlt2]
    clear he;go_wp2_with (first|(go_at_call 272;refine bM (IG _ _ _ x _ g _ q) λz f=>?_))
    go_ret;exact⟨by rw[l.out];rfl,zb a f⟩
   ·have t:((S k).e == x)=false:=by unfold Zl at he;simpa using he
    have s:Hid (_≠x):=he;clear he;go_wp2_with (first|(go_at_call 272;refine bM (IG _ _ _ x _ g _ q) λz f=>?_))
    go_roundw
    case rel=>exact⟨k+1,by omega,by go_num,λj v=>by
     by_cases e:j=k
     ·subst e;exact s
     ·exact h j oM,zb a f⟩
    case measure=>simp[intOf];omega
  ·obtain rfl:k=n:=by omega
   have l:=hI (Cf (DC h));go_wp2;go_ret;exact⟨by rw[l.out];rfl,a⟩
/-- roomOf: where the stay of the by stands, -1 ZN one. -/
theorem QY (b:Option Addr)(n c:Nat)(S:Nat->zU)(x:Int)(w:World)(i:n<=1048576)(j:qn w b n S) :
  Calls prog 244 #[(b,n,c),x] w λe w'=>e=.returned (Zt (Zl S) x n)/\Below w w w':=by
 have a:Below _ w (w.alloc (.cells #[x] 3)):=zd bZ _;have g:=hI (j.j0 a);have f:Hid ((w.alloc (.cells #[_] 3)).cell? _=some (int i64 x)):=bC (Jb w _) 0;have h:∀ (fn) (first cap) (w),(Instr.makeFunc fn _ cap).run prog w=.ok (.func fn first cap) w:=λ_ _ _ _=>rfl
 go_enter func244,ntmps244;go_wp2_with (first|(go_at_call 271;refine bM (Mk b n c S x _ _ i g f) λw2 d=>?_))
 go_ret;exact⟨rfl,zb a d⟩
theorem Fj (q:Option Addr)(n c:Nat)(p:zv)(w:World)(t:p.n=n)(hn:n<=1048576)(x:zJ w q p) :
  Calls prog 235 #[(q,n,c)] w λe w'=>qH (Bk p 6 1 3 1 4) e/\Below w w w':=by
 have g:=hI t;clear t
 by_cases h0:n<=6
 ·have r:decide (6<n)=false:=by simp;omega
  go_enter func235,ntmps235;go_wp2;go_loopw [4,10] (λ_ i wr=>∃ k,k<=n/\i=int i64 k/\(∀ j,j<k->In (p.A j) 1 3/\In (p.B j) 1 4)/\Below w w wr) (λ_ i _=>n - (intOf i).toNat)
  case atStart=>exact⟨0,Jq _,rfl,λj m=>by omega,bZ⟩
  case round =>
   obtain⟨k,hk,rfl,f,d⟩:=hrel;have o:=hI f;clear f r
   by_cases hlt:k<n
   ·obtain⟨b,off,rfl,h1,h2⟩:=x k (by rw[g.out];omega)
    have s:=Ja w _ h1;have c1:=tR d h1 s;have c2:=tR d h2 s;clear h1 h2
    by_cases g1:In (p.A k) 1 3
    ·have u:=Jd g1
     by_cases g2:In (p.B k) 1 4
     ·have v:=Jd g2
      have l:Hid (_/\_):=⟨g1,g2⟩;clear g1 g2;go_wp2_with (first|(go_at_call 262;refine bM (Br _ _) λw' a=>?_;have a:=a.symm;subst a)|(go_at_call 263;refine bM (DT _ _) λw' a=>?_;have a:=a.symm;subst a))
      go_roundw
      case rel=>exact⟨k+1,by omega,by go_num,λj m=>by
       by_cases e:j=k
       ·subst e;exact l
       ·exact o j oM,zd d _⟩
      case measure=>simp[intOf];omega
     ·have v:=Jc g2
      have l:=hI g2;clear g1 g2;go_wp2_with (first|(go_at_call 262;refine bM (Br _ _) λw' a=>?_;have a:=a.symm;subst a)|(go_at_call 263;refine bM (DT _ _) λw' a=>?_;have a:=a.symm;subst a))
      go_ret;exact⟨zh (λh=>l (h.2 k (by rw[g.out];exact hlt)).2),zd d _⟩
    ·have u:=Jc g1
     have l:=hI g1;clear g1;go_wp2_with (first|(go_at_call 262;refine bM (Br _ _) λw' a=>?_;have a:=a.symm;subst a)|(go_at_call 263;refine bM (DT _ _) λw' a=>?_;have a:=a.symm;subst a))
     go_ret;exact⟨zh (λh=>l (h.2 k (by rw[g.out];exact hlt)).1),zd d _⟩
   ·obtain rfl:k=n:=by omega
    go_wp2;go_ret;exact⟨zN ⟨by rw[g.out];exact h0,λj m=>o j (by rw[g.out] at m;exact m)⟩,d⟩
 ·have r:decide (6<n)=true:=by simp;omega
  go_enter func235,ntmps235;go_wp2;go_ret;exact⟨zh (λh=>by have:=h.1;rw[g.out] at this;exact h0 this),bZ⟩
theorem So (w:World)(dT z A elem:TypeId)(g c f:Nat)(o:Option Addr)(b h:Nat)(d:Array Value)(t:TypeId)(cs:List Value)(sz:Nat)
  (y:P.underlying dT=some (.slice elem)) (q:(P.info? elem).map (·.size)=some sz)
  (s:w.heap[g]?=some (.cells d t (0,0))) (p:b<=c) (x:cs.length=b*sz) (m:o=none->b=0/\h=0)
  (n:∀ a,o=some a->∀ j v,cs[j]?=some v->w.cell? (a.add j)=some v) (k:cs.length<=d.size) (h1:∀ v ∈ cs,v.oneCell'=true) :
  (Builtin.copy_ #[dT,z] A #[(some (g,0),c,f),(o,b,h)]).run P w =
   .ok (goInt b) (w.setRow g (cs++d.toList.drop cs.length).toArray):=by
 cases o with
 |none =>
  obtain⟨rfl,rfl⟩:=m rfl;have e:cs=[]:=List.eq_nil_of_length_eq_zero (by rw[x];omega)
  subst e;rw[run_copy_nil (P:=P) w dT z A elem ⟨g,0,none⟩ c f y (by rw[q];rfl)]
  simp only[List.nil_append,List.length_nil,List.drop_zero,Array.toArray_toList];rw[setRow_self w g d t (0,0) s]
  rfl
 |some a =>
  have u:=run_loadCells_list (P:=P) w a cs (n a rfl);have r:=run_storeCells_at P g 0 t cs 0 d w s (by simpa using k) h1
  have l:Nat.min b c=b:=Nat.min_eq_left p
  cases hq:P.info? elem with
  |none=>simp[hq] at q
  |some i =>
   have B:i.size=sz:=by simpa [hq] using q
   rw[x] at u;simp[Builtin.copy_,run_underlying y,Builtin.lenOf,Builtin.firstCells,sizeOf,typeInfo,hq,B,l,u,r]
theorem gk (w:World)(dT q elem:TypeId)(g c f:Nat)(m:Option Addr)(b d:Nat)(e:Array Value)(t:TypeId)(cs:List Value)(sz:Nat)
  (u:P.underlying dT=some (.slice elem)) (s:(P.info? elem).map (·.size)=some sz)
  (p:w.heap[g]?=some (.cells e t (0,0))) (n:b<=c) (r:cs.length=b*sz) (i:m=none->b=0/\d=0)
  (l:∀ a,m=some a->∀ j v,cs[j]?=some v->w.cell? (a.add j)=some v) (h:cs.length<=e.size) (h1:∀ v ∈ cs,v.oneCell'=true) :
  ∃ w',(∀ o,(Builtin.copy_ #[dT,q] o #[(some (g,0),c,f),(m,b,d)]).run P w=.ok (goInt b) w') /\
   w'.heap[g]?=some (.cells (cs++e.toList.drop cs.length).toArray t (0,0))/\Below g w w' :=
 ⟨_,λo=>So (P:=P) w dT q o elem g c f m b d e t cs sz u s p n r i l h h1,setRow_heap w g _ _ t _ p,
  ⟨rfl,rfl,rfl,by simp[World.setRow],λk hk=>setRow_other w g k _ oM⟩⟩
theorem Tx {size:Nat}{i:List Value}(h:w.ownsRow base e size (some (g,0),n,n) n i):∃ a:Array Value,w.heap[g]?=some (.cells a e (0,0))/\a.size=n*size:=by
 obtain⟨_,h|⟨g',c,a,b,_,d,_,_,f,_⟩⟩:=h
 ·cases h.1
 ·simp only[Value.slice.injEq,Option.some.injEq,Addr.mk.injEq] at b
  obtain⟨⟨rfl,_,_⟩,_,rfl⟩:=b;exact⟨a,d,f⟩
theorem Lm {a:List Value}(h:w.heap[g]?=some (.cells a.toArray t (0,0)))(b:a.length=N):w.rowIs g t N (λj=>a.getD j (.bool false)):=by
 refine⟨_,h,by simpa using b,λi hi=>?_⟩
 have:i<a.length:=oM;simp[List.getElem?_eq_getElem this]
theorem IH (bo:Option Addr)(n c:Nat)(S:Nat->zU)(r:zU)(w:World)(hn:n<=1048576)(H:qn w bo n S)(k:bo=none->n=0/\c=0) :
  Calls prog 298 #[(bo,n,c),.agg #[r.e,r.H,r.z,r.h]] w λe w'=>(∃ v,e=.returned v/\w'.ownsRow w 228 4 v (n+1) (zF (Zu S n (λ_=>r)) (n+1)))/\Below w w w':=by
 obtain⟨Q,I,D,x,E⟩:=info_parts Tryz.infoRoom;have O:=hI H;have A:=hI k;clear H k;have P:IntKind.i64.wrap ((n:Int)+1)=((n+1:Nat):Int):=by rw[Jk];omega
 have s:(Tryz.prog.info? 228).map (·.size)=some 4:=by rw[I];simp[x]
 have q:=zd (Ji _ w) (.cells #[r.e,r.H,r.z,r.h] 228);have J:=Jb w (.cells #[r.e,r.H,r.z,r.h] 228);go_enter func298,ntmps298;go_upto_region 2 with(first|(at_make;refine wpList_make_full _ rfl _ _ 142 rfl w.heap.size 228 Q _ 4 underlying142 I D x _ _ _ _ (n+1) rfl rfl sM sM (by rw[E];omega) (by unfold maxLen;omega) sM ?_;intro W g b))
 have l:=q.grown b sM (λj F=>by cases F)
 have K:=MP b J sM;obtain⟨d,f,u⟩:=Tx g;have L:=hI (QN (O.j0 l));have B:=hI K;have y:=hI l;clear g b J q K l;rw[World.size_alloc] at f;obtain⟨X,G,t,m⟩:=gk W 142 142 228 _ (n+1) (n+1) bo n c d 228 _ 4 underlying142 s f oM (qW _ _) A L (by rw[qW,u];omega) (Qp _ _)
 have a:=Lm t (N:=(n+1)*4) (by simp[qW,u];omega)
 have p:=(m.block _ oM).trans B;obtain⟨o0,o1,o2,o3⟩:=Qk p;have R:=a.cell (i:=n*4) oM;have T:=a.cell (i:=n*4+1) oM;have U:=a.cell (i:=n*4+2) oM;have V:=a.cell (i:=n*4+3) oM;have f0:=a.frozen (n*4);have f1:=a.frozen (n*4+1);have f2:=a.frozen (n*4+2);have f3:=a.frozen (n*4+3);have i1:=n0 n;have i2:(n:Int)<((n+1:Nat):Int):=oM;have z:=hI (y.trans (m.mono oM));have C:=hI a;clear t m a p f;generalize List.getD (_++d.toList.drop _) _ _=u0 at R;generalize List.getD (_++d.toList.drop _) _ _=u1 at T;generalize List.getD (_++d.toList.drop _) _ _=u2 at U;generalize List.getD (_++d.toList.drop _) _ _=u3 at V;have M:Hid (((((X.setCell (w.heap.size+1,n*4) r.e).setCell (w.heap.size+1,n*4+1) r.H).setCell (w.heap.size+1,n*4+2) r.z).setCell (w.heap.size+1,n*4+3) r.h).rowIs (w.heap.size+1) 228 ((n+1)*4) (qs (Zu S n (λ_=>r)))):=by
  refine((((C.set _ _).set _ _).set _ _).set _ _).congr (λj F=>?_)
  have h:Zu S n (λ_=>r) n=r:=by unfold Zu;rw[Je (Nat.lt_irrefl _)]
  by_cases h3:j=n*4+3
  ·subst h3;rw[Jf rfl,Be,h]
  rw[Je h3]
  by_cases h2:j=n*4+2
  ·subst h2;rw[Jf rfl,Bd,h]
  rw[Je h2]
  by_cases h1:j=n*4+1
  ·subst h1;rw[Jf rfl,Bc,h]
  rw[Je h1]
  by_cases h0:j=n*4
  ·subst h0;rw[Jf rfl,Ba,h]
  rw[Je h0];have o:j<(zF S n).length:=by rw[qW];omega
  rw[List.getD_eq_getElem?_getD,List.getElem?_append_left o,List.getElem?_eq_getElem o,Option.getD_some];have:=Gr (List.getElem?_eq_getElem o);rw[this.2];unfold qs Zu;rw[Jf (show j / 4<n by omega)]
 go_wp2;go_ret;exact⟨⟨_,rfl,ZM M oM (by unfold maxLen;omega)⟩,(((z.setCell (by show w.heap.size<=w.heap.size+1;omega) _).setCell (by show w.heap.size<=w.heap.size+1;omega) _).setCell (by show w.heap.size<=w.heap.size+1;omega) _).setCell (by show w.heap.size<=w.heap.size+1;omega) _⟩
theorem ZO (a:Value)(w:World) :
  Calls prog 193 #[.bool true,a] w λe w'=>e=.returned (.tuple #[])/\w'=w:=by
 go_enter func193,ntmps193;go_wp2;go_end0;exact⟨rfl,rfl⟩
theorem AK (T:Nat)(u:Value)(w:World) :
  Calls prog 193 #[.bool false,.iface T u] w λe w'=>e=.panicked [{ v:=.iface 96 (.agg #[.iface T u]),recovered:=false }]/\w'=w:=by
 go_enter func193,ntmps193;go_wp2;exact⟨rfl,rfl,rfl⟩
/-- What is deferred, where the steps came to their end. -/
theorem Sw (p:Addr)(w:World) :
  CallsD prog 105 #[.pointer (some p)] .returning w λe c w'=>e=.returned (.tuple #[])/\c=.returning/\w'=w:=by
 have a:∀ w,(Instr.typeAssert .nilIface 20 92 true).run prog w=.ok (.tuple #[.nilIface,.bool false]) w:=λw=>by kernel_rfl
 refine callsD_of_wpS func105 rfl λc₀ cs b=>?_
 apply wpS_seq
 apply wpS_region
 simp[wpOpsS,go_sem,recoverD,b,ntmps105,Exit.thenS,a]
 apply wpS_seq
 apply wpS_region
 simp[wpOpsS,go_sem,Exit.thenS];refine wpS_cond (t:=false) (by simp[Act.eval,Array.replicate]) ?_
 simp only[Bool.false_eq_true,if_false];refine wpS_of_wp (wp_skip ?_)
 cases c₀
 simp_all [bodyPostS,results,results105]
/-- What is deferred, where the steps were refused. -/
theorem Mp (p:Addr)(x:Value)(u:Value)(a:List PanicEntry)(w:World)(c:w.cell? p=some x)(f:w.frozen? p=false) :
  CallsD prog 105 #[.pointer (some p)] (.panicking ({ v:=.iface 96 u,recovered:=false } :: a)) w λe g w' =>
   e=.returned (.tuple #[])/\g=.panicking ({ v:=.iface 96 u,recovered:=true } :: a)/\w'=w.setCell p (.iface 96 u):=by
 have b:∀ w,(Instr.typeAssert (.iface 96 u) 20 92 true).run prog w=.ok (.tuple #[.iface 96 u,.bool true]) w:=λw=>by kernel_rfl
 refine callsD_of_wpS func105 rfl λc₀ cs d=>?_
 apply wpS_seq
 apply wpS_region
 simp[wpOpsS,go_sem,recoverD,d,ntmps105,Exit.thenS,b]
 apply wpS_seq
 apply wpS_region
 simp[wpOpsS,go_sem,Exit.thenS];refine wpS_cond (t:=true) (by simp[Act.eval,Array.replicate]) ?_
 simp only[if_true]
 apply wpS_region
 simp[wpOpsS,go_sem,c,f,bodyPostS,results,results105]
section
open Go.RowKit Go.Extern.Stop Go.Stop Go.Extern
theorem Tryz.isMethodComparable (v : Value) (w : World) : (Go.method 525 284 v "Comparable").run Tryz.prog w = .ok (327, v) w := by kernel_rfl
theorem Tryz.isComp:(Tryz.prog.info? 391).map (·.comparable)=some true:=kR
theorem Tryz.isSize:(Tryz.prog.info? 413).map (·.size)=some 1:=kR
theorem Tryz.noIsE (v:Value)(a:TypeId)(w:World):(Instr.typeAssert (.iface 391 v) a 335 true).run prog w=.ok (.tuple #[.nilIface,.bool false]) w:=run_typeAssert_lacksB underlying335 kR kR v a w
theorem Tryz.noUnwrapE (v:Value)(a:TypeId)(w:World):(Instr.typeAssert (.iface 391 v) a 292 true).run prog w=.ok (.tuple #[.nilIface,.bool false]) w:=run_typeAssert_lacksB underlying292 kR kR v a w
theorem Tryz.noUnwrapsE (v:Value)(a:TypeId)(w:World):(Instr.typeAssert (.iface 391 v) a 294 true).run prog w=.ok (.tuple #[.nilIface,.bool false]) w:=run_typeAssert_lacksB underlying294 kR kR v a w
theorem Tryz.noIsR (v:Value)(a:TypeId)(w:World):(Instr.typeAssert (.iface 96 v) a 335 true).run prog w=.ok (.tuple #[.nilIface,.bool false]) w:=run_typeAssert_lacksB underlying335 kR kR v a w
theorem Tryz.hasUnwrapR (v:Value)(a:TypeId)(w:World):(Instr.typeAssert (.iface 96 v) a 292 true).run prog w=.ok (.tuple #[.iface 96 v,.bool true]) w:=run_typeAssert_hasB underlying292 kR v a w
theorem Tryz.methodUnwrap (v : Value) (w : World) : (Go.method 525 96 v "Unwrap").run Tryz.prog w = .ok (318, v) w := by kernel_rfl
theorem Qv {a:TypeId}{e:Array (String × TypeId)}(b:TypeId)(v:Value)(c:Tryz.prog.underlying a=some (.interface e))(w:World) :
  (binOp .eql a (.iface b v) .nilIface).run prog w=.ok (.bool false) w:=by
 have h:∀ d,(Op.equalIn (d+1) a (.iface b v) .nilIface).run prog w=.ok false w:=λd=>by simp[Op.equalIn,run_underlying c]
 simp only[binOp];simp[Op.equal,Op.maxDepth,h 9999]
theorem IL {a:TypeId}{c:Array (String × TypeId)}(b:Tryz.prog.underlying a=some (.interface c))(w:World) :
  (binOp .eql a .nilIface .nilIface).run prog w=.ok (.bool true) w:=by
 have h:∀ d,(Op.equalIn (d+1) a .nilIface .nilIface).run prog w=.ok true w:=λd=>by simp[Op.equalIn,run_underlying b]
 simp only[binOp];simp[Op.equal,Op.maxDepth,h 9999]
theorem Lp (a:Value)(w:World) :
  Calls prog 318 #[.agg #[a]] w λe w'=>e=.returned a/\w'=w.alloc (.cells #[a] 96):=by
 go_enter func318,ntmps318;go_wp2;go_ret;exact⟨rfl,rfl⟩
/-- A refusal for one of errors.New's make, held against it. -/
theorem gq (b:Addr)(w:World) :
  Calls prog 216 #[.iface 96 (.agg #[.iface 391 (.pointer (some b))]),.iface 391 (.pointer (some b)),.bool true] w λe w'=>e=.returned (.bool true)/\w'=w.alloc (.cells #[.iface 391 (.pointer (some b))] 96):=by
 obtain⟨i,d,a⟩:=Option.map_eq_some_iff.1 Tryz.isComp;obtain⟨j,f,g⟩:=Option.map_eq_some_iff.1 Tryz.isSize;have nE:=Tryz.noIsE;have uE:=Tryz.noUnwrapE;have vE:=Tryz.noUnwrapsE;have nR:=Tryz.noIsR;have uR:=Tryz.hasUnwrapR;have mU:=Tryz.methodUnwrap;have c:=λw=>run_eql_iface_ptr_same w b underlying92 underlying391 d a f
 have k:=λw=>run_eql_iface_types 96 391 (.agg #[.iface 391 (.pointer (some b))]) (.pointer (some b)) underlying92 dC w
 have h:=λw v=>Qv 391 v underlying92 w
 go_enter func216,ntmps216;go_wp2;refine wp_loop_rounds 2 ?_;rw[rounds_succ];go_wp2_with (first|(go_at_call 318;refine(Lp _ _).mono ?_;rintro e w2 ⟨rfl,rfl⟩))
 rw[rounds_succ];go_wp2;go_ret;exact⟨rfl,rfl⟩
/-- A refusal for one of errors.New's make, held against another one. -/
theorem ai (a b:Addr)(ca g:Array Value)(q r:TypeId)(w:World)(f:a≠b)(h:w.heap[a.block]?=some (.cells ca q (0,0)))(k:w.heap[b.block]?=some (.cells g r (0,0))) :
  Calls prog 216 #[.iface 96 (.agg #[.iface 391 (.pointer (some a))]),.iface 391 (.pointer (some b)),.bool true] w λe w'=>e=.returned (.bool false)/\w'=w.alloc (.cells #[.iface 391 (.pointer (some a))] 96):=by
 obtain⟨i,m,c⟩:=Option.map_eq_some_iff.1 Tryz.isComp;obtain⟨j,n,d⟩:=Option.map_eq_some_iff.1 Tryz.isSize;have nE:=Tryz.noIsE;have uE:=Tryz.noUnwrapE;have vE:=Tryz.noUnwrapsE;have nR:=Tryz.noIsR;have uR:=Tryz.hasUnwrapR;have mU:=Tryz.methodUnwrap;have l:=run_eql_iface_ptr_other (w.alloc (.cells #[.iface 391 (.pointer (some a))] 96)) underlying92 underlying391 m c n (by rw[d];decide) f (zg h _) (zg k _)
 have p:=λw=>run_eql_iface_types 96 391 (.agg #[.iface 391 (.pointer (some a))]) (.pointer (some b)) underlying92 dC w
 have o:=λw v=>Qv 391 v underlying92 w
 go_enter func216,ntmps216;go_wp2;refine wp_loop_rounds 2 ?_;rw[rounds_succ];go_wp2_with (first|(go_at_call 318;refine(Lp _ _).mono ?_;rintro e w2 ⟨rfl,rfl⟩))
 rw[rounds_succ];go_wp2;go_ret;exact⟨rfl,rfl⟩
end
section
open Go.RowKit Go.Extern.Stop Go.Stop Go.Extern
theorem Tryz.callTypeOf (v:Value)(w:World):(callFunc 213 #[.iface 391 v]).run prog w=.ok (.value (.iface 284 (.agg #[.pointer (some (12,391))]))) w:=kR
theorem Tryz.callComparable (w:World):(callFunc 327 #[.agg #[.pointer (some (12,391))]]).run prog w=.ok (.value (.bool true)) w:=kR
theorem DG (b:Addr)(w:World) :
  Calls prog 122 #[.iface 96 (.agg #[.iface 391 (.pointer (some b))]),.iface 391 (.pointer (some b))] w λe w'=>e=.returned (.bool true)/\Below w w w':=by
 have hT:=Tryz.callTypeOf;have hC:=Tryz.callComparable;have mR:=Tryz.isMethodComparable;have n1:=λw v=>Qv 96 v underlying92 w
 have n2:=λw v=>Qv 391 v underlying92 w
 go_enter func122,ntmps122;go_wp2_with (first|(go_at_call 216;refine(gq b _).mono ?_;rintro e w2 ⟨rfl,rfl⟩))
 go_ret;exact⟨rfl,zd bZ _⟩
theorem Dm (a b:Addr)(ca d:Array Value)(f g:TypeId)(w:World)(c:a≠b)(h:w.heap[a.block]?=some (.cells ca f (0,0)))(i:w.heap[b.block]?=some (.cells d g (0,0))) :
  Calls prog 122 #[.iface 96 (.agg #[.iface 391 (.pointer (some a))]),.iface 391 (.pointer (some b))] w λe w'=>e=.returned (.bool false)/\Below w w w':=by
 have hT:=Tryz.callTypeOf;have hC:=Tryz.callComparable;have mR:=Tryz.isMethodComparable;have n1:=λw v=>Qv 96 v underlying92 w
 have n2:=λw v=>Qv 391 v underlying92 w
 go_enter func122,ntmps122;go_wp2_with (first|(go_at_call 216;refine(ai a b ca d f g _ c h i).mono ?_;rintro e w2 ⟨rfl,rfl⟩))
 go_ret;exact⟨rfl,zd bZ _⟩
theorem Sx (v:Value)(w:World):Calls prog 122 #[.iface 96 v,.nilIface] w λe w'=>e=.returned (.bool false)/\w'=w:=by
 have n0:=λw=>IL underlying92 w
 have n1:=λw v=>Qv 96 v underlying92 w
 go_enter func122,ntmps122;go_wp2;go_ret;exact⟨rfl,rfl⟩
structure qI (w:World)(pe:Nat->Addr):Prop where
 c1:w.cell? (1,0)=some (.iface 391 (.pointer (some (pe 1))))
 c2:w.cell? (2,0)=some (.iface 391 (.pointer (some (pe 2))))
 c3:w.cell? (3,0)=some (.iface 391 (.pointer (some (pe 3))))
 c4:w.cell? (4,0)=some (.iface 391 (.pointer (some (pe 4))))
 c5:w.cell? (5,0)=some (.iface 391 (.pointer (some (pe 5))))
 c6:w.cell? (6,0)=some (.iface 391 (.pointer (some (pe 6))))
 c7:w.cell? (7,0)=some (.iface 391 (.pointer (some (pe 7))))
 c8:w.cell? (8,0)=some (.iface 391 (.pointer (some (pe 8))))
 obj:∀ k,1<=k->k<=8->∃ cs t,w.heap[(pe k).block]?=some (.cells cs t (0,0))
 inj:∀ i j,1<=i->i<=8->1<=j->j<=8->i≠j->pe i≠pe j
theorem qI.j0 {w w':World}{pe:Nat->Addr}(h:qI w pe)(a:Below w w w'):qI w' pe :=
 ⟨(a.cell (Ja w _ h.c1)).trans h.c1,(a.cell (Ja w _ h.c2)).trans h.c2,(a.cell (Ja w _ h.c3)).trans h.c3,(a.cell (Ja w _ h.c4)).trans h.c4,(a.cell (Ja w _ h.c5)).trans h.c5,(a.cell (Ja w _ h.c6)).trans h.c6,(a.cell (Ja w _ h.c7)).trans h.c7,(a.cell (Ja w _ h.c8)).trans h.c8,λk h1 h2=>by obtain⟨cs,t,e⟩:=h.obj k h1 h2;exact⟨cs,t,za e a⟩,h.inj⟩
theorem gt (a b c d e f g h:Value)(w:World):(Instr.index 196 (.agg #[.nilIface,a,b,c,d,e,f,g,h]) ()).run prog w=.ok .nilIface w/\(Instr.index 196 (.agg #[.nilIface,a,b,c,d,e,f,g,h]) (int i64 1)).run prog w=.ok a w/\(Instr.index 196 (.agg #[.nilIface,a,b,c,d,e,f,g,h]) (int i64 2)).run prog w=.ok b w/\(Instr.index 196 (.agg #[.nilIface,a,b,c,d,e,f,g,h]) (int i64 3)).run prog w=.ok c w/\(Instr.index 196 (.agg #[.nilIface,a,b,c,d,e,f,g,h]) (int i64 4)).run prog w=.ok d w/\(Instr.index 196 (.agg #[.nilIface,a,b,c,d,e,f,g,h]) (int i64 5)).run prog w=.ok e w/\(Instr.index 196 (.agg #[.nilIface,a,b,c,d,e,f,g,h]) (int i64 6)).run prog w=.ok f w/\(Instr.index 196 (.agg #[.nilIface,a,b,c,d,e,f,g,h]) (int i64 7)).run prog w=.ok g w/\(Instr.index 196 (.agg #[.nilIface,a,b,c,d,e,f,g,h]) (int i64 8)).run prog w=.ok h w:=⟨by kernel_rfl,by kernel_rfl,by kernel_rfl,by kernel_rfl,by kernel_rfl,by kernel_rfl,by kernel_rfl,by kernel_rfl,by kernel_rfl⟩
/-- The fault is a refusal for error k. -/
theorem Sy (pe:Nat->Addr)(k:Nat)(w:World)(t:qI w pe)(h1:1<=k)(h8:k<=8) :
  Calls prog 56 #[.iface 96 (.agg #[.iface 391 (.pointer (some (pe k)))])] w λe w'=>e=.returned (int i64 k)/\Below w w w':=by
 have u:=hI t;have A:=t.c1;have B:=t.c2;have C:=t.c3;have D:=t.c4;have E:=t.c5;have F:=t.c6;have G:=t.c7;have H:=t.c8;obtain⟨x,f⟩:=nM (pe k);have d:=hI f;rw[← f];clear t f;have y:Below _ w (w.alloc (.cells #[.nilIface,.iface 391 (.pointer (some (pe 1))),.iface 391 (.pointer (some (pe 2))),.iface 391 (.pointer (some (pe 3))),.iface 391 (.pointer (some (pe 4))),.iface 391 (.pointer (some (pe 5))),.iface 391 (.pointer (some (pe 6))),.iface 391 (.pointer (some (pe 7))),.iface 391 (.pointer (some (pe 8)))] 196)):=zd bZ _;go_enter func56,ntmps56;go_wp2;generalize w.alloc _=W at y ⊢;go_loopg [16] 9 (λg i wr=>∃ j,j<=k/\g=9 - j/\i=int i64 j/\Below w w wr)
 case atStart=>exact⟨0,Jq _,rfl,rfl,y⟩
 case round =>
  obtain⟨j,hj,rfl,rfl,c⟩:=hrel;have l:=hI (u.j0 c);have z:j=0∨j=1∨j=2∨j=3∨j=4∨j=5∨j=6∨j=7∨j=8:=oM;clear A B C D E F G H;have h:=λw=>gt (.iface 391 (.pointer (some (pe 1)))) (.iface 391 (.pointer (some (pe 2)))) (.iface 391 (.pointer (some (pe 3)))) (.iface 391 (.pointer (some (pe 4)))) (.iface 391 (.pointer (some (pe 5)))) (.iface 391 (.pointer (some (pe 6)))) (.iface 391 (.pointer (some (pe 7)))) (.iface 391 (.pointer (some (pe 8)))) w
  rcases z with rfl|rfl|rfl|rfl|rfl|rfl|rfl|rfl|rfl
  ·have v:=λw=>(h w).1
   clear h;go_wp2_with (first|(go_at_call 122;refine(Sx _ _).mono ?_;rintro e o ⟨rfl,rfl⟩))
   go_roundg 8
   case measure=>omega
   case rel=>exact⟨1,by omega,rfl,by go_num,c⟩
  ·have v:=λw=>(h w).2.1
   clear h
   by_cases hk:k=1
   ·subst hk
    have f:=d;subst f;go_wp2_with (first|(go_at_call 122;refine bM (DG _ _) λo b=>?_))
    go_ret;exact⟨rfl,zb c b⟩
   ·have m:x≠pe 1:=by rw[d.out];exact u.inj k 1 h1 h8 oM oM hk
    obtain⟨ca,r,n⟩:=l.obj k h1 h8;obtain⟨p,s,q⟩:=l.obj 1 oM oM;rw[← d.out] at n;go_wp2_with (first|(go_at_call 122;refine bM (Dm _ _ ca p r s _ m n q) λo b=>?_))
    go_roundg 7
    case measure=>omega
    case rel=>exact⟨2,by omega,rfl,by go_num,zb c b⟩
  ·have v:=λw=>(h w).2.2.1
   clear h
   by_cases hk:k=2
   ·subst hk
    have f:=d;subst f;go_wp2_with (first|(go_at_call 122;refine bM (DG _ _) λo b=>?_))
    go_ret;exact⟨rfl,zb c b⟩
   ·have m:x≠pe 2:=by rw[d.out];exact u.inj k 2 h1 h8 oM oM hk
    obtain⟨ca,r,n⟩:=l.obj k h1 h8;obtain⟨p,s,q⟩:=l.obj 2 oM oM;rw[← d.out] at n;go_wp2_with (first|(go_at_call 122;refine bM (Dm _ _ ca p r s _ m n q) λo b=>?_))
    go_roundg 6
    case measure=>omega
    case rel=>exact⟨3,by omega,rfl,by go_num,zb c b⟩
  ·have v:=λw=>(h w).2.2.2.1
   clear h
   by_cases hk:k=3
   ·subst hk
    have f:=d;subst f;go_wp2_with (first|(go_at_call 122;refine bM (DG _ _) λo b=>?_))
    go_ret;exact⟨rfl,zb c b⟩
   ·have m:x≠pe 3:=by rw[d.out];exact u.inj k 3 h1 h8 oM oM hk
    obtain⟨ca,r,n⟩:=l.obj k h1 h8;obtain⟨p,s,q⟩:=l.obj 3 oM oM;rw[← d.out] at n;go_wp2_with (first|(go_at_call 122;refine bM (Dm _ _ ca p r s _ m n q) λo b=>?_))
    go_roundg 5
    case measure=>omega
    case rel=>exact⟨4,by omega,rfl,by go_num,zb c b⟩
  ·have v:=λw=>(h w).2.2.2.2.1
   clear h
   by_cases hk:k=4
   ·subst hk
    have f:=d;subst f;go_wp2_with (first|(go_at_call 122;refine bM (DG _ _) λo b=>?_))
    go_ret;exact⟨rfl,zb c b⟩
   ·have m:x≠pe 4:=by rw[d.out];exact u.inj k 4 h1 h8 oM oM hk
    obtain⟨ca,r,n⟩:=l.obj k h1 h8;obtain⟨p,s,q⟩:=l.obj 4 oM oM;rw[← d.out] at n;go_wp2_with (first|(go_at_call 122;refine bM (Dm _ _ ca p r s _ m n q) λo b=>?_))
    go_roundg 4
    case measure=>omega
    case rel=>exact⟨5,by omega,rfl,by go_num,zb c b⟩
  ·have v:=λw=>(h w).2.2.2.2.2.1
   clear h
   by_cases hk:k=5
   ·subst hk
    have f:=d;subst f;go_wp2_with (first|(go_at_call 122;refine bM (DG _ _) λo b=>?_))
    go_ret;exact⟨rfl,zb c b⟩
   ·have m:x≠pe 5:=by rw[d.out];exact u.inj k 5 h1 h8 oM oM hk
    obtain⟨ca,r,n⟩:=l.obj k h1 h8;obtain⟨p,s,q⟩:=l.obj 5 oM oM;rw[← d.out] at n;go_wp2_with (first|(go_at_call 122;refine bM (Dm _ _ ca p r s _ m n q) λo b=>?_))
    go_roundg 3
    case measure=>omega
    case rel=>exact⟨6,by omega,rfl,by go_num,zb c b⟩
  ·have v:=λw=>(h w).2.2.2.2.2.2.1
   clear h
   by_cases hk:k=6
   ·subst hk
    have f:=d;subst f;go_wp2_with (first|(go_at_call 122;refine bM (DG _ _) λo b=>?_))
    go_ret;exact⟨rfl,zb c b⟩
   ·have m:x≠pe 6:=by rw[d.out];exact u.inj k 6 h1 h8 oM oM hk
    obtain⟨ca,r,n⟩:=l.obj k h1 h8;obtain⟨p,s,q⟩:=l.obj 6 oM oM;rw[← d.out] at n;go_wp2_with (first|(go_at_call 122;refine bM (Dm _ _ ca p r s _ m n q) λo b=>?_))
    go_roundg 2
    case measure=>omega
    case rel=>exact⟨7,by omega,rfl,by go_num,zb c b⟩
  ·have v:=λw=>(h w).2.2.2.2.2.2.2.1
   clear h
   by_cases hk:k=7
   ·subst hk
    have f:=d;subst f;go_wp2_with (first|(go_at_call 122;refine bM (DG _ _) λo b=>?_))
    go_ret;exact⟨rfl,zb c b⟩
   ·have m:x≠pe 7:=by rw[d.out];exact u.inj k 7 h1 h8 oM oM hk
    obtain⟨ca,r,n⟩:=l.obj k h1 h8;obtain⟨p,s,q⟩:=l.obj 7 oM oM;rw[← d.out] at n;go_wp2_with (first|(go_at_call 122;refine bM (Dm _ _ ca p r s _ m n q) λo b=>?_))
    go_roundg 1
    case measure=>omega
    case rel=>exact⟨8,by omega,rfl,by go_num,zb c b⟩
  ·have v:=λw=>(h w).2.2.2.2.2.2.2.2
   clear h
   by_cases hk:k=8
   ·subst hk
    have f:=d;subst f;go_wp2_with (first|(go_at_call 122;refine bM (DG _ _) λo b=>?_))
    go_ret;exact⟨rfl,zb c b⟩
   ·omega
end
section
variable{w w':World}{n base e c:Nat}
structure Ao where
 k:Int
 j1:ByteArray
 v:Int
 ln:Int
 H:Int
def Ao.zero:Ao:=⟨0,⟨#[]⟩,0,0,0⟩
instance:Inhabited Ao:=⟨Ao.zero⟩
def AX (w:World)(a:Option Addr)(n:Nat)(S:Nat->Ao):Prop :=
 ∀ k,k<n->∃ b off,a=some ⟨b,off,none⟩/\w.cell? ⟨b,off+k*5,none⟩=some (int i64 (S k).k)/\w.cell? ⟨b,off+k*5+1,none⟩=some (.string (S k).j1)/\w.cell? ⟨b,off+k*5+2,none⟩=some (int i64 (S k).v)/\w.cell? ⟨b,off+k*5+3,none⟩=some (int i64 (S k).ln)/\w.cell? ⟨b,off+k*5+4,none⟩=some (int i64 (S k).H)
theorem AX.j0 {d:Option Addr}{S:Nat->Ao}(h:AX w d n S)(c:Below w w w'):AX w' d n S:=by
 intro k i;obtain⟨b,off,e,f,h1,h2,h3,g⟩:=h k i;have a:b<w.heap.size:=Ja w _ f;exact⟨b,off,e,tR c f a,tR c h1 a,tR c h2 a,tR c h3 a,tR c g a⟩
def QS (S:Nat->Ao)(j:Nat):Value :=
 if j % 5=0 then int i64 (S (j / 5)).k else if j % 5=1 then .string (S (j / 5)).j1 else if j % 5=2 then int i64 (S (j / 5)).v else if j % 5=3 then int i64 (S (j / 5)).ln else int i64 (S (j / 5)).H
theorem Hl (S:Nat->Ao)(k:Nat):QS S (k*5)=int i64 (S k).k:=by
 unfold QS;rw[Jf oM,show k*5 / 5=k by omega]
theorem Hm (S:Nat->Ao)(k:Nat):QS S (k*5+1)=.string (S k).j1:=by
 unfold QS;rw[Je oM,Jf oM,show(k*5+1) / 5=k by omega]
theorem Hn (S:Nat->Ao)(k:Nat):QS S (k*5+2)=int i64 (S k).v:=by
 unfold QS;rw[Je oM,Je oM,Jf oM,show(k*5+2) / 5=k by omega]
theorem Ho (S:Nat->Ao)(k:Nat):QS S (k*5+3)=int i64 (S k).ln:=by
 unfold QS;rw[Je oM,Je oM,Je oM,Jf oM,show(k*5+3) / 5=k by omega]
theorem Hp (S:Nat->Ao)(k:Nat):QS S (k*5+4)=int i64 (S k).H:=by
 unfold QS;rw[Je oM,Je oM,Je oM,Je oM,show(k*5+4) / 5=k by omega]
def Zh (S:Nat->Ao)(n:Nat):List Value:=(List.range (n*5)).map (QS S)
theorem BE (S:Nat->Ao)(k:Nat):Zh S (k+1)=Zh S k++[int i64 (S k).k,.string (S k).j1,int i64 (S k).v,int i64 (S k).ln,int i64 (S k).H]:=by
 unfold Zh;rw[show(k+1)*5=k*5+1+1+1+1+1 by omega,List.range_succ,List.range_succ,List.range_succ,List.range_succ,List.range_succ]
 simp only[List.map_append,List.map_cons,List.map_nil,List.append_assoc,List.cons_append,List.nil_append,Hl,Hm,Hn,Ho,Hp]
theorem DO {S S':Nat->Ao}(h:∀ i,i<n->S i=S' i):Zh S n=Zh S' n:=by
 unfold Zh;refine List.map_congr_left (λj a=>?_)
 have b:=by simpa using a
 unfold QS;rw[h _ oM]
theorem Ch {a:Option Addr}{S:Nat->Ao}(h:w.ownsRow base e 5 (.slice a n c) n (Zh S n)):AX w a n S:=by
 intro k hk;obtain⟨g,rfl,_,_⟩:=qr h oM;have b:=zs h (k*5) oM rfl;rw[Hl] at b;have c1:=zs h (k*5+1) oM rfl;rw[Hm] at c1;have c2:=zs h (k*5+2) oM rfl;rw[Hn] at c2;have c3:=zs h (k*5+3) oM rfl;rw[Ho] at c3;have c4:=zs h (k*5+4) oM rfl;rw[Hp] at c4;exact⟨g,0,rfl,by rw[Nat.zero_add];exact b,by rw[Nat.zero_add];exact c1,by rw[Nat.zero_add];exact c2,by rw[Nat.zero_add];exact c3,by rw[Nat.zero_add];exact c4⟩
end
def Ap (k:Nat):Bool:=decide (k=2∨k=3∨k=7)
def Q8 (k:Nat):Bool:=decide (4<=k/\k<=8)
def ZL (k:Nat):Int:=if k=1∨k=2∨k=3∨k=5 then 3 else if k=9 then 1 else 0
def QI (k:Nat):Bool:=decide (k=1∨k=2∨k=3∨k=5)
def Bi (k:Nat):Bool:=decide (k=2)
def GN (k:Nat):Bool:=decide (k=6∨k=8)
def Dp (k:Nat):Bool:=decide (k=5∨k=6∨k=8)
def Ze (w:World):Prop:=∀ k,k<10 ->
 w.cell? (9,k*7)=some (.bool (Ap k))/\w.cell? (9,k*7+1)=some (.bool (Q8 k))/\w.cell? (9,k*7+2)=some (ZL k) /\
 w.cell? (9,k*7+3)=some (.bool (QI k))/\w.cell? (9,k*7+4)=some (.bool (Bi k))/\w.cell? (9,k*7+5)=some (.bool (GN k))/\w.cell? (9,k*7+6)=some (.bool (Dp k))
theorem Ze.lt (h:Ze w):9<w.heap.size:=Ja w _ (h 0 dC).1
theorem Ze.j0 (h:Ze w)(a:Below w w w'):Ze w':=by
 intro k g;obtain⟨c,h1,h2,h3,d,e,f⟩:=h k g;have b:=h.lt;exact⟨tR a c b,tR a h1 b,tR a h2 b,tR a h3 b,tR a d b,tR a e b,tR a f b⟩
theorem Qw (x:Int)(w:World) :
  Calls prog 242 #[int i64 x] w λe w'=>e=.returned (.bool (decide (In x 0 10000)))/\w'=w:=by
 go_enter func242,ntmps242;go_wp2_with (first|(go_at_call 191;refine(zx _ _ _ _).mono ?_;rintro e w' ⟨rfl,rfl⟩))
 go_ret;exact⟨rfl,rfl⟩
theorem zR (a b c:Bool)(w:World) :
  Calls prog 241 #[.bool a,.bool b,.bool c] w λe w'=>e=.returned (.bool (if a then b else c))/\w'=w:=by
 cases a with
 |true =>
  go_enter func241,ntmps241;go_wp2;go_ret;exact⟨rfl,rfl⟩
 |false =>
  go_enter func241,ntmps241;go_wp2;go_ret;exact⟨rfl,rfl⟩
theorem IQ (b:Int)(w:World):Calls prog 266 #[.int .u8 b] w λe w'=>e=.returned (.bool (decide (Db b)))/\w'=w:=by
 obtain⟨c,d⟩:=nM (decide (Db b));rw[← d];have a:=hI d;clear d
 by_cases h1:97<=b
 ·have i:decide (97<=b)=true:=by simpa using h1
  by_cases h2:b<=122
  ·have j:decide (b<=122)=true:=by simpa using h2
   go_enter func266,ntmps266;go_wp2;go_ret;exact⟨by rw[a.out,Jd (.inl ⟨h1,h2⟩)];rfl,rfl⟩
  ·have j:decide (b<=122)=false:=by simpa using h2
   have f:decide (65<=b)=true:=by simp;omega
   have g:decide (b<=90)=false:=by simp;omega
   go_enter func266,ntmps266;go_wp2;go_ret;exact⟨by rw[a.out,Jc (by rintro(h|h) <;> omega)];rfl,rfl⟩
 ·have i:decide (97<=b)=false:=by simpa using h1
  by_cases h3:65<=b
  ·have f:decide (65<=b)=true:=by simpa using h3
   by_cases h4:b<=90
   ·have g:decide (b<=90)=true:=by simpa using h4
    go_enter func266,ntmps266;go_wp2;go_ret;exact⟨by rw[a.out,Jd (.inr ⟨h3,h4⟩)];rfl,rfl⟩
   ·have g:decide (b<=90)=false:=by simpa using h4
    go_enter func266,ntmps266;go_wp2;go_ret;exact⟨by rw[a.out,Jc (by rintro(h|h) <;> omega)];rfl,rfl⟩
  ·have f:decide (65<=b)=false:=by simpa using h3
   go_enter func266,ntmps266;go_wp2;go_ret;exact⟨by rw[a.out,Jc (by rintro(h|h) <;> omega)];rfl,rfl⟩
theorem SP (s:ByteArray)(w:World)(hs:s.size<=1000000000000000) :
  Calls prog 239 #[s] w λe w'=>qH (Z7 s) e/\w'=w:=by
 by_cases h0:In (s.size:Int) 1 12
 ·have c:=hI h0
  have l:=Jd h0;have n:s.size<=12:=by have:=h0.2;omega
  clear h0;go_enter func239,ntmps239;go_wp2_with (first|(go_at_call 191;refine bM (zx _ _ _ _) λw' a=>?_;have a:=a.symm;subst a))
  go_loop [3,10] (λ_ i=>∃ k,k<=s.size/\i=int i64 k/\∀ j,j<k->Db (EZ s j)) (λ_ i=>s.size - (intOf i).toNat)
  case atStart=>exact⟨0,Jq _,rfl,λj m=>by omega⟩
  case round =>
   obtain⟨k,hk,rfl,b⟩:=hrel;have g:=hI b;clear b
   by_cases hlt:k<s.size
   ·by_cases hL:Db (EZ s k)
    ·have f:=Jd hL
     have d:=hI hL;clear hL;rw[← Ha s k hlt] at f;go_wp2_with (first|(go_at_call 266;refine bM (IQ _ _) λw' a=>?_;have a:=a.symm;subst a))
     go_round
     case rel=>exact⟨k+1,by omega,by go_num,λj m=>by
      by_cases e:j=k
      ·subst e;exact d
      ·exact g j oM⟩
     case measure=>simp[intOf];omega
    ·have f:=Jc hL
     have d:=hI hL;clear hL;rw[← Ha s k hlt] at f;go_wp2_with (first|(go_at_call 266;refine bM (IQ _ _) λw' a=>?_;have a:=a.symm;subst a))
     go_ret;exact⟨zh (λh=>d (h.2.2 k hlt)),rfl⟩
   ·obtain rfl:k=s.size:=by omega
    go_wp2;go_ret;exact⟨zN ⟨by have:=c.1;omega,by have:=c.2;omega,g⟩,rfl⟩
 ·have c:=hI h0
  have l:=Jc h0;clear h0;go_enter func239,ntmps239;go_wp2_with (first|(go_at_call 191;refine bM (zx _ _ _ _) λw' a=>?_;have a:=a.symm;subst a))
  go_ret;exact⟨zh (λh=>c ⟨by have:=h.1;omega,by have:=h.2.1;omega⟩),rfl⟩
theorem Zk (s:ByteArray)(w:World)(a:s.size<=1000000000000000) :
  Calls prog 239 #[s] w λe w'=>e=.returned (.bool (decide (Z7 s)))/\w'=w:=by
 refine(SP s w a).mono ?_;rintro e w' ⟨⟨b',rfl,h⟩,rfl⟩;rw[Tp h (decide_eq_true_iff)];exact⟨rfl,rfl⟩
theorem SW (x y:Int)(w:World) :
  Calls prog 225 #[x,y] w λe w'=>e=.returned (Qd x y)/\w'=w:=by
 obtain⟨V,g⟩:=nM (Qd x y);rw[← g];have c:=hI g;clear g
 by_cases h0:Ce x y
 ·have k:=Jd h0
  have d:=hI h0;have j:=hI h0.1;clear h0
  by_cases h1:600<x
  ·have l:=Jd h1
   have h2:450<x:=oM;have h:=Jd h2;have i:=j.out;unfold In at i;have m:=wR (x - 600);have n:=wR (x - 600+99);have hq:Int.tdiv (x - 600+99) 100=(x - 600+99) / 100:=by rw[Int.tdiv_eq_ediv_of_nonneg oM]
   have o:=wR ((x - 600+99) / 100);have p:=wR (25*((x - 600+99) / 100));have q:=wR (90+25*((x - 600+99) / 100));have r:=wR (90+25*((x - 600+99) / 100)+30);clear i
   by_cases h5:220<y
   ·have f:=Jd h5
    have b:Hid (V=90+25*((x - 600+99) / 100)+30):=by show V=_;rw[c.out];unfold Qd;rw[Jf d.out];simp only[Jf h1,Jf h5];(try omega)
    rw[b.out];go_enter func225,ntmps225;go_wp2_with (first|(go_at_call 224;refine bM (Zb _ _ _) λw' a=>?_;have a:=a.symm;subst a))
    go_ret;exact⟨rfl,rfl⟩
   ·have f:=Jc h5
    have b:Hid (V=90+25*((x - 600+99) / 100)):=by show V=_;rw[c.out];unfold Qd;rw[Jf d.out];simp only[Jf h1,Je h5];(try omega)
    rw[b.out];go_enter func225,ntmps225;go_wp2_with (first|(go_at_call 224;refine bM (Zb _ _ _) λw' a=>?_;have a:=a.symm;subst a))
    go_ret;exact⟨rfl,rfl⟩
  ·have l:=Jc h1
   by_cases h2:450<x
   ·have h:=Jd h2
    by_cases h5:220<y
    ·have f:=Jd h5
     have b:Hid (V=90+30):=by show V=_;rw[c.out];unfold Qd;rw[Jf d.out];simp only[Je h1,Jf h2,Jf h5];(try omega)
     rw[b.out];go_enter func225,ntmps225;go_wp2_with (first|(go_at_call 224;refine bM (Zb _ _ _) λw' a=>?_;have a:=a.symm;subst a))
     go_ret;exact⟨rfl,rfl⟩
    ·have f:=Jc h5
     have b:Hid (V=90):=by show V=90;rw[c.out];unfold Qd;rw[Jf d.out];simp only[Je h1,Jf h2,Je h5];(try omega)
     rw[b.out];go_enter func225,ntmps225;go_wp2_with (first|(go_at_call 224;refine bM (Zb _ _ _) λw' a=>?_;have a:=a.symm;subst a))
     go_ret;exact⟨rfl,rfl⟩
   ·have h:=Jc h2
    by_cases h5:220<y
    ·have f:=Jd h5
     have b:Hid (V=60+30):=by show V=_;rw[c.out];unfold Qd;rw[Jf d.out];simp only[Je h1,Je h2,Jf h5];(try omega)
     rw[b.out];go_enter func225,ntmps225;go_wp2_with (first|(go_at_call 224;refine bM (Zb _ _ _) λw' a=>?_;have a:=a.symm;subst a))
     go_ret;exact⟨rfl,rfl⟩
    ·have f:=Jc h5
     have b:Hid (V=60):=by show V=60;rw[c.out];unfold Qd;rw[Jf d.out];simp only[Je h1,Je h2,Je h5];(try omega)
     rw[b.out];go_enter func225,ntmps225;go_wp2_with (first|(go_at_call 224;refine bM (Zb _ _ _) λw' a=>?_;have a:=a.symm;subst a))
     go_ret;exact⟨rfl,rfl⟩
 ·have k:=Jc h0
  have b:Hid (V=0):=by rw[c.out];exact Je h0
  rw[b.out];clear h0;go_enter func225,ntmps225;go_wp2_with (first|(go_at_call 224;refine bM (Zb _ _ _) λw' a=>?_;have a:=a.symm;subst a))
  go_ret;exact⟨rfl,rfl⟩
theorem Mw (cl:Int)(all:Bool)(be:Int)(w:World) :
  Calls prog 226 #[cl,all,be] w λe w'=>e=.returned (Zs cl all be)/\Below w w w':=by
 obtain⟨V,g⟩:=nM (Zs cl all be);rw[← g];have c:=hI g;clear g
 by_cases h1:In cl 1 3
 ·have k:=Jd h1
  have d:=hI h1
  cases all with
  |true =>
   by_cases h2:be=0
   ·subst h2
    have h3:cl=1∨cl=2∨cl=3:=by unfold In at h1;omega
    clear h1
    rcases h3 with rfl|rfl|rfl
    ·have b:Hid (V=90):=by show V=90;rw[c.out];exact Jf ⟨d,.inl ⟨rfl,rfl⟩⟩
     rw[b.out];go_enter func226,ntmps226;go_wp2_with (first|(go_at_call 148;refine bM (zt _ _ _ _) λw' a=>?_;have a:=a.symm;subst a))
     go_ret;exact⟨rfl,zd bZ _⟩
    ·have b:Hid (V=150):=by show V=150;rw[c.out];exact Jf ⟨d,.inl ⟨rfl,rfl⟩⟩
     rw[b.out];go_enter func226,ntmps226;go_wp2_with (first|(go_at_call 148;refine bM (zt _ _ _ _) λw' a=>?_;have a:=a.symm;subst a))
     go_ret;exact⟨rfl,zd bZ _⟩
    ·have b:Hid (V=240):=by show V=240;rw[c.out];exact Jf ⟨d,.inl ⟨rfl,rfl⟩⟩
     rw[b.out];go_enter func226,ntmps226;go_wp2_with (first|(go_at_call 148;refine bM (zt _ _ _ _) λw' a=>?_;have a:=a.symm;subst a))
     go_ret;exact⟨rfl,zd bZ _⟩
   ·have i:(be == 0)=false:=by simpa using h2
    have e3:(be != 0)=true:=by simpa using h2
    have b:Hid (V=0):=by rw[c.out];exact Je (λh=>by rcases h.2 with h|h;exact h2 h.2;cases h.1)
    rw[b.out];clear h1 h2;go_enter func226,ntmps226;go_wp2_with (first|(go_at_call 148;refine bM (zt _ _ _ _) λw' a=>?_;have a:=a.symm;subst a))
    go_ret;exact⟨rfl,bZ⟩
  |false =>
   by_cases h2:In be 1 4
   ·have i:=Jd h2
    have f:=hI h2;have h3:cl=1∨cl=2∨cl=3:=by unfold In at h1;omega
    have h4:_/\_:=h2;clear h1 h2
    rcases h3 with rfl|rfl|rfl
    ·have b:Hid (V=30*be):=by show V=_;rw[c.out];unfold Zs;rw[Jf ⟨d.out,.inr ⟨rfl,f.out⟩⟩];rfl
     rw[b.out];have j:=wR (30*be);go_enter func226,ntmps226;go_wp2_with (first|(go_at_call 148;refine bM (zt _ _ _ _) λw' a=>?_;have a:=a.symm;subst a))
     go_ret;exact⟨rfl,zd bZ _⟩
    ·have b:Hid (V=50*be):=by show V=_;rw[c.out];unfold Zs;rw[Jf ⟨d.out,.inr ⟨rfl,f.out⟩⟩];rfl
     rw[b.out];have j:=wR (50*be);go_enter func226,ntmps226;go_wp2_with (first|(go_at_call 148;refine bM (zt _ _ _ _) λw' a=>?_;have a:=a.symm;subst a))
     go_ret;exact⟨rfl,zd bZ _⟩
    ·have b:Hid (V=80*be):=by show V=_;rw[c.out];unfold Zs;rw[Jf ⟨d.out,.inr ⟨rfl,f.out⟩⟩];rfl
     rw[b.out];have j:=wR (80*be);go_enter func226,ntmps226;go_wp2_with (first|(go_at_call 148;refine bM (zt _ _ _ _) λw' a=>?_;have a:=a.symm;subst a))
     go_ret;exact⟨rfl,zd bZ _⟩
   ·have i:=Jc h2
    have b:Hid (V=0):=by rw[c.out];exact Je (λh=>by rcases h.2 with h|h;cases h.1;exact h2 h.2)
    rw[b.out];clear h1 h2;go_enter func226,ntmps226;go_wp2_with (first|(go_at_call 148;refine bM (zt _ _ _ _) λw' a=>?_;have a:=a.symm;subst a))
    go_ret;exact⟨rfl,bZ⟩
 ·have k:=Jc h1
  have b:Hid (V=0):=by rw[c.out];exact Je (λh=>h1 h.1)
  rw[b.out];clear h1
  cases all with
  |true =>
   go_enter func226,ntmps226;go_wp2_with (first|(go_at_call 148;refine bM (zt _ _ _ _) λw' a=>?_;have a:=a.symm;subst a))
   go_ret;exact⟨rfl,bZ⟩
  |false =>
   go_enter func226,ntmps226;go_wp2_with (first|(go_at_call 148;refine bM (zt _ _ _ _) λw' a=>?_;have a:=a.symm;subst a))
   go_ret;exact⟨rfl,bZ⟩
theorem Z6 (pe len hei cl:Int)(all:Bool)(be legs:Int)(w:World)(t:In pe 0 20)(q:In legs 0 3) :
  Calls prog 169 #[.agg #[pe,len,hei,cl,all,be],legs] w λe w'=>e=.returned (zP ⟨pe,len,hei,cl,all,be⟩ legs)/\Below w w w':=by
 obtain⟨V,o⟩:=nM (zP ⟨pe,len,hei,cl,all,be⟩ legs);rw[← o];obtain⟨h,d⟩:=nM (Qd len hei);obtain⟨j,c⟩:=nM (Zs cl all be);have p:Hid (V=Cm pe legs (legs*(40*pe+h+j))):=by show V=_;rw[o,d,c];rfl
 have b1:0<=h/\h<=500:=by rw[d];exact Dc len hei
 have b2:0<=j/\j<=320:=by rw[c];exact BK cl all be
 have n:=hI d;have m:=hI c;unfold In at t q;have u:=wR (40*pe);have x:=wR (40*pe+h);have y:=wR (40*pe+h+j);obtain⟨M,l⟩:=nM (legs*(40*pe+h+j));have k:0<=M/\M<=10000:=by
  have h3:legs=0∨legs=1∨legs=2∨legs=3:=oM;rw[l]
  rcases h3 with rfl|rfl|rfl|rfl <;> omega
 have z:IntKind.i64.wrap (legs*(40*pe+h+j))=M:=by rw[← l,Jk];omega
 have b:Hid (V=Cm pe legs M):=by show V=_;rw[p.out,l]
 have s:=hI q;clear o d c p l;have q1:Int.tdiv M 20=M / 20:=by rw[Int.tdiv_eq_ediv_of_nonneg k.1]
 have q2:Int.tdiv M 10=M / 10:=by rw[Int.tdiv_eq_ediv_of_nonneg k.1]
 have A:=wR (M / 20);have B:=wR (M - M / 20);have C:=wR (M / 10);have D:=wR (M - M / 10);have q3:Int.tdiv (M - M / 20) 10=(M - M / 20) / 10:=by rw[Int.tdiv_eq_ediv_of_nonneg oM]
 have E:=wR ((M - M / 20) / 10);have F:=wR (M - M / 20 - (M - M / 20) / 10);go_enter func169,ntmps169;go_upto_region 1 with fail;have a:Below _ w (w.alloc (.cells #[pe,len,hei,cl,all,be] 45)):=zd bZ _;have f:=Jb w (.cells #[pe,len,hei,cl,all,be] 45);generalize w.alloc _=W at a f ⊢;have s0:=zD f;have r:=gC f 0;have I:=gC f 1;have J:=gC f 2;have K:=gC f 3;have L:=gC f 4;have N:=gC f 5;refine ze kR kR ?_
 repeat(go_big_quiet_step ((first|(go_at_call 225;refine gE (v:=int i64 h) (SW _ _ _) (by rw[n.out]))|(go_at_call 226;refine gF (v:=int i64 j) (Mw _ _ _ _) (by rw[m.out])))))
 refine Jl ?_;rintro _ ⟨g,rfl⟩;have y0:=r g;clear r I J K L N
 by_cases k1:8<=pe
 ·have G:=Jd k1
  by_cases k2:legs=3
  ·subst k2
   have i:Hid (V=M - M / 20 - (M - M / 20) / 10):=by show V=_;rw[b.out];unfold Cm;rw[Jf k1,Jf rfl]
   clear k1;go_wp2;go_ret;exact⟨by rw[i.out];rfl,zb a g.o⟩
  ·have H:(legs == 3)=false:=by simpa using k2
   have i:Hid (V=M - M / 20):=by show V=_;rw[b.out];unfold Cm;rw[Jf k1,Je k2]
   clear k1 k2;go_wp2;go_ret;exact⟨by rw[i.out];rfl,zb a g.o⟩
 ·have G:=Jc k1
  by_cases k2:legs=3
  ·subst k2
   have i:Hid (V=M - M / 10):=by show V=_;rw[b.out];unfold Cm;rw[Je k1,Jf rfl]
   clear k1;go_wp2;go_ret;exact⟨by rw[i.out];rfl,zb a g.o⟩
  ·have H:(legs == 3)=false:=by simpa using k2
   have i:Hid (V=M):=by show V=_;rw[b.out];unfold Cm;rw[Je k1,Je k2]
   clear k1 k2;go_wp2;go_ret;exact⟨by rw[i.out];rfl,zb a g.o⟩
end Go.Proofs.YtmdnjgihooflfaaGreatDoor
