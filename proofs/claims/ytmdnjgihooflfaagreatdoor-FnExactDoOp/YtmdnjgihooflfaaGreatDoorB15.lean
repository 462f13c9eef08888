/-
  OWN TEXT: SpecW0, PlainWi, PlainPi, ImplV, ImplW, FitsI, StayOf.
-/
import Derived.Deep.DeepCutAuto
import Derived.Test.YtmdnjgihooflfaaGreatDoorB14
namespace Go.Proofs.YtmdnjgihooflfaaGreatDoor
open Go.RowKit
open Go.Value (int)
open Go.IntKind (i64)
open Tryz
set_option maxHeartbeats 64000000
set_option maxRecDepth 100000
def RIx (n m:Nat)(P:Nat->Prop)(r:Int):Prop:=(∃ k:Nat,r=(k:Int)/\n≠60/\ZH m P k)∨(r=-1/\(n=60∨∀ k,¬ ZH m P k))
theorem zfH (y bo:Option Addr)(m K n c:Nat)(p:zH)(S:Nat->qN)(cl q:Int)(w:World)(C:p.n=m)(x:Qr p n S)(I:zG w y p)(J:qp w bo n S) :
  Calls prog 167 #[(y,m,K),(bo,n,c),cl,q] w λe w'=>(∃ r:Int,e=.returned r/\RIx n p.n (zbN p n S cl q) r)/\Below w.heap.size w w':=by
 have u:=hI C;have E:=hI x;have F:=hI I;have N:=hI J;have Q:m<=6:=by rw[← C];exact x.1.1
 have s:=x.2.1;clear C x I J
 by_cases h60:n=60
 ·have z:(n == 60)=true:=by simpa using h60
  have A:((n:Int) == 60)=true:=by simp;omega
  have l:=hI h60;clear h60;go_enter func167,ntmps167;go_wp2;go_ret;exact⟨⟨_,rfl,.inr ⟨rfl,.inl l⟩⟩,bZ⟩
 ·have z:(n == 60)=false:=by simpa using h60
  have A:((n:Int) == 60)=false:=by simp;omega
  have l:=hI h60;clear h60;go_enter func167,ntmps167;go_wp2_with fail;refine(zfo y bo m K n c p S _ u E.1 s E.manys F N).mono ?_;rintro e D ⟨⟨v,rfl,d⟩,f⟩;obtain⟨aw,cw,rfl,_⟩:=zp d;have M:=hI (zbo d);clear d;go_wp2;go_loopw [10,11,20] (λ_ _ i wr=>∃ k,k<=m/\i=int i64 k/\(∀ j,j<k->¬ zbN p n S cl q j)/\Below D.heap.size D wr) (λ_ _ i _=>m - (intOf i).toNat)
  case atStart=>exact⟨0,Jq _,rfl,λj H=>by omega,bZ⟩
  case round =>
   obtain⟨k,hk,rfl,g,a⟩:=hrel;have t:=hI g;clear g
   by_cases hlt:k<m
   ·obtain⟨b,off,rfl,h1,h2⟩:=F k (by rw[u.out];exact hlt)
    have G:=Ja w _ h1;have c1:=((ze f a).cell G).trans h1;have c2:=((ze f a).cell (p:=⟨b,_+1,_⟩) G).trans h2;obtain⟨b3,L,rfl,h3⟩:=M k hlt;have B:=Ja D _ h3;have c3:(wr.alloc (.cells #[(p.A k),(p.B k)] 231)).cell? _=_:=((zk a _).cell B).trans h3;have i1:(0:Int)<=(k:Int):=by omega
    have i2:(k:Int)<(m:Int):=by omega
    clear h1 h2 h3
    by_cases g1:p.A k=cl
    ·have O:(p.A k == cl)=true:=by simpa using g1
     by_cases g2:q<=Za p S n k
     ·have P:=Jd g2
      have o:Hid (ZH p.n _ k):=⟨by rw[u.out];exact hlt,⟨g1,g2⟩,t⟩
      clear g1 g2;go_wp2;go_ret;exact⟨⟨_,rfl,.inl ⟨k,rfl,l,o⟩⟩,ze f (zk a _)⟩
     ·have P:=Jc g2
      have o:Hid (¬ zbN p n S cl q k):=λh=>g2 h.2
      clear g1 g2;go_wp2;go_roundw
      case rel=>exact⟨k+1,by omega,by go_num,λj H=>by
       by_cases e:j=k
       ·subst e;exact o
       ·exact t j (by omega),zk a _⟩
      case measure=>simp[intOf];omega
    ·have O:(p.A k == cl)=false:=by simpa using g1
     have o:Hid (¬ zbN p n S cl q k):=λh=>g1 h.1
     clear g1;go_wp2;go_roundw
     case rel=>exact⟨k+1,by omega,by go_num,λj H=>by
      by_cases e:j=k
      ·subst e;exact o
      ·exact t j (by omega),zk a _⟩
     case measure=>simp[intOf];omega
   ·obtain rfl:k=m:=by omega
    go_wp2;go_ret;exact⟨⟨_,rfl,.inr ⟨rfl,.inr (λj h=>t j (by have:=h.1;rw[u.out] at this;exact this) h.2.1)⟩⟩,ze f a⟩
theorem zlW (M bo:Option Addr)(m mc n c:Nat)(p:zH)(S:Nat->qN)(cl q:Int)(w:World)(T:p.n=m)(I:Qr p n S)(hx:zG w M p)(hz:qp w bo n S) :
  Calls prog 168 #[(M,m,mc),(bo,n,c),cl,q] w λe w'=>(∃ r:Int,e=.returned r/\RIx n p.n (zbD p n S cl q) r)/\Below w.heap.size w w':=by
 have A:=hI T;have V:=hI I;have K:=hI hx;have HZ:=hI hz;have a1:m<=6:=by rw[← T];exact I.1.1
 have G:=I.2.1;clear T I hx hz
 by_cases h60:n=60
 ·have P:(n == 60)=true:=by simpa using h60
  have Q:((n:Int) == 60)=true:=by simp;omega
  have u:=hI h60;clear h60;go_enter func168,ntmps168;go_wp2;go_ret;exact⟨⟨_,rfl,.inr ⟨rfl,.inl u⟩⟩,bZ⟩
 ·have P:(n == 60)=false:=by simpa using h60
  have Q:((n:Int) == 60)=false:=by simp;omega
  have u:=hI h60;clear h60;go_enter func168,ntmps168;go_wp2_with fail;refine(zfo M bo m mc n c p S _ A V.1 G V.manys K HZ).mono ?_;rintro e w1 ⟨⟨v,rfl,s⟩,y⟩;obtain⟨aw,cw,rfl,_⟩:=zp s;have X:=hI (zbo s);clear s;go_wp2;go_loopw [10,12,23] (λv _ i wr=>∃ (k:Nat) (L:Bool),k<=m/\i=int i64 k/\v=.bool L/\(L=true↔∃ j,j<k/\p.A j=cl/\q<=p.B j)/\Below w1.heap.size w1 wr) (λ_ _ i _=>m - (intOf i).toNat)
  case atStart=>exact⟨0,_,Jq _,rfl,rfl,⟨λh=>(by cases h),λ⟨j,B,_⟩=>(by omega)⟩,bZ⟩
  case round =>
   obtain⟨k,L,hk,rfl,rfl,Z,a⟩:=hrel;have l:=hI Z;clear Z
   by_cases hlt:k<m
   ·obtain⟨b,off,rfl,h1,h2⟩:=K k (by rw[A.out];exact hlt)
    have F:=Ja w _ h1;have c1:=((ze y a).cell F).trans h1;have c2:=((ze y a).cell (p:=⟨b,_+1,_⟩) F).trans h2;clear h1 h2
    cases L with
    | true =>
     go_wp2;go_roundw
     case rel=>exact⟨k+1,_,by omega,by go_num,rfl,⟨λ_=>(by obtain⟨j,B,h⟩:=l.1 rfl;exact⟨j,by omega,h⟩),λ_=>rfl⟩,zk a _⟩
     case measure=>simp[intOf];omega
    | false =>
     have Y:Hid (¬ _):=λh=>by have:=l.2 h;cases this
     clear l
     by_cases g1:p.A k=cl
     ·have N:(p.A k == cl)=true:=by simpa using g1
      by_cases g2:q<=p.B k
      ·have O:=Jd g2
       have D:Hid (_/\_):=⟨g1,g2⟩;clear g1 g2;go_wp2;go_roundw
       case rel=>exact⟨k+1,_,by omega,by go_num,rfl,⟨λ_=>⟨k,by omega,D⟩,λ_=>rfl⟩,zk a _⟩
       case measure=>simp[intOf];omega
      ·have O:=Jc g2
       have D:Hid (¬ (p.A k=cl/\_)):=λh=>g2 h.2
       clear g1 g2;go_wp2;go_roundw
       case rel=>exact⟨k+1,_,by omega,by go_num,rfl,⟨λh=>(by cases h),λ⟨j,B,h⟩=>by
        by_cases e:j=k
        ·subst e;exact absurd h D
        ·exact absurd ⟨j,by omega,h⟩ Y⟩,zk a _⟩
       case measure=>simp[intOf];omega
     ·have N:(p.A k == cl)=false:=by simpa using g1
      have D:Hid (¬ (_/\q<=p.B k)):=λh=>g1 h.1
      clear g1;go_wp2;go_roundw
      case rel=>exact⟨k+1,_,by omega,by go_num,rfl,⟨λh=>(by cases h),λ⟨j,B,h⟩=>by
       by_cases e:j=k
       ·subst e;exact absurd h D
       ·exact absurd ⟨j,by omega,h⟩ Y⟩,zk a _⟩
      case measure=>simp[intOf];omega
   ·obtain rfl:k=m:=by omega
    have E:Hid (L=true↔∃ j,j<p.n/\p.A j=cl/\q<=p.B j):=by rw[A.out];exact l
    have J:=hI (X.below a);have o:=ze y a;clear l X y a;generalize wr=U at *;go_wp2;go_loopw [13,14,43] (λ_ _ i wr=>∃ t,t<=k/\i=int i64 t/\(∀ j,j<t->¬ zbD p n S cl q j)/\Below U.heap.size U wr) (λ_ _ i _=>k - (intOf i).toNat)
    case atStart=>exact⟨0,Jq _,rfl,λj B=>by omega,bZ⟩
    case round =>
     obtain⟨t,ht,rfl,z,a⟩:=hrel;have C:=hI z;clear z
     by_cases hlt2:t<k
     ·obtain⟨b,off,rfl,h1,h2⟩:=K t (by rw[A.out];exact hlt2)
      have F:=Ja w _ h1;have c1:=((ze o a).cell F).trans h1;have c2:=((ze o a).cell (p:=⟨b,_+1,_⟩) F).trans h2;obtain⟨b3,a0,rfl,h3⟩:=J t hlt2;have R:=Ja U _ h3;have d:=Jb wr (.cells #[(p.A t),(p.B t)] 231);have f:=zk a (.cells #[(p.A t),(p.B t)] 231);clear h1 h2;go_upto_region 13 with fail;generalize hW:wr.alloc _=W at d f ⊢;clear hW;have H:=zM d;have z0:∀ g:zn W,g.val.cell? _=some (.int _ _):=λg=>(g.bel.cell H).trans (za d 0 _ rfl)
      have z1:∀ g:zn W,g.val.cell? _=some (.int _ _):=λg=>(g.bel.cell H).trans (za d 1 _ rfl)
      have y3:∀ g:zn W,_:=λg=>((ze f g.bel).cell R).trans h3
      have i1:(0:Int)<=(t:Int):=by omega
      have i2:(t:Int)<(k:Int):=by omega
      clear c1 c2 d a h3
      by_cases g1:p.A t=cl
      ·have N:(p.A t == cl)=true:=by simpa using g1
       by_cases g2:Za p S n t=p.B t
       ·have O:(Za p S n t == p.B t)=true:=by simpa using g2
        by_cases g3:q<=p.B t
        ·have e3:=Jd g3
         have x:Hid (ZH p.n _ t):=⟨by rw[A.out];exact hlt2,⟨g1,g2,.inl g3⟩,C⟩
         clear g1 g2 g3;refine zh (by kernel_rfl) (by kernel_rfl) ?_
         repeat(first|go_big_quiet_skip|(go_big_quiet_want;go_big_quiet_op;go_big_quiet_on))
         refine Jl ?_;rintro _ ⟨g,rfl⟩;go_wp2;go_ret;exact⟨⟨_,rfl,.inl ⟨t,rfl,u,x⟩⟩,ze o (ze f g.bel)⟩
        ·have e3:=Jc g3
         cases L with
         | false =>
          have x:Hid (ZH p.n _ t):=⟨by rw[A.out];exact hlt2,⟨g1,g2,.inr (λh=>by have:=E.2 h;cases this)⟩,C⟩
          clear g1 g2 g3;refine zh (by kernel_rfl) (by kernel_rfl) ?_
          repeat(first|go_big_quiet_skip|(go_big_quiet_want;go_big_quiet_op;go_big_quiet_on))
          refine Jl ?_;rintro _ ⟨g,rfl⟩;go_wp2;go_ret;exact⟨⟨_,rfl,.inl ⟨t,rfl,u,x⟩⟩,ze o (ze f g.bel)⟩
         | true =>
          have x:Hid (¬ zbD p n S cl q t):=λh=>by
           rcases h.2.2 with h|h
           ·exact g3 h
           ·exact h (E.1 rfl)
          clear g1 g2 g3;refine zh (by kernel_rfl) (by kernel_rfl) ?_
          repeat(first|go_big_quiet_skip|(go_big_quiet_want;go_big_quiet_op;go_big_quiet_on))
          refine Jl ?_;rintro _ ⟨g,rfl⟩;go_wp2;go_roundw
          case rel=>exact⟨t+1,by omega,by go_num,λj B=>by
           by_cases e:j=t
           ·subst e;exact x
           ·exact C j (by omega),ze f g.bel⟩
          case measure=>simp[intOf];omega
       ·have O:(Za p S n t == p.B t)=false:=by simpa using g2
        have x:Hid (¬ zbD p n S cl q t):=λh=>g2 h.2.1
        clear g1 g2;refine zh (by kernel_rfl) (by kernel_rfl) ?_
        repeat(first|go_big_quiet_skip|(go_big_quiet_want;go_big_quiet_op;go_big_quiet_on))
        refine Jl ?_;rintro _ ⟨g,rfl⟩;go_wp2;go_roundw
        case rel=>exact⟨t+1,by omega,by go_num,λj B=>by
         by_cases e:j=t
         ·subst e;exact x
         ·exact C j (by omega),ze f g.bel⟩
        case measure=>simp[intOf];omega
      ·have N:(p.A t == cl)=false:=by simpa using g1
       have x:Hid (¬ zbD p n S cl q t):=λh=>g1 h.1
       clear g1;refine zh (by kernel_rfl) (by kernel_rfl) ?_
       repeat(first|go_big_quiet_skip|(go_big_quiet_want;go_big_quiet_op;go_big_quiet_on))
       refine Jl ?_;rintro _ ⟨g,rfl⟩;go_wp2;go_roundw
       case rel=>exact⟨t+1,by omega,by go_num,λj B=>by
        by_cases e:j=t
        ·subst e;exact x
        ·exact C j (by omega),ze f g.bel⟩
       case measure=>simp[intOf];omega
     ·obtain rfl:t=k:=by omega
      go_wp2;go_ret;exact⟨⟨_,rfl,.inr ⟨rfl,.inr (λj h=>C j (by have:=h.1;rw[A.out] at this;exact this) h.2.1)⟩⟩,ze o a⟩
inductive qV (s:Zj) (w:Wk) (x:zY):Int->zY->Prop
 | noStay (r:Nat) (e:w.res=0) (g:w.goes=true) (h:r<x.stn) (q:(x.st r).who=w.who):qV s w x 0 (x.noStay r)
 | noRoom (r:Nat) (e:w.res=1) (g:w.goes=true) (h:r<x.ron) (q:(x.ro r).who=w.who):qV s w x 0 (x.noRoom r)
 | noSeat (r:Nat) (e:w.res=2) (g:w.goes=true) (h:r<x.sen) (q:(x.se r).who=w.who):qV s w x 0 (x.noSeat r)
 | addStay (k:Nat) (e:w.res=0) (g:w.goes=false) (h:zen s.la x.stn x.st w.p.len w.p.hei (k:Int)):qV s w x 0 (x.addStay ⟨w.who,(k:Int),w.p.len,w.p.hei⟩)
 | deck (e:w.res=0) (g:w.goes=false) (h:zen s.la x.stn x.st w.p.len w.p.hei (-1)):qV s w x 5 x
 | addWhole (k:Nat) (e:w.res=1) (g:w.goes=false) (a:w.p.all=true) (h:RIx x.ron s.ca.n (zbD s.ca x.ron x.ro w.p.cl w.p.pe) (k:Int)):qV s w x 0 (x.addRoom ⟨w.who,(k:Int),s.ca.B k,true⟩)
 | ZY (e:w.res=1) (g:w.goes=false) (a:w.p.all=true) (h:RIx x.ron s.ca.n (zbD s.ca x.ron x.ro w.p.cl w.p.pe) (-1)):qV s w x 6 x
 | addBerth (k:Nat) (e:w.res=1) (g:w.goes=false) (a:w.p.all=false) (h:RIx x.ron s.ca.n (zbN s.ca x.ron x.ro w.p.cl w.p.be) (k:Int)):qV s w x 0 (x.addRoom ⟨w.who,(k:Int),w.p.be,false⟩)
 | berth (e:w.res=1) (g:w.goes=false) (a:w.p.all=false) (h:RIx x.ron s.ca.n (zbN s.ca x.ron x.ro w.p.cl w.p.be) (-1)):qV s w x 6 x
 | addSeat (e:w.res=2) (g:w.goes=false) (hn:x.sen≠60) (hs:QN x.se x.sen+w.p.pe<=s.most):qV s w x 0 (x.addSeat ⟨w.who,w.p.pe⟩)
 | seats (e:w.res=2) (g:w.goes=false) (h:x.sen=60∨s.most<QN x.se x.sen+w.p.pe):qV s w x 7 x
theorem rIx_at {n m k:Nat}{P:Nat->Prop}(h:RIx n m P (k:Int)):n≠60/\ZH m P k:=by
 rcases h with⟨j,e,a,b⟩|⟨e,_⟩
 ·obtain rfl:k=j:=by omega
  exact⟨a,b⟩
 ·omega
theorem znq {p:zH}{n k:Nat}{S:Nat->Zp}{len hei:Int}(h:zen p n S len hei (k:Int)):n≠60/\zba p (QW p S n) len hei k:=by
 rcases h with⟨j,e,a,b⟩|⟨e,_⟩
 ·obtain rfl:k=j:=by omega
  exact⟨a,b⟩
 ·omega
theorem zcO {n m:Nat}{P:Nat->Prop}{r g:Int}(h:RIx n m P r)(i:RIx n m P g):r=g:=by
 rcases h with⟨j,e,a,b⟩|⟨e,a⟩ <;> rcases i with⟨k,f,d,b'⟩|⟨f,d⟩
 ·rw[e,f,zgu b b']
 ·rcases d with c|c
  ·exact absurd c a
  ·exact absurd b (c j)
 ·rcases a with c|c
  ·exact absurd c d
  ·exact absurd b' (c k)
 ·rw[e,f]
theorem ziM (n m:Nat)(P:Nat->Prop):∃ r,RIx n m P r:=by
 by_cases h:n≠60/\∃ k,ZH m P k
 ·obtain⟨h1,k,h2⟩:=h
  exact⟨k,.inl ⟨k,rfl,h1,h2⟩⟩
 ·refine⟨-1,.inr ⟨rfl,?_⟩⟩
  by_cases c:n=60
  ·exact .inl c
  ·exact .inr (λk a=>h ⟨c,k,a⟩)
theorem zcP {p:zH}{n:Nat}{S:Nat->Zp}{len hei r g:Int}(h:zen p n S len hei r)(i:zen p n S len hei g):r=g:=by
 rcases h with⟨j,e,a,b⟩|⟨e,a⟩ <;> rcases i with⟨k,f,d,b'⟩|⟨f,d⟩
 ·rw[e,f,zex b b']
 ·rcases d with c|c
  ·exact absurd c a
  ·exact absurd b (c j)
 ·rcases a with c|c
  ·exact absurd c d
  ·exact absurd b' (c k)
 ·rw[e,f]
theorem zkx (p:zH)(n:Nat)(S:Nat->Zp)(len hei:Int):∃ r,zen p n S len hei r:=by
 by_cases h:n≠60/\∃ k,zba p (QW p S n) len hei k
 ·obtain⟨h1,k,h2⟩:=h
  exact⟨k,.inl ⟨k,rfl,h1,h2⟩⟩
 ·refine⟨-1,.inr ⟨rfl,?_⟩⟩
  by_cases c:n=60
  ·exact .inl c
  ·exact .inr (λk a=>h ⟨c,k,a⟩)
def ComesOk (w:Wk)(x:zY):Prop:=w.goes=false->In w.who 1 9999/\qI w.p/\zaI w.p.len w.p.cl w.res=true/\¬ zfn x w.res w.who
theorem qV.on {s:Zj}{w:Wk}{x y:zY}{b:Int}(h:qV s w x b y)(n:qm s x)(j:ComesOk w x):(b=0/\zbO s w x y)∨(In b 5 7/\y=x):=by
 cases h with
 | noStay r e g h q=>exact .inl ⟨rfl,.noStay r e g h q⟩
 | noRoom r e g h q=>exact .inl ⟨rfl,.noRoom r e g h q⟩
 | noSeat r e g h q=>exact .inl ⟨rfl,.noSeat r e g h q⟩
 | deck e g h=>exact .inr ⟨by unfold In;omega,rfl⟩
 | ZY e g a h=>exact .inr ⟨by unfold In;omega,rfl⟩
 | berth e g a h=>exact .inr ⟨by unfold In;omega,rfl⟩
 | seats e g h=>exact .inr ⟨by unfold In;omega,rfl⟩
 | addStay k e g h =>
  obtain⟨h1,h2,h3,d⟩:=j g;have l:=znq h;rw[e] at h3 d;have m:=by simpa [zaI] using h3
  have i:zbA w.p.len w.p.hei:=by rcases h2.2.1 with c|c;omega;exact c
  exact .inl ⟨rfl,.addStay k e g ⟨(QO _ _ _).1 n.1,l.1,d,h1,i.1,i.2,l.2⟩⟩
 | addWhole k e g a h =>
  obtain⟨h1,h2,h3,d⟩:=j g;obtain⟨o,f⟩:=rIx_at h;rw[e] at h3 d;refine .inl ⟨rfl,.addRoom _ e g rfl h1 d ⟨?_,λ_=>⟨f.2.1.2.1,rfl⟩,λh=>(by cases h)⟩⟩
  have:=f.1;unfold In
  show _<=(k:Int)/\(k:Int)<=_
  omega
 | addBerth k e g a h =>
  obtain⟨h1,h2,h3,d⟩:=j g;obtain⟨o,f⟩:=rIx_at h;rw[e] at h3 d;have m:=by simpa [zaI] using h3
  have i:zfN w.p.cl w.p.all w.p.be:=by rcases h2.2.2 with c|c;omega;exact c
  refine .inl ⟨rfl,.addRoom _ e g rfl h1 d ⟨?_,λh=>(by cases h),λ_=>?_⟩⟩
  ·have:=f.1
   unfold In
   show _<=(k:Int)/\(k:Int)<=_
   omega
  ·rcases i.2 with⟨c,_⟩|⟨_,c⟩
   ·rw[a] at c;cases c
   ·exact⟨c.1,f.2.1.2⟩
 | addSeat e g hn hs =>
  obtain⟨h1,h2,h3,d⟩:=j g;rw[e] at h3 d;exact .inl ⟨rfl,.addSeat _ e g rfl hn h1 h2.1 d hs⟩
section
open Go.RowKit
theorem znr (S:Nat->Qe)(n:Nat)(x many:Int):QN (Ze S n x many) (n+1)=QN S n+many:=by
 unfold Ze;rw[QN,zfi n (λj a=>zcv a),zdT]
section
variable {s : Zj} {v : Wk} {l : zY} {w' : World} {base t : Nat} {e : Ending}
theorem placeW (g:qm s l)(hr:v.res=0)(f:v.goes=false)(n:In v.who 1 9999)(d:zbA v.p.len v.p.hei)(j:¬ Has (Qc l.st) l.stn v.who)(h:zgf w' base t s.la l.stn l.st v.who v.p.len v.p.hei e) :
  (∃ (k:Nat) (u:Value),e=.returned (.tuple #[u,(k:Int),.bool true])/\qV s v l 0 (l.addStay ⟨v.who,(k:Int),v.p.len,v.p.hei⟩)/\w'.ownsRow base t 4 u (l.stn+1) (zy (l.addStay ⟨v.who,(k:Int),v.p.len,v.p.hei⟩).st (l.stn+1))) ∨
  (∃ (u:Value) (z:Int),e=.returned (.tuple #[u,z,.bool false])/\qV s v l 5 l/\w'.ownsRow base t 4 u 0 []):=by
 obtain⟨u,rfl,a⟩:=h;have i:=(QO _ _ _).1 g.1
 cases hp:zbY s.la l.stn l.st v.who v.p.len v.p.hei with
 | some k =>
  have b:=zkk hp;unfold zaC zgI zdR zkl at *;unfold zaC at a;rw[hp] at a ⊢;exact .inl ⟨k,u,rfl,.addStay k hr f (.inl ⟨k,rfl,b.2.1,b.2.2.2.2.2.2⟩),a⟩
 | none =>
  unfold zaC zgI zdR zkl at *;unfold zaC at a;rw[hp] at a ⊢;refine .inr ⟨u,0,rfl,.deck hr f (.inr ⟨rfl,?_⟩),a⟩
  by_cases c:l.stn=60
  ·exact .inl c
  ·refine .inr λk m=>?_
   rw[zgH ⟨i,c,j,n,d.1,d.2,m⟩] at hp
   cases hp
theorem wholeW (g:qm s l)(hr:v.res=1)(f:v.goes=false)(d:v.p.all=true)(o:In v.who 1 9999)(i:In v.p.cl 1 3)(n:In v.p.pe 1 20)(j:¬ Has (ZV l.ro) l.ron v.who)(h:zgc w' base t s.ca l.ron l.ro v.who v.p.cl v.p.pe e) :
  (∃ (k:Nat) (u:Value),e=.returned (.tuple #[u,(k:Int),.bool true])/\qV s v l 0 (l.addRoom ⟨v.who,(k:Int),s.ca.B k,true⟩)/\w'.ownsRow base t 4 u (l.ron+1) (zw (l.addRoom ⟨v.who,(k:Int),s.ca.B k,true⟩).ro (l.ron+1))) ∨
  (∃ (u:Value) (z:Int),e=.returned (.tuple #[u,z,.bool false])/\qV s v l 6 l/\w'.ownsRow base t 4 u 0 []):=by
 obtain⟨u,rfl,a⟩:=h
 cases hp:zdr s.ca l.ron l.ro v.who v.p.cl v.p.pe with
 | some k =>
  have b:=zgv hp;unfold zcK zgw zdM zdN at *;unfold zcK at a;rw[hp] at a ⊢;exact .inl ⟨k,u,rfl,.addWhole k hr f d (.inl ⟨k,rfl,b.1.1.2.1,b.2⟩),a⟩
 | none =>
  unfold zcK zgw zdM zdN at *;unfold zcK at a;rw[hp] at a ⊢;refine .inr ⟨u,0,rfl,.whole hr f d (.inr ⟨rfl,?_⟩),a⟩
  by_cases c:l.ron=60
  ·exact .inl c
  ·refine .inr λk m=>?_
   have:=zdL (G:=zmA _ _ _ _ _ _) ⟨⟨g.2.1,c,j,o⟩,i,n⟩ m;unfold zdr at hp;rw[this] at hp
   cases hp
theorem berthW (g:qm s l)(hr:v.res=1)(f:v.goes=false)(d:v.p.all=false)(o:In v.who 1 9999)(i:In v.p.cl 1 3)(n:In v.p.be 1 4)(j:¬ Has (ZV l.ro) l.ron v.who)(h:zgd w' base t s.ca l.ron l.ro v.who v.p.cl v.p.be e) :
  (∃ (k:Nat) (u:Value),e=.returned (.tuple #[u,(k:Int),.bool true])/\qV s v l 0 (l.addRoom ⟨v.who,(k:Int),v.p.be,false⟩)/\w'.ownsRow base t 4 u (l.ron+1) (zw (l.addRoom ⟨v.who,(k:Int),v.p.be,false⟩).ro (l.ron+1))) ∨
  (∃ (u:Value) (z:Int),e=.returned (.tuple #[u,z,.bool false])/\qV s v l 6 l/\w'.ownsRow base t 4 u 0 []):=by
 obtain⟨u,rfl,a⟩:=h
 cases hp:zej s.ca l.ron l.ro v.who v.p.cl v.p.be with
 | some k =>
  have b:=zgv hp;unfold zcL zgy zdO zdP at *;unfold zcL at a;rw[hp] at a ⊢;exact .inl ⟨k,u,rfl,.addBerth k hr f d (.inl ⟨k,rfl,b.1.1.2.1,b.2⟩),a⟩
 | none =>
  unfold zcL zgy zdO zdP at *;unfold zcL at a;rw[hp] at a ⊢;refine .inr ⟨u,0,rfl,.berth hr f d (.inr ⟨rfl,?_⟩),a⟩
  by_cases c:l.ron=60
  ·exact .inl c
  ·refine .inr λk m=>?_
   have:=zdL (G:=zmB _ _ _ _ _ _) ⟨⟨g.2.1,c,j,o⟩,i,n⟩ m;unfold zej at hp;rw[this] at hp
   cases hp
theorem seatW (b:qm s l)(hr:v.res=2)(d:v.goes=false)(j:In v.who 1 9999)(i:In v.p.pe 1 20)(g:¬ Has (zag l.se) l.sen v.who)(h:zge w' base t s.most l.sen l.se v.who v.p.pe e) :
  (∃ u:Value,e=.returned (.tuple #[u,.bool true])/\qV s v l 0 (l.addSeat ⟨v.who,v.p.pe⟩)/\w'.ownsRow base t 2 u (l.sen+1) (zB (l.addSeat ⟨v.who,v.p.pe⟩).se (l.sen+1))) ∨
  (∃ u:Value,e=.returned (.tuple #[u,.bool false])/\qV s v l 7 l/\w'.ownsRow base t 2 u 0 []):=by
 obtain⟨u,rfl,a⟩:=h
 by_cases hT:zck s.most l.sen l.se v.who v.p.pe
 ·unfold zdQ at a
  rw[zel hT] at a ⊢;have h2:=hT.2;have f:QN (Ze _ _ v.who _) _=QN l.se l.sen+v.p.pe:=znr _ _ _ _;refine .inl ⟨u,rfl,.addSeat hr d (by have:=h2.2.1;omega) (by have:=h2.2.2.2;rw[f] at this;exact this),a⟩
 ·unfold zdQ at a
  rw[zfh hT] at a ⊢;refine .inr ⟨u,rfl,.seats hr d ?_,a⟩
  by_cases c:l.sen=60
  ·exact .inl c
  ·by_cases c2:QN l.se l.sen+v.p.pe<=s.most
   ·exact absurd ⟨b.2.2,(b.addSeat c j i g c2).2.2⟩ hT
   ·exact .inr (by omega)
end
end
theorem Qg (x:Int)(w:World) :
  Calls prog 102 #[int i64 x] w λe w'=>e=.returned (.bool (decide (In x 1 9999)))/\w'=w:=by
 go_enter func102,ntmps102;go_wp2_with (first|(go_at_call 191;refine(zz _ _ _ _).mono ?_;rintro e w' ⟨rfl,rfl⟩))
 go_ret;exact⟨rfl,rfl⟩
section
open Go.RowKit
end
theorem zfp (D:Option Addr)(n c:Nat)(p:zH)(F:Nat->Int)(x l s h:Int)(w:World)(H:p.n=n)(hn:n<=4)(O:zG w D p) :
  Calls prog 264 #[(D,n,c),.agg #[(F 0),(F 1),(F 2),(F 3)],.agg #[x,l,s,h]] w λe w'=>qX (zmC p F ⟨x,l,s,h⟩) e/\Below w.heap.size w w':=by
 have B:=hI H;clear H;go_enter func264,ntmps264;go_upto_region 1 with fail;have f:((w.alloc _).alloc (.cells #[x,l,s,h] 220)).heap[w.heap.size]?=some (.cells #[(F 0),(F 1),(F 2),(F 3)] 319 (0,0)):=zd (Jb w _) _;have i:=zoT f;have a:=nw2HB f;generalize (w.alloc _).alloc _=W at f i a ⊢;have J:=zM f;have q:=zM i;have z0:∀ g:zn W,g.val.cell? _=some (.int _ x):=λg=>(g.bel.cell q).trans (za i 0 _ rfl)
 have z1:∀ g:zn W,g.val.cell? _=some (.int _ l):=λg=>(g.bel.cell q).trans (za i 1 _ rfl)
 have z2:∀ g:zn W,g.val.cell? _=some (.int _ s):=λg=>(g.bel.cell q).trans (za i 2 _ rfl)
 have z3:∀ g:zn W,g.val.cell? _=some (.int _ h):=λg=>(g.bel.cell q).trans (za i 3 _ rfl)
 have y:Hid (∀ m,m<4->∀ g:zn W,g.val.cell? (w.heap.size,m)=some (F m)):=by
  intro m I g;refine(g.bel.cell J).trans ?_;have:m=0∨m=1∨m=2∨m=3:=by omega
  rcases this with rfl|rfl|rfl|rfl
  ·exact za f 0 _ rfl
  ·exact za f 1 _ rfl
  ·exact za f 2 _ rfl
  ·exact za f 3 _ rfl
 clear f i J q;have N:IntKind.i64.wrap ((n:Int) - 1)=(n:Int) - 1:=by rw[Jk];omega
 by_cases h1:In x 1 9999
 ·have j:=Jd h1
  have t:=hI h1;clear h1
  by_cases h2:In s 1 2000/\In h 1 500
  ·have k:=Jd h2
   have r:=hI h2;clear h2
   by_cases h3:In l 0 ((n:Int) - 1)
   ·have o:=Jd h3
    have u:=hI h3;obtain⟨m,rfl⟩:∃ m:Nat,l=m:=⟨l.toNat,by unfold In at h3;omega⟩
    have I:m<n:=by unfold In at h3;omega
    clear h3;obtain⟨b,off,rfl,E,G⟩:=O m (by rw[B.out];exact I)
    have M:=Ja w _ E;have y2:∀ g:zn W,_:=λg=>((ze a g.bel).cell (p:=⟨b,_+1,_⟩) M).trans G
    have y3:=y m (by omega)
    have i1:(0:Int)<=(m:Int):=by omega
    have i2:(m:Int)<(n:Int):=by omega
    have i3:(m:Int)<4:=by omega
    have i4:m<4:=by omega
    clear E G
    by_cases h4:h<=p.B m
    ·have K:=Jd h4
     have z:=hI h4;clear h4
     by_cases h5:s<=F m
     ·have L:=Jd h5
      have A:=hI h5;clear h5;refine zh (by kernel_rfl) (by kernel_rfl) ?_
      repeat(first|go_big_quiet_skip|(go_big_quiet_want;go_big_quiet_op;first|go_big_quiet_on|(apply Jg;refine⟨λg=>?_,?_⟩;(focus(first|(go_at_call 102;refine zf (v:=.bool true) ((Qg _ _).mono ?_);rintro e d ⟨rfl,rfl⟩;exact⟨by rw[j],bZ⟩)|(go_at_call 267;refine zf (v:=.bool true) ((zbq _ _ _).mono ?_);rintro e d ⟨rfl,rfl⟩;exact⟨by rw[k],bZ⟩)|(go_at_call 191;refine zf (v:=.bool true) ((zz _ _ _ _).mono ?_);rintro e d ⟨rfl,rfl⟩;exact⟨by rw[o],bZ⟩)));go_big_quiet_on)))
      refine Jl ?_;rintro _ ⟨g,rfl⟩;go_wp2;go_ret;exact⟨zR ⟨t,r.1,r.2,by rw[B.out];exact u,z,A⟩,ze a g.bel⟩
     ·have L:=Jc h5
      have A:=hI h5;clear h5;refine zh (by kernel_rfl) (by kernel_rfl) ?_
      repeat(first|go_big_quiet_skip|(go_big_quiet_want;go_big_quiet_op;first|go_big_quiet_on|(apply Jg;refine⟨λg=>?_,?_⟩;(focus(first|(go_at_call 102;refine zf (v:=.bool true) ((Qg _ _).mono ?_);rintro e d ⟨rfl,rfl⟩;exact⟨by rw[j],bZ⟩)|(go_at_call 267;refine zf (v:=.bool true) ((zbq _ _ _).mono ?_);rintro e d ⟨rfl,rfl⟩;exact⟨by rw[k],bZ⟩)|(go_at_call 191;refine zf (v:=.bool true) ((zz _ _ _ _).mono ?_);rintro e d ⟨rfl,rfl⟩;exact⟨by rw[o],bZ⟩)));go_big_quiet_on)))
      refine Jl ?_;rintro _ ⟨g,rfl⟩;go_wp2;go_ret;exact⟨zl (λC=>Int.not_le.2 A C.room),ze a g.bel⟩
    ·have K:=Jc h4
     have z:=hI h4;clear h4;refine zh (by kernel_rfl) (by kernel_rfl) ?_
     repeat(first|go_big_quiet_skip|(go_big_quiet_want;go_big_quiet_op;first|go_big_quiet_on|(apply Jg;refine⟨λg=>?_,?_⟩;(focus(first|(go_at_call 102;refine zf (v:=.bool true) ((Qg _ _).mono ?_);rintro e d ⟨rfl,rfl⟩;exact⟨by rw[j],bZ⟩)|(go_at_call 267;refine zf (v:=.bool true) ((zbq _ _ _).mono ?_);rintro e d ⟨rfl,rfl⟩;exact⟨by rw[k],bZ⟩)|(go_at_call 191;refine zf (v:=.bool true) ((zz _ _ _ _).mono ?_);rintro e d ⟨rfl,rfl⟩;exact⟨by rw[o],bZ⟩)));go_big_quiet_on)))
     refine Jl ?_;rintro _ ⟨g,rfl⟩;go_wp2;go_ret;exact⟨zl (λC=>Int.not_le.2 z C.high),ze a g.bel⟩
   ·have o:=Jc h3
    have u:=hI h3;clear h3;refine zh (by kernel_rfl) (by kernel_rfl) ?_
    repeat(first|go_big_quiet_skip|(go_big_quiet_want;go_big_quiet_op;first|go_big_quiet_on|(apply Jg;refine⟨λg=>?_,?_⟩;(focus(first|(go_at_call 102;refine zf (v:=.bool true) ((Qg _ _).mono ?_);rintro e d ⟨rfl,rfl⟩;exact⟨by rw[j],bZ⟩)|(go_at_call 267;refine zf (v:=.bool true) ((zbq _ _ _).mono ?_);rintro e d ⟨rfl,rfl⟩;exact⟨by rw[k],bZ⟩)|(go_at_call 191;refine zf (v:=.bool false) ((zz _ _ _ _).mono ?_);rintro e d ⟨rfl,rfl⟩;exact⟨by rw[o],bZ⟩)));go_big_quiet_on)))
    refine Jl ?_;rintro _ ⟨g,rfl⟩;go_wp2;go_ret;exact⟨zl (λh=>u (by have:=h.ln;rw[B.out] at this;exact this)),ze a g.bel⟩
  ·have k:=Jc h2
   have r:=hI h2;clear h2;refine zh (by kernel_rfl) (by kernel_rfl) ?_
   repeat(first|go_big_quiet_skip|(go_big_quiet_want;go_big_quiet_op;first|go_big_quiet_on|(apply Jg;refine⟨λg=>?_,?_⟩;(focus(first|(go_at_call 102;refine zf (v:=.bool true) ((Qg _ _).mono ?_);rintro e d ⟨rfl,rfl⟩;exact⟨by rw[j],bZ⟩)|(go_at_call 267;refine zf (v:=.bool false) ((zbq _ _ _).mono ?_);rintro e d ⟨rfl,rfl⟩;exact⟨by rw[k],bZ⟩)));go_big_quiet_on)))
   refine Jl ?_;rintro _ ⟨g,rfl⟩;go_wp2;go_ret;exact⟨zl (λh=>r ⟨h.len,h.hei⟩),ze a g.bel⟩
 ·have j:=Jc h1
  have t:=hI h1;clear h1;refine zh (by kernel_rfl) (by kernel_rfl) ?_
  repeat(first|go_big_quiet_skip|(go_big_quiet_want;go_big_quiet_op;first|go_big_quiet_on|(apply Jg;refine⟨λg=>?_,?_⟩;(focus(first|(go_at_call 102;refine zf (v:=.bool false) ((Qg _ _).mono ?_);rintro e d ⟨rfl,rfl⟩;exact⟨by rw[j],bZ⟩)));go_big_quiet_on)))
  refine Jl ?_;rintro _ ⟨g,rfl⟩;go_wp2;go_ret;exact⟨zl (λh=>t h.who),ze a g.bel⟩
theorem zgP (c d f g x:Int)(a:Nat)(w:World)(i:w.cell? (a,0)=some (int i64 x)) :
  Calls prog 270 #[.agg #[c,d,f,g],.pointer (some (a,0))] w λe w'=>e=.returned (.bool (c == x))/\Below w.heap.size w w':=by
 have b:=Ja w _ i;have h:¬ a=w.heap.size:=by have:a<w.heap.size:=b;omega
 go_enter func270,ntmps270;go_wp2;go_ret;exact⟨rfl,zk bZ _⟩
theorem ziN (t:Option Addr)(n c:Nat)(S:Nat->Zp)(x:Int)(h:Nat)(w:World)(hn:n<=1048576)(z:qw w t n S)(r:w.cell? (h,0)=some (int i64 x)) :
  Calls prog 269 #[(t,n,c),.func (.func 270) #[] #[.pointer (some (h,0))]] w λe w'=>e=.returned (Zv (Qc S) x n)/\Below w.heap.size w w':=by
 have q:=Ja w _ r;go_enter func269,ntmps269;go_wp2;go_loopw [5,8] (λ_ i wr=>∃ k,k<=n/\i=int i64 k/\(∀ j,j<k->Qc S j≠x)/\Below w.heap.size w wr) (λ_ i _=>n - (intOf i).toNat)
 case atStart=>exact⟨0,Jq _,rfl,λj y=>by omega,bZ⟩
 case round =>
  obtain⟨k,hk,rfl,d,a⟩:=hrel;have l:=hI d;clear d
  by_cases hlt2:k<n
  ·obtain⟨b,off,rfl,o,h1,h2,h3⟩:=z k hlt2
   have g:=Ja w _ o;have c0:=(a.cell g).trans o;have c1:=(a.cell (p:=⟨b,_+1,_⟩) g).trans h1;have c2:=(a.cell (p:=⟨b,_+2,_⟩) g).trans h2;have c3:=(a.cell (p:=⟨b,_+3,_⟩) g).trans h3;have s:=hI ((a.cell q).trans r);clear o h1 h2 h3 r
   by_cases he:Qc S k=x
   ·have v:((S k).who == x)=true:=by unfold Qc at he;simpa using he
    have m:Hid (Zv (Qc S) x n=k):=by
     have:=zfe hlt2 he l;unfold Zv Hid;rw[this,Jf hlt2]
    clear he;go_wp2_with (first|(go_at_call 270;refine(zgP _ _ _ _ x h _ s).mono ?_;rintro e A ⟨rfl,f⟩))
    go_ret;exact⟨by rw[m.out];rfl,ze a f⟩
   ·have v:((S k).who == x)=false:=by unfold Qc at he;simpa using he
    have u:=hI he;clear he;go_wp2_with (first|(go_at_call 270;refine(zgP _ _ _ _ x h _ s).mono ?_;rintro e A ⟨rfl,f⟩))
    go_roundw
    case rel=>exact⟨k+1,by omega,by go_num,λj y=>by
     by_cases e:j=k
     ·subst e;exact u
     ·exact l j (by omega),ze a f⟩
    case measure=>simp[intOf];omega
  ·obtain rfl:k=n:=by omega
   have m:=hI (zbM (zdp l));go_wp2;go_ret;exact⟨by rw[m.out];rfl,a⟩
/-- stayOf: where the stay of the by stands, -1 Zx one. -/
theorem zbz (b:Option Addr)(n c:Nat)(S:Nat->Zp)(x:Int)(w:World)(i:n<=1048576)(j:qw w b n S) :
  Calls prog 243 #[(b,n,c),x] w λe w'=>e=.returned (Zv (Qc S) x n)/\Below w.heap.size w w':=by
 have a:Below _ w (w.alloc (.cells #[x] 3)):=zk bZ _;have g:=hI (j.below a);have f:Hid ((w.alloc (.cells #[_] 3)).cell? _=some (int i64 x)):=za (Jb w _) 0 _ rfl;have h:∀ (fn) (first cap) (w),(Instr.makeFunc fn _ cap).run prog w=.ok (.func fn first cap) w:=λ_ _ _ _=>rfl
 go_enter func243,ntmps243;go_wp2_with (first|(go_at_call 269;refine(ziN b n c S x _ _ i g f).mono ?_;rintro e w2 ⟨rfl,d⟩))
 go_ret;exact⟨rfl,ze a d⟩
end Go.Proofs.YtmdnjgihooflfaaGreatDoor
