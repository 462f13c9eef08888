import Derived.Test.YtgmdnkngnhkgbaaGreatB28
import Derived.Test.YtgmdnkngnhkgbaaGreatB37
import Derived.Test.YtgmdnkngnhkgbaaGreatB35
import Derived.Test.YtgmdnkngnhkgbaaGreatB18
namespace Go.Proofs.YtgmdnkngnhkgbaaGreat
open Go.RowKit
open Go.Value (int)
open Go.IntKind (i64)
set_option maxHeartbeats 64000000
set_option maxRecDepth 1000000
def RIx (n m:Nat)(P:Nat->Prop)(r:Int):Prop:=(∃ k:Nat,r=(k:Int)/\n≠60/\zag m P k)∨(r=-1/\(n=60∨∀ k,¬ zag m P k))
theorem zcd (z A:Option Addr)(m O n c:Nat)(p:zP)(S:Nat->qH)(cl q:Int)(w:World)(hl:p.n=m)(y:qX p n S)(M:zT w z p)(N:qo w A n S) :
  Calls Tryz.prog 127 #[.slice z m O,.slice A n c,int i64 cl,int i64 q] w fun e w'=>(∃ r:Int,e=.returned (int i64 r)/\RIx n p.n (zbr p n S cl q) r)/\Below w.heap.size w w':=by
 have x:=hI hl;have H:=hI y;have I:=hI M;have Q:=hI N;have U:m<=6:=by rw[← hl];exact y.1.1
 have t:n<=60:=y.2.1;clear hl y M N
 by_cases h60:n=60
 ·have B:(n == 60)=true:=by simpa using h60
  have C:((n:Int) == 60)=true:=by simp;omega
  have o:=hI h60;clear h60;go_enter Tryz.func127,Tryz.ntmps127;go_wp2;go_ret;exact⟨⟨_,rfl,.inr ⟨rfl,.inl o.out⟩⟩,bZ⟩
 ·have B:(n == 60)=false:=by simpa using h60
  have C:((n:Int) == 60)=false:=by simp;omega
  have o:=hI h60;clear h60;go_enter Tryz.func127,Tryz.ntmps127;go_wp2_with fail;refine(zbP z A m O n c p S _ x.out H.out.1 t H.out.manys I.out Q.out).mono ?_;rintro e G ⟨⟨v,rfl,d⟩,f⟩;obtain⟨aw,cw,rfl,_⟩:=zr d;have P:=hI (own_ints d);clear d;go_wp2;go_loopw [10,11,20] (fun _ _ i wr=>∃ k:Nat,k<=m/\i=int i64 k/\(∀ j:Nat,j<k->¬ zbr p n S cl q j)/\Below G.heap.size G wr) (fun _ _ i _=>m - (intOf i).toNat)
  case atStart=>exact⟨0,Nat.zero_le _,rfl,fun j L=>by omega,bZ⟩
  case round =>
   obtain⟨k,hk,rfl,g,a⟩:=hrel;have u:=hI g;clear g
   by_cases hlt:k<m
   ·obtain⟨b,off,rfl,D,J⟩:=I.out k (by rw[x.out];exact hlt)
    have K:=World.block_lt_of_cell? w _ D;have c1:=((zf f a).cell (p:=⟨b,off+k*2,none⟩) K).trans D;have c2:=((zf f a).cell (p:=⟨b,off+k*2+1,none⟩) K).trans J;obtain⟨b3,l,rfl,E⟩:=P.out k hlt;have F:=World.block_lt_of_cell? G _ E;have c3:(wr.alloc (.cells #[int i64 (p.A k),int i64 (p.B k)] 96)).cell? ⟨b3,l+k,none⟩=some (int i64 (qk p S n k)):=((zl a _).cell (p:=⟨b3,l+k,none⟩) F).trans E;have i1:(0:Int)<=(k:Int):=by omega
    have i2:(k:Int)<(m:Int):=by omega
    clear D J E
    by_cases g1:p.A k=cl
    ·have R:(p.A k == cl)=true:=by simpa using g1
     by_cases g2:q<=qk p S n k
     ·have T:decide (q<=qk p S n k)=true:=decide_eq_true g2
      have s:Hid (zag p.n (zbr p n S cl q) k):=⟨by rw[x.out];exact hlt,⟨g1,g2⟩,u.out⟩
      clear g1 g2;go_wp2;go_ret;exact⟨⟨_,rfl,.inl ⟨k,rfl,o.out,s.out⟩⟩,zf f (zl a _)⟩
     ·have T:decide (q<=qk p S n k)=false:=decide_eq_false g2
      have s:Hid (¬ zbr p n S cl q k):=fun h=>g2 h.2
      clear g1 g2;go_wp2;go_roundw
      case rel=>exact⟨k+1,by omega,by go_num,fun j L=>by
       by_cases e:j=k
       ·subst e;exact s.out
       ·exact u.out j (by omega),zl a _⟩
      case measure=>simp[intOf];omega
    ·have R:(p.A k == cl)=false:=by simpa using g1
     have s:Hid (¬ zbr p n S cl q k):=fun h=>g1 h.1
     clear g1;go_wp2;go_roundw
     case rel=>exact⟨k+1,by omega,by go_num,fun j L=>by
      by_cases e:j=k
      ·subst e;exact s.out
      ·exact u.out j (by omega),zl a _⟩
     case measure=>simp[intOf];omega
   ·obtain rfl:k=m:=by omega
    go_wp2;go_ret;exact⟨⟨_,rfl,.inr ⟨rfl,.inr (fun j h=>u.out j (by have:=h.1;rw[x.out] at this;exact this) h.2.1)⟩⟩,zf f a⟩
theorem zga (P Q:Option Addr)(m mc n c:Nat)(p:zP)(S:Nat->qH)(cl q:Int)(w:World)(hl:p.n=m)(M:qX p n S)(hx:zT w P p)(hz:qo w Q n S) :
  Calls Tryz.prog 128 #[.slice P m mc,.slice Q n c,int i64 cl,int i64 q] w fun e w'=>(∃ r:Int,e=.returned (int i64 r)/\RIx n p.n (zaR p n S cl q) r)/\Below w.heap.size w w':=by
 have B:=hI hl;have HD:=hI M;have O:=hI hx;have HZ:=hI hz;have a0:m<=6:=by rw[← hl];exact M.1.1
 have J:n<=60:=M.2.1;clear hl M hx hz
 by_cases h60:n=60
 ·have U:(n == 60)=true:=by simpa using h60
  have V:((n:Int) == 60)=true:=by simp;omega
  have u:=hI h60;clear h60;go_enter Tryz.func128,Tryz.ntmps128;go_wp2;go_ret;exact⟨⟨_,rfl,.inr ⟨rfl,.inl u.out⟩⟩,bZ⟩
 ·have U:(n == 60)=false:=by simpa using h60
  have V:((n:Int) == 60)=false:=by simp;omega
  have u:=hI h60;clear h60;go_enter Tryz.func128,Tryz.ntmps128;go_wp2_with fail;refine(zbP P Q m mc n c p S _ B.out HD.out.1 J HD.out.manys O.out HZ.out).mono ?_;rintro e w1 ⟨⟨v,rfl,s⟩,y⟩;obtain⟨aw,cw,rfl,_⟩:=zr s;have HI:=hI (own_ints s);clear s;go_wp2;go_loopw [10,12,23] (fun v _ i wr=>∃ (k:Nat) (L:Bool),k<=m/\i=int i64 k/\v=.bool L/\(L=true↔∃ j,j<k/\p.A j=cl/\q<=p.B j)/\Below w1.heap.size w1 wr) (fun _ _ i _=>m - (intOf i).toNat)
  case atStart=>exact⟨0,false,Nat.zero_le _,rfl,rfl,⟨fun h=>(by cases h),fun ⟨j,D,_⟩=>(by omega)⟩,bZ⟩
  case round =>
   obtain⟨k,L,hk,rfl,rfl,hL,a⟩:=hrel;have l:=hI hL;clear hL
   by_cases hlt:k<m
   ·obtain⟨b,off,rfl,C,H⟩:=O.out k (by rw[B.out];exact hlt)
    have I:=World.block_lt_of_cell? w _ C;have c1:=((zf y a).cell (p:=⟨b,off+k*2,none⟩) I).trans C;have c2:=((zf y a).cell (p:=⟨b,off+k*2+1,none⟩) I).trans H;clear C H
    cases L with
    | true =>
     go_wp2;go_roundw
     case rel=>exact⟨k+1,true,by omega,by go_num,rfl,⟨fun _=>(by obtain⟨j,D,h⟩:=l.out.1 rfl;exact⟨j,by omega,h⟩),fun _=>rfl⟩,zl a _⟩
     case measure=>simp[intOf];omega
    | false =>
     have HN:Hid (¬ ∃ j,j<k/\p.A j=cl/\q<=p.B j):=fun h=>by have:=l.out.2 h;cases this
     clear l
     by_cases g1:p.A k=cl
     ·have R:(p.A k == cl)=true:=by simpa using g1
      by_cases g2:q<=p.B k
      ·have T:decide (q<=p.B k)=true:=decide_eq_true g2
       have F:Hid (p.A k=cl/\q<=p.B k):=⟨g1,g2⟩;clear g1 g2;go_wp2;go_roundw
       case rel=>exact⟨k+1,true,by omega,by go_num,rfl,⟨fun _=>⟨k,by omega,F.out⟩,fun _=>rfl⟩,zl a _⟩
       case measure=>simp[intOf];omega
      ·have T:decide (q<=p.B k)=false:=decide_eq_false g2
       have F:Hid (¬ (p.A k=cl/\q<=p.B k)):=fun h=>g2 h.2
       clear g1 g2;go_wp2;go_roundw
       case rel=>exact⟨k+1,false,by omega,by go_num,rfl,⟨fun h=>(by cases h),fun ⟨j,D,h⟩=>by
        by_cases e:j=k
        ·subst e;exact absurd h F.out
        ·exact absurd ⟨j,by omega,h⟩ HN.out⟩,zl a _⟩
       case measure=>simp[intOf];omega
     ·have R:(p.A k == cl)=false:=by simpa using g1
      have F:Hid (¬ (p.A k=cl/\q<=p.B k)):=fun h=>g1 h.1
      clear g1;go_wp2;go_roundw
      case rel=>exact⟨k+1,false,by omega,by go_num,rfl,⟨fun h=>(by cases h),fun ⟨j,D,h⟩=>by
       by_cases e:j=k
       ·subst e;exact absurd h F.out
       ·exact absurd ⟨j,by omega,h⟩ HN.out⟩,zl a _⟩
      case measure=>simp[intOf];omega
   ·obtain rfl:k=m:=by omega
    have G:Hid (L=true↔∃ j,j<p.n/\p.A j=cl/\q<=p.B j):=by rw[B.out];exact l.out
    have N:=hI (HI.out.below a);have o:=zf y a;clear l HI y a;generalize wr=Z at *;go_wp2;go_loopw [13,14,43] (fun _ _ i wr=>∃ t:Nat,t<=k/\i=int i64 t/\(∀ j:Nat,j<t->¬ zaR p n S cl q j)/\Below Z.heap.size Z wr) (fun _ _ i _=>k - (intOf i).toNat)
    case atStart=>exact⟨0,Nat.zero_le _,rfl,fun j D=>by omega,bZ⟩
    case round =>
     obtain⟨t,ht,rfl,z,a⟩:=hrel;have E:=hI z;clear z
     by_cases hlt2:t<k
     ·obtain⟨b,off,rfl,C,H⟩:=O.out t (by rw[B.out];exact hlt2)
      have I:=World.block_lt_of_cell? w _ C;have c1:=((zf o a).cell (p:=⟨b,off+t*2,none⟩) I).trans C;have c2:=((zf o a).cell (p:=⟨b,off+t*2+1,none⟩) I).trans H;obtain⟨b3,A,rfl,X⟩:=N.out t hlt2;have Y:=World.block_lt_of_cell? Z _ X;have d:=heap_alloc_new wr (.cells #[int i64 (p.A t),int i64 (p.B t)] 96);have f:=zl a (.cells #[int i64 (p.A t),int i64 (p.B t)] 96);clear C H;go_upto_region 13 with fail;generalize hW:wr.alloc (.cells #[int i64 (p.A t),int i64 (p.B t)] 96)=W at d f ⊢;clear hW;have K:wr.heap.size<W.heap.size:=zQ d;have z0:∀ g:zv W,g.val.cell? ⟨wr.heap.size,0,none⟩=some (int i64 (p.A t)):=fun g=>(g.bel.cell K).trans (za d 0 _ rfl)
      have z1:∀ g:zv W,g.val.cell? ⟨wr.heap.size,1,none⟩=some (int i64 (p.B t)):=fun g=>(g.bel.cell K).trans (za d 1 _ rfl)
      have y3:∀ g:zv W,g.val.cell? ⟨b3,A+t,none⟩=some (int i64 (qk p S n t)):=fun g=>((zf f g.bel).cell (p:=⟨b3,A+t,none⟩) Y).trans X
      have i1:(0:Int)<=(t:Int):=by omega
      have i2:(t:Int)<(k:Int):=by omega
      clear c1 c2 d a X
      by_cases g1:p.A t=cl
      ·have R:(p.A t == cl)=true:=by simpa using g1
       by_cases g2:qk p S n t=p.B t
       ·have T:(qk p S n t == p.B t)=true:=by simpa using g2
        by_cases g3:q<=p.B t
        ·have e3:decide (q<=p.B t)=true:=decide_eq_true g3
         have x:Hid (zag p.n (zaR p n S cl q) t):=⟨by rw[B.out];exact hlt2,⟨g1,g2,.inl g3⟩,E.out⟩
         clear g1 g2 g3;refine zg (by kernel_rfl) (by kernel_rfl) ?_
         repeat(first|go_big_quiet_skip|(go_big_quiet_want;go_big_quiet_op;go_big_quiet_on))
         refine wpQuiet_nil ?_;rintro _ ⟨g,rfl⟩;go_wp2;go_ret;exact⟨⟨_,rfl,.inl ⟨t,rfl,u.out,x.out⟩⟩,zf o (zf f g.bel)⟩
        ·have e3:decide (q<=p.B t)=false:=decide_eq_false g3
         cases L with
         | false =>
          have x:Hid (zag p.n (zaR p n S cl q) t):=⟨by rw[B.out];exact hlt2,⟨g1,g2,.inr (fun h=>by have:=G.out.2 h;cases this)⟩,E.out⟩
          clear g1 g2 g3;refine zg (by kernel_rfl) (by kernel_rfl) ?_
          repeat(first|go_big_quiet_skip|(go_big_quiet_want;go_big_quiet_op;go_big_quiet_on))
          refine wpQuiet_nil ?_;rintro _ ⟨g,rfl⟩;go_wp2;go_ret;exact⟨⟨_,rfl,.inl ⟨t,rfl,u.out,x.out⟩⟩,zf o (zf f g.bel)⟩
         | true =>
          have x:Hid (¬ zaR p n S cl q t):=fun h=>by
           rcases h.2.2 with h|h
           ·exact g3 h
           ·exact h (G.out.1 rfl)
          clear g1 g2 g3;refine zg (by kernel_rfl) (by kernel_rfl) ?_
          repeat(first|go_big_quiet_skip|(go_big_quiet_want;go_big_quiet_op;go_big_quiet_on))
          refine wpQuiet_nil ?_;rintro _ ⟨g,rfl⟩;go_wp2;go_roundw
          case rel=>exact⟨t+1,by omega,by go_num,fun j D=>by
           by_cases e:j=t
           ·subst e;exact x.out
           ·exact E.out j (by omega),zf f g.bel⟩
          case measure=>simp[intOf];omega
       ·have T:(qk p S n t == p.B t)=false:=by simpa using g2
        have x:Hid (¬ zaR p n S cl q t):=fun h=>g2 h.2.1
        clear g1 g2;refine zg (by kernel_rfl) (by kernel_rfl) ?_
        repeat(first|go_big_quiet_skip|(go_big_quiet_want;go_big_quiet_op;go_big_quiet_on))
        refine wpQuiet_nil ?_;rintro _ ⟨g,rfl⟩;go_wp2;go_roundw
        case rel=>exact⟨t+1,by omega,by go_num,fun j D=>by
         by_cases e:j=t
         ·subst e;exact x.out
         ·exact E.out j (by omega),zf f g.bel⟩
        case measure=>simp[intOf];omega
      ·have R:(p.A t == cl)=false:=by simpa using g1
       have x:Hid (¬ zaR p n S cl q t):=fun h=>g1 h.1
       clear g1;refine zg (by kernel_rfl) (by kernel_rfl) ?_
       repeat(first|go_big_quiet_skip|(go_big_quiet_want;go_big_quiet_op;go_big_quiet_on))
       refine wpQuiet_nil ?_;rintro _ ⟨g,rfl⟩;go_wp2;go_roundw
       case rel=>exact⟨t+1,by omega,by go_num,fun j D=>by
        by_cases e:j=t
        ·subst e;exact x.out
        ·exact E.out j (by omega),zf f g.bel⟩
       case measure=>simp[intOf];omega
     ·obtain rfl:t=k:=by omega
      go_wp2;go_ret;exact⟨⟨_,rfl,.inr ⟨rfl,.inr (fun j h=>E.out j (by have:=h.1;rw[B.out] at this;exact this) h.2.1)⟩⟩,zf o a⟩
inductive Zv (s:Sail) (w:Wk) (x:qm):Int->qm->Prop
 | noStay (r:Nat) (e:w.res=0) (g:w.goes=true) (h:r<x.stn) (q:(x.st r).who=w.who):Zv s w x 0 (x.noStay r)
 | noRoom (r:Nat) (e:w.res=1) (g:w.goes=true) (h:r<x.ron) (q:(x.ro r).who=w.who):Zv s w x 0 (x.noRoom r)
 | noSeat (r:Nat) (e:w.res=2) (g:w.goes=true) (h:r<x.sen) (q:(x.se r).who=w.who):Zv s w x 0 (x.noSeat r)
 | addStay (k:Nat) (e:w.res=0) (g:w.goes=false) (h:zbb s.la x.stn x.st w.p.len w.p.hei (k:Int)):Zv s w x 0 (x.addStay ⟨w.who,(k:Int),w.p.len,w.p.hei⟩)
 | deck (e:w.res=0) (g:w.goes=false) (h:zbb s.la x.stn x.st w.p.len w.p.hei (-1)):Zv s w x 5 x
 | addWhole (k:Nat) (e:w.res=1) (g:w.goes=false) (a:w.p.all=true) (h:RIx x.ron s.ca.n (zaR s.ca x.ron x.ro w.p.cl w.p.pe) (k:Int)):Zv s w x 0 (x.addRoom ⟨w.who,(k:Int),s.ca.B k,true⟩)
 | whole (e:w.res=1) (g:w.goes=false) (a:w.p.all=true) (h:RIx x.ron s.ca.n (zaR s.ca x.ron x.ro w.p.cl w.p.pe) (-1)):Zv s w x 6 x
 | addBerth (k:Nat) (e:w.res=1) (g:w.goes=false) (a:w.p.all=false) (h:RIx x.ron s.ca.n (zbr s.ca x.ron x.ro w.p.cl w.p.be) (k:Int)):Zv s w x 0 (x.addRoom ⟨w.who,(k:Int),w.p.be,false⟩)
 | berth (e:w.res=1) (g:w.goes=false) (a:w.p.all=false) (h:RIx x.ron s.ca.n (zbr s.ca x.ron x.ro w.p.cl w.p.be) (-1)):Zv s w x 6 x
 | addSeat (e:w.res=2) (g:w.goes=false) (hn:x.sen≠60) (hs:ZD x.se x.sen+w.p.pe<=s.most):Zv s w x 0 (x.addSeat ⟨w.who,w.p.pe⟩)
 | seats (e:w.res=2) (g:w.goes=false) (h:x.sen=60∨s.most<ZD x.se x.sen+w.p.pe):Zv s w x 7 x
theorem rIx_at {n m k:Nat}{P:Nat->Prop}(h:RIx n m P (k:Int)):n≠60/\zag m P k:=by
 rcases h with⟨j,e,a,b⟩|⟨e,_⟩
 ·obtain rfl:k=j:=by omega
  exact⟨a,b⟩
 ·omega
theorem zgO {p:zP}{n k:Nat}{S:Nat->qW}{len hei:Int}(h:zbb p n S len hei (k:Int)):n≠60/\Qk p (Zy p S n) len hei k:=by
 rcases h with⟨j,e,a,b⟩|⟨e,_⟩
 ·obtain rfl:k=j:=by omega
  exact⟨a,b⟩
 ·omega
theorem zgb {n m:Nat}{P:Nat->Prop}{r g:Int}(h:RIx n m P r)(i:RIx n m P g):r=g:=by
 rcases h with⟨j,e,a,b⟩|⟨e,a⟩ <;> rcases i with⟨k,f,d,b'⟩|⟨f,d⟩
 ·rw[e,f,zfT b b']
 ·rcases d with c|c
  ·exact absurd c a
  ·exact absurd b (c j)
 ·rcases a with c|c
  ·exact absurd c d
  ·exact absurd b' (c k)
 ·rw[e,f]
theorem zel (n m:Nat)(P:Nat->Prop):∃ r,RIx n m P r:=by
 by_cases h:n≠60/\∃ k,zag m P k
 ·obtain⟨a,k,b⟩:=h
  exact⟨k,.inl ⟨k,rfl,a,b⟩⟩
 ·refine⟨-1,.inr ⟨rfl,?_⟩⟩
  by_cases c:n=60
  ·exact .inl c
  ·exact .inr (fun k d=>h ⟨c,k,d⟩)
theorem zgc {p:zP}{n:Nat}{S:Nat->qW}{len hei r g:Int}(h:zbb p n S len hei r)(i:zbb p n S len hei g):r=g:=by
 rcases h with⟨j,e,a,b⟩|⟨e,a⟩ <;> rcases i with⟨k,f,d,b'⟩|⟨f,d⟩
 ·rw[e,f,zea b b']
 ·rcases d with c|c
  ·exact absurd c a
  ·exact absurd b (c j)
 ·rcases a with c|c
  ·exact absurd c d
  ·exact absurd b' (c k)
 ·rw[e,f]
theorem zfn (p:zP)(n:Nat)(S:Nat->qW)(len hei:Int):∃ r,zbb p n S len hei r:=by
 by_cases h:n≠60/\∃ k,Qk p (Zy p S n) len hei k
 ·obtain⟨a,k,b⟩:=h
  exact⟨k,.inl ⟨k,rfl,a,b⟩⟩
 ·refine⟨-1,.inr ⟨rfl,?_⟩⟩
  by_cases c:n=60
  ·exact .inl c
  ·exact .inr (fun k d=>h ⟨c,k,d⟩)
def ComesOk (w:Wk)(x:qm):Prop:=w.goes=false->In w.who 1 9999/\qw w.p/\zai w.p.len w.p.cl w.res=true/\¬ zei x w.res w.who
theorem Zv.on {s:Sail}{w:Wk}{x y:qm}{code:Int}(h:Zv s w x code y)(hl:zV s x)(m:ComesOk w x):(code=0/\QN s w x y)∨(In code 5 7/\y=x):=by
 cases h with
 | noStay r e g h q=>exact .inl ⟨rfl,.noStay r e g h q⟩
 | noRoom r e g h q=>exact .inl ⟨rfl,.noRoom r e g h q⟩
 | noSeat r e g h q=>exact .inl ⟨rfl,.noSeat r e g h q⟩
 | deck e g h=>exact .inr ⟨by unfold In;omega,rfl⟩
 | whole e g a h=>exact .inr ⟨by unfold In;omega,rfl⟩
 | berth e g a h=>exact .inr ⟨by unfold In;omega,rfl⟩
 | seats e g h=>exact .inr ⟨by unfold In;omega,rfl⟩
 | addStay k e g h =>
  obtain⟨f,i,d,b⟩:=m g;have n:=zgO h;rw[e] at d b;have o:0<w.p.len:=by simpa [zai] using d
  have l:zav w.p.len w.p.hei:=by rcases i.2.1 with c|c;omega;exact c
  exact .inl ⟨rfl,.addStay k e g ⟨(Zd _ _ _).1 hl.1,n.1,b,f,l.1,l.2,n.2⟩⟩
 | addWhole k e g a h =>
  obtain⟨f,i,d,b⟩:=m g;obtain⟨p,j⟩:=rIx_at h;rw[e] at d b;refine .inl ⟨rfl,.addRoom _ e g rfl f b ⟨?_,fun _=>⟨j.2.1.2.1,rfl⟩,fun h=>(by cases h)⟩⟩
  have:=j.1;unfold In
  show(0:Int)<=(k:Int)/\(k:Int)<=(s.ca.n:Int) - 1
  omega
 | addBerth k e g a h =>
  obtain⟨f,i,d,b⟩:=m g;obtain⟨p,j⟩:=rIx_at h;rw[e] at d b;have o:0<w.p.cl:=by simpa [zai] using d
  have l:zdU w.p.cl w.p.all w.p.be:=by rcases i.2.2 with c|c;omega;exact c
  refine .inl ⟨rfl,.addRoom _ e g rfl f b ⟨?_,fun h=>(by cases h),fun _=>?_⟩⟩
  ·have:=j.1
   unfold In
   show(0:Int)<=(k:Int)/\(k:Int)<=(s.ca.n:Int) - 1
   omega
  ·rcases l.2 with⟨c,_⟩|⟨_,c⟩
   ·rw[a] at c;cases c
   ·exact⟨c.1,j.2.1.2⟩
 | addSeat e g hn hs =>
  obtain⟨f,i,d,b⟩:=m g;rw[e] at d b;exact .inl ⟨rfl,.addSeat _ e g rfl hn f i.1 b hs⟩
def zbc (b:qi)(y:OpD):Prop:=¬ zaZ b∨(y.kind=4/\b.state≠1)∨(y.kind=8/\(b.state≠1∨y.now<=b.unt))
def zbR (R m:Nat)(x:Off)(y:OpD)(code:Int):Prop:=(R<=m->code=3)/\(m<R->zbc (x.bk m) y->code=4)/\(m<R->¬ zbc (x.bk m) y->code=0)
theorem QD (i g f r:Option Addr)(N M R n l j s m:Nat)(x:Off)(y:OpD)(w:World)(hR:R<=1048576)(d6:m<=1048576)(b0:y.name=(m:Int)+1)(Y:qK w f R x.bk) :
  Calls Tryz.prog 123 #[.agg #[.slice i N n,.slice g M l,.slice f R j],.agg #[int i64 y.kind,.string y.own,int i64 y.name,.slice r y.lgn s,int i64 y.pe,int i64 y.len,int i64 y.hei,int i64 y.cl,.bool y.all,int i64 y.be,int i64 y.unt,int i64 y.now]] w fun e w'=>(∃ code:Int,e=.returned (int i64 code)/\zbR R m x y code)/\Below w.heap.size w w':=by
 have a3:=hI Y;clear Y;rw[b0];have a:Below w.heap.size w ((w.alloc (.cells #[.slice i N n,.slice g M l,.slice f R j] 27)).alloc (.cells #[int i64 y.kind,.string y.own,int i64 ((m:Int)+1),.slice r y.lgn s,int i64 y.pe,int i64 y.len,int i64 y.hei,int i64 y.cl,.bool y.all,int i64 y.be,int i64 y.unt,int i64 y.now] 120)):=zl (zl bZ _) _;have T:((w.alloc (.cells #[.slice i N n,.slice g M l,.slice f R j] 27)).alloc (.cells #[int i64 y.kind,.string y.own,int i64 ((m:Int)+1),.slice r y.lgn s,int i64 y.pe,int i64 y.len,int i64 y.hei,int i64 y.cl,.bool y.all,int i64 y.be,int i64 y.unt,int i64 y.now] 120)).heap[w.heap.size]?=some (.cells #[.slice i N n,.slice g M l,.slice f R j] 27 (0,0)):=zc (heap_alloc_new w _) _;have J:((w.alloc (.cells #[.slice i N n,.slice g M l,.slice f R j] 27)).alloc (.cells #[int i64 y.kind,.string y.own,int i64 ((m:Int)+1),.slice r y.lgn s,int i64 y.pe,int i64 y.len,int i64 y.hei,int i64 y.cl,.bool y.all,int i64 y.be,int i64 y.unt,int i64 y.now] 120)).heap[w.heap.size+1]?=some (.cells #[int i64 y.kind,.string y.own,int i64 ((m:Int)+1),.slice r y.lgn s,int i64 y.pe,int i64 y.len,int i64 y.hei,int i64 y.cl,.bool y.all,int i64 y.be,int i64 y.unt,int i64 y.now] 120 (0,0)):=by simpa using heap_alloc_new (w.alloc (.cells #[.slice i N n,.slice g M l,.slice f R j] 27)) _
 by_cases hlt:m<R
 case neg =>
  have HC:zbR R m x y 3:=⟨fun _=>rfl,fun h=>absurd h hlt,fun h=>absurd h hlt⟩
  have d0:decide ((R:Int)<(m:Int)+1)=true:=decide_eq_true (by omega)
  have d1:(R:Int)<(m:Int)+1:=by omega
  go_enter Tryz.func123,Tryz.ntmps123;go_upto_region 1 with fail;generalize (w.alloc (.cells #[.slice i N n,.slice g M l,.slice f R j] 27)).alloc (.cells #[int i64 y.kind,.string y.own,int i64 ((m:Int)+1),.slice r y.lgn s,int i64 y.pe,int i64 y.len,int i64 y.hei,int i64 y.cl,.bool y.all,int i64 y.be,int i64 y.unt,int i64 y.now] 120)=V at a T J ⊢;have f2:=za T 2 _ rfl;have o2:=za J 2 _ rfl;go_wp2;go_ret;exact⟨⟨3,rfl,HC⟩,a⟩
 obtain⟨Cc,a0,Z⟩:=a3.out;obtain⟨d,off,B,o⟩:=a0 m hlt;have P:=hI B;clear B;obtain⟨u,t,F,g1,s1⟩:=Z m hlt;obtain⟨b,G⟩:∃ b,b=x.bk m:=⟨_,rfl⟩;rw[← G] at F;have a2:=hI G.symm;rw[F] at o;have c:=World.block_lt_of_cell? w _ (o 0 (by decide))
 have d0:decide ((R:Int)<(m:Int)+1)=false:=decide_eq_false (by omega)
 have i0:(0:Int)<=(m:Int):=by omega
 have i1:(m:Int)<(R:Int):=by omega
 have b7:IntKind.i64.wrap ((m:Int)+1 - 1)=(m:Int):=by rw[IntKind.wrap_i64];omega
 have A:Hid (∀ q:Bool,(q=true↔zbc b y)->zbR R m x y (if q=true then (4:Int) else 0)):=fun q hq=>by
  unfold zbR;rw[a2.out];exact⟨fun h=>absurd hlt (by omega),fun _ h=>if_pos (hq.2 h),fun _ h=>if_neg (fun e=>h (hq.1 e))⟩
 go_enter Tryz.func123,Tryz.ntmps123;go_upto_region 1 with fail;generalize (w.alloc (.cells #[.slice i N n,.slice g M l,.slice f R j] 27)).alloc (.cells #[int i64 y.kind,.string y.own,int i64 ((m:Int)+1),.slice r y.lgn s,int i64 y.pe,int i64 y.len,int i64 y.hei,int i64 y.cl,.bool y.all,int i64 y.be,int i64 y.unt,int i64 y.now] 120)=V at a T J ⊢;have f2:=za T 2 _ rfl;rw[P.out] at f2;have o2:=za J 2 _ rfl;have c0:V.cell? ⟨d,off+m*13,none⟩=some (int i64 b.name):=(a.cell (p:=⟨d,off+m*13,none⟩) c).trans (o 0 (by decide))
 have c1:V.cell? ⟨d,off+m*13+1,none⟩=some (int i64 b.who):=(a.cell (p:=⟨d,off+m*13+1,none⟩) c).trans (o 1 (by decide))
 have c2:V.cell? ⟨d,off+m*13+2,none⟩=some (.string b.own):=(a.cell (p:=⟨d,off+m*13+2,none⟩) c).trans (o 2 (by decide))
 have c3:V.cell? ⟨d,off+m*13+3,none⟩=some (.slice u b.lgn t):=(a.cell (p:=⟨d,off+m*13+3,none⟩) c).trans (o 3 (by decide))
 have c4:V.cell? ⟨d,off+m*13+4,none⟩=some (int i64 b.pe):=(a.cell (p:=⟨d,off+m*13+4,none⟩) c).trans (o 4 (by decide))
 have c5:V.cell? ⟨d,off+m*13+5,none⟩=some (int i64 b.len):=(a.cell (p:=⟨d,off+m*13+5,none⟩) c).trans (o 5 (by decide))
 have c6:V.cell? ⟨d,off+m*13+6,none⟩=some (int i64 b.hei):=(a.cell (p:=⟨d,off+m*13+6,none⟩) c).trans (o 6 (by decide))
 have c7:V.cell? ⟨d,off+m*13+7,none⟩=some (int i64 b.cl):=(a.cell (p:=⟨d,off+m*13+7,none⟩) c).trans (o 7 (by decide))
 have c8:V.cell? ⟨d,off+m*13+8,none⟩=some (.bool b.all):=(a.cell (p:=⟨d,off+m*13+8,none⟩) c).trans (o 8 (by decide))
 have c9:V.cell? ⟨d,off+m*13+9,none⟩=some (int i64 b.be):=(a.cell (p:=⟨d,off+m*13+9,none⟩) c).trans (o 9 (by decide))
 have a5:V.cell? ⟨d,off+m*13+10,none⟩=some (int i64 b.state):=(a.cell (p:=⟨d,off+m*13+10,none⟩) c).trans (o 10 (by decide))
 have a6:V.cell? ⟨d,off+m*13+11,none⟩=some (int i64 b.unt):=(a.cell (p:=⟨d,off+m*13+11,none⟩) c).trans (o 11 (by decide))
 have a7:V.cell? ⟨d,off+m*13+12,none⟩=some (int i64 b.price):=(a.cell (p:=⟨d,off+m*13+12,none⟩) c).trans (o 12 (by decide))
 have U:=heap_alloc_new V (.cells #[int i64 b.name,int i64 b.who,.string b.own,.slice u b.lgn t,int i64 b.pe,int i64 b.len,int i64 b.hei,int i64 b.cl,.bool b.all,int i64 b.be,int i64 b.state,int i64 b.unt,int i64 b.price] 43);have pX:Below V.heap.size V (V.alloc (.cells #[int i64 b.name,int i64 b.who,.string b.own,.slice u b.lgn t,int i64 b.pe,int i64 b.len,int i64 b.hei,int i64 b.cl,.bool b.all,int i64 b.be,int i64 b.state,int i64 b.unt,int i64 b.price] 43)):=zl bZ _;have C:=zc J (.cells #[int i64 b.name,int i64 b.who,.string b.own,.slice u b.lgn t,int i64 b.pe,int i64 b.len,int i64 b.hei,int i64 b.cl,.bool b.all,int i64 b.be,int i64 b.state,int i64 b.unt,int i64 b.price] 43);clear o F g1 s1 a0 Z G;go_upto_region 4 with fail;have E:=zf a pX;generalize V.heap.size=xb at U ⊢;generalize V.alloc (.cells #[int i64 b.name,int i64 b.who,.string b.own,.slice u b.lgn t,int i64 b.pe,int i64 b.len,int i64 b.hei,int i64 b.cl,.bool b.all,int i64 b.be,int i64 b.state,int i64 b.unt,int i64 b.price] 43)=W at U pX C E ⊢;clear c0 c1 c2 c3 c4 c5 c6 c7 c8 c9 a5 a6 a7 f2 o2 T J a pX i0 i1 b7 d0;obtain⟨y0,y1,y2,y3,y4,y5,y6,y7,y8,y9,b8,b9,d5⟩:=ce13 U;obtain⟨v,H⟩:∃ v:Bool,v=(b.state == 1):=⟨_,rfl⟩;have b5:(b.state == 1)=v:=H.symm;have S:Hid (v=true↔b.state=1):=by rw[H];exact beq_iff_eq
 clear H;obtain⟨lv,I⟩:∃ lv:Bool,lv=decide (zaZ b):=⟨_,rfl⟩;have Q:Hid (lv=true↔zaZ b):=by rw[I];exact decide_eq_true_iff
 have cl:=zbQ b u t W;rw[← I] at cl;clear I;go_wp2_with fail;refine cl.mono ?_;clear cl;rintro e w4 ⟨rfl,z⟩;have X:=zb U z;have D:=zb C z;have a1:=hI (zf E z);clear y0 y1 y2 y3 y4 y5 y6 y7 y8 y9 b8 b9 d5 U C E z b5;have d8:=za X 11 _ rfl;have o0:=za D 0 _ rfl;have d7:=za D 11 _ rfl;obtain⟨K,a8⟩:∃ k:Bool,(y.kind == 4)=k:=⟨_,rfl⟩;obtain⟨L,a9⟩:∃ k:Bool,(y.kind == 8)=k:=⟨_,rfl⟩;obtain⟨O,b6⟩:∃ k:Bool,decide (y.now<=b.unt)=k:=⟨_,rfl⟩;have HQ:Hid ((!lv || (K && !v) || (L && (!v || O)))=true↔zbc b y):=by
  show(!lv || (K && !v) || (L && (!v || O)))=true↔zbc b y
  have e4:K=true↔y.kind=4:=by rw[← a8];exact beq_iff_eq
  have e8:L=true↔y.kind=8:=by rw[← a9];exact beq_iff_eq
  have eu:O=true↔y.now<=b.unt:=by rw[← b6];exact decide_eq_true_iff
  have el:=Q.out;have es:=S.out;unfold zbc;rw[← el,← e4,← e8,← eu,Ne,← es]
  cases lv <;> cases K <;> cases L <;> cases v <;> cases O <;> simp
 clear X D Q S;have HX:Hid (zbR R m x y (if (!lv || (K && !v) || (L && (!v || O)))=true then (4:Int) else 0)):=A.out _ HQ.out
 clear HQ A
 cases lv <;> cases K <;> cases L <;> cases v <;> cases O
 all_goals
  go_wp2;go_ret;exact⟨⟨_,rfl,HX.out⟩,a1.out⟩
section
open Go.RowKit
theorem Qa (L:Nat->qm)(k:Nat)(x:qm):zcs L k x k=x:=if_pos rfl
theorem Qb (L:Nat->qm)(k:Nat)(x:qm){j:Nat}(h:j≠k):zcs L k x j=L j:=if_neg h
theorem setL_same (L:Nat->qm)(k:Nat):zcs L k (L k)=L:=by
 funext j
 unfold zcs
 by_cases c:j=k
 ·subst c;rw[if_pos rfl]
 ·rw[if_neg c]
theorem FarV.put {A:Nat->Value}{N k lim:Nat}{a:Value}(h:FarV N A)(f:∀ i,i<N->∀ b,(A i).ownBlock=some b->b<lim)(g:∀ b,a.ownBlock=some b->lim<=b):FarV N (atV A k a):=fun i j l m e b d c=>by
 by_cases ei:i=k
 ·subst ei
  rw[atV_at] at d;rw[atV_ne _ _ _ _ (fun h=>e h.symm)] at c
  have:=f j m b c;have:=g b d
  omega
 ·rw[atV_ne _ _ _ _ ei] at d
  by_cases ej:j=k
  ·subst ej
   rw[atV_at] at c;have:=f i l b d;have:=g b c
   omega
  ·rw[atV_ne _ _ _ _ ej] at c
   exact h i j l m e b d c
section
variable {w w' : World} {base g c k N n lim : Nat} {S : Nat -> qm} {A B C : Nat -> Value} {u : Value}
theorem zgQ (h:w.ownsRow base 55 3 (.slice (some ⟨g,0,none⟩) N c) N (zaW A B C N)):(w.setCell ⟨g,k*3+0,none⟩ u).ownsRow base 55 3 (.slice (some ⟨g,0,none⟩) N c) N (zaW (atV A k u) B C N):=by
 refine own_congr (own_store h (k*3+0) u) (fun j hj=>?_)
 by_cases h2:j=k*3+0
 ·subst h2
  rw[if_pos rfl,zz 3 _ k 0 (by decide)]
  unfold ldC;rw[atV_at]
  rfl
 ·rw[if_neg h2]
  unfold recCell ldC
  by_cases e:j / 3=k
  ·have a:j % 3=1∨j % 3=2:=by omega
   rcases a with a|a <;> rw[a] <;> rfl
  ·rw[atV_ne _ _ _ _ e]
theorem zgR (h:w.ownsRow base 55 3 (.slice (some ⟨g,0,none⟩) N c) N (zaW A B C N)):(w.setCell ⟨g,k*3+1,none⟩ u).ownsRow base 55 3 (.slice (some ⟨g,0,none⟩) N c) N (zaW A (atV B k u) C N):=by
 refine own_congr (own_store h (k*3+1) u) (fun j hj=>?_)
 by_cases h2:j=k*3+1
 ·subst h2
  rw[if_pos rfl,zz 3 _ k 1 (by decide)]
  unfold ldC;rw[atV_at]
  rfl
 ·rw[if_neg h2]
  unfold recCell ldC
  by_cases e:j / 3=k
  ·have a:j % 3=0∨j % 3=2:=by omega
   rcases a with a|a <;> rw[a] <;> rfl
  ·rw[atV_ne _ _ _ _ e]
theorem zdN (h:w.ownsRow base 55 3 (.slice (some ⟨g,0,none⟩) N c) N (zaW A B C N)):(w.setCell ⟨g,k*3+2,none⟩ u).ownsRow base 55 3 (.slice (some ⟨g,0,none⟩) N c) N (zaW A B (atV C k u) N):=by
 refine own_congr (own_store h (k*3+2) u) (fun j hj=>?_)
 by_cases h2:j=k*3+2
 ·subst h2
  rw[if_pos rfl,zz 3 _ k 2 (by decide)]
  unfold ldC;rw[atV_at]
  rfl
 ·rw[if_neg h2]
  unfold recCell ldC
  by_cases e:j / 3=k
  ·have a:j % 3=0∨j % 3=1:=by omega
   rcases a with a|a <;> rw[a] <;> rfl
  ·rw[atV_ne _ _ _ _ e]
theorem qz.putSt {T:Nat->qW}(h:qz w base (.slice (some ⟨g,0,none⟩) N c) N S A B C)(f:∀ i,i<N->∀ b,(A i).ownBlock=some b->b<lim)(hl:w.ownsRow lim 84 4 u n (zN T n))(j:base<=lim) :
  qz (w.setCell ⟨g,k*3+0,none⟩ u) base (.slice (some ⟨g,0,none⟩) N c) N (zcs S k { S k with stn:=n,st:=T }) (atV A k u) B C:=by
 have s:zA w (w.setCell ⟨g,k*3+0,none⟩ u) (fun x=>x=g):=(zA.refl w (fun x=>x=g)).set (a:=⟨g,k*3+0,none⟩) rfl _
 have far:∀ {t p n:Nat} {v:Value} {r:List Value},w.ownsRow base t p v n r->55≠t->(w.setCell ⟨g,k*3+0,none⟩ u).ownsRow base t p v n r:=fun o y=>s.own o (fun q l m=>own_apart h.row o y q (by rw[m];rfl) l)
 refine⟨zgQ h.row,fun i d=>?_,fun i d=>?_,fun i d=>?_,h.far.1.put f (fun b e=>(hl.lt b e).1),h.far.2.1,h.far.2.2⟩
 ·by_cases e:i=k
  ·subst e;rw[atV_at,Qa];exact far (zC hl j) (by decide)
  ·rw[atV_ne _ _ _ _ e,Qb _ _ _ e];exact far (h.st i d) (by decide)
 ·by_cases e:i=k
  ·subst e;rw[Qa];exact far (h.ro i d) (by decide)
  ·rw[Qb _ _ _ e];exact far (h.ro i d) (by decide)
 ·by_cases e:i=k
  ·subst e;rw[Qa];exact far (h.se i d) (by decide)
  ·rw[Qb _ _ _ e];exact far (h.se i d) (by decide)
theorem qz.putRo {T:Nat->qH}(h:qz w base (.slice (some ⟨g,0,none⟩) N c) N S A B C)(f:∀ i,i<N->∀ b,(B i).ownBlock=some b->b<lim)(hl:w.ownsRow lim 93 4 u n (zK T n))(j:base<=lim) :
  qz (w.setCell ⟨g,k*3+1,none⟩ u) base (.slice (some ⟨g,0,none⟩) N c) N (zcs S k { S k with ron:=n,ro:=T }) A (atV B k u) C:=by
 have s:zA w (w.setCell ⟨g,k*3+1,none⟩ u) (fun x=>x=g):=(zA.refl w (fun x=>x=g)).set (a:=⟨g,k*3+1,none⟩) rfl _
 have far:∀ {t p n:Nat} {v:Value} {r:List Value},w.ownsRow base t p v n r->55≠t->(w.setCell ⟨g,k*3+1,none⟩ u).ownsRow base t p v n r:=fun o y=>s.own o (fun q l m=>own_apart h.row o y q (by rw[m];rfl) l)
 refine⟨zgR h.row,fun i d=>?_,fun i d=>?_,fun i d=>?_,h.far.1,h.far.2.1.put f (fun b e=>(hl.lt b e).1),h.far.2.2⟩
 ·by_cases e:i=k
  ·subst e;rw[Qa];exact far (h.st i d) (by decide)
  ·rw[Qb _ _ _ e];exact far (h.st i d) (by decide)
 ·by_cases e:i=k
  ·subst e;rw[atV_at,Qa];exact far (zC hl j) (by decide)
  ·rw[atV_ne _ _ _ _ e,Qb _ _ _ e];exact far (h.ro i d) (by decide)
 ·by_cases e:i=k
  ·subst e;rw[Qa];exact far (h.se i d) (by decide)
  ·rw[Qb _ _ _ e];exact far (h.se i d) (by decide)
theorem qz.putSe {T:Nat->Qo}(h:qz w base (.slice (some ⟨g,0,none⟩) N c) N S A B C)(f:∀ i,i<N->∀ b,(C i).ownBlock=some b->b<lim)(hl:w.ownsRow lim 99 2 u n (zJ T n))(j:base<=lim) :
  qz (w.setCell ⟨g,k*3+2,none⟩ u) base (.slice (some ⟨g,0,none⟩) N c) N (zcs S k { S k with sen:=n,se:=T }) A B (atV C k u):=by
 have s:zA w (w.setCell ⟨g,k*3+2,none⟩ u) (fun x=>x=g):=(zA.refl w (fun x=>x=g)).set (a:=⟨g,k*3+2,none⟩) rfl _
 have far:∀ {t p n:Nat} {v:Value} {r:List Value},w.ownsRow base t p v n r->55≠t->(w.setCell ⟨g,k*3+2,none⟩ u).ownsRow base t p v n r:=fun o y=>s.own o (fun q l m=>own_apart h.row o y q (by rw[m];rfl) l)
 refine⟨zdN h.row,fun i d=>?_,fun i d=>?_,fun i d=>?_,h.far.1,h.far.2.1,h.far.2.2.put f (fun b e=>(hl.lt b e).1)⟩
 ·by_cases e:i=k
  ·subst e;rw[Qa];exact far (h.st i d) (by decide)
  ·rw[Qb _ _ _ e];exact far (h.st i d) (by decide)
 ·by_cases e:i=k
  ·subst e;rw[Qa];exact far (h.ro i d) (by decide)
  ·rw[Qb _ _ _ e];exact far (h.ro i d) (by decide)
 ·by_cases e:i=k
  ·subst e;rw[atV_at,Qa];exact far (zC hl j) (by decide)
  ·rw[atV_ne _ _ _ _ e,Qb _ _ _ e];exact far (h.se i d) (by decide)
end
section
variable {w w' : World} {base g c k lim n n1 n2 n3 : Nat} {v1 v3 u : Value} {x : Off} {L C A B D E : Nat -> Value}
theorem zy.putSt {T:Nat->qW}(h:zy w base v1 (.slice (some ⟨g,0,none⟩) n2 c) v3 n1 n2 n3 x L C A B D E)(d:∀ i,i<n2->∀ b,(A i).ownBlock=some b->b<lim)(hl:w.ownsRow lim 84 4 u n (zN T n))(j:base<=lim) :
  zy (w.setCell ⟨g,k*3+0,none⟩ u) base v1 (.slice (some ⟨g,0,none⟩) n2 c) v3 n1 n2 n3 { x with ld:=zcs x.ld k { x.ld k with stn:=n,st:=T } } L C (atV A k u) B D E:=by
 have l:zA w (w.setCell ⟨g,k*3+0,none⟩ u) (fun x=>x=g):=(zA.refl w (fun x=>x=g)).set (a:=⟨g,k*3+0,none⟩) rfl _
 exact⟨h.sa.other l (fun q e=>by obtain⟨cs,f⟩:=zG h.ld.row q (by rw[show q=g from e];rfl);exact⟨cs,_,f,by decide,by decide,by decide⟩),h.ld.putSt d hl j,h.bk.other l (fun q e=>by obtain⟨cs,f⟩:=zG h.ld.row q (by rw[show q=g from e];rfl);exact⟨cs,_,f,by decide,by decide⟩)⟩
theorem zy.putRo {T:Nat->qH}(h:zy w base v1 (.slice (some ⟨g,0,none⟩) n2 c) v3 n1 n2 n3 x L C A B D E)(d:∀ i,i<n2->∀ b,(B i).ownBlock=some b->b<lim)(hl:w.ownsRow lim 93 4 u n (zK T n))(j:base<=lim) :
  zy (w.setCell ⟨g,k*3+1,none⟩ u) base v1 (.slice (some ⟨g,0,none⟩) n2 c) v3 n1 n2 n3 { x with ld:=zcs x.ld k { x.ld k with ron:=n,ro:=T } } L C A (atV B k u) D E:=by
 have l:zA w (w.setCell ⟨g,k*3+1,none⟩ u) (fun x=>x=g):=(zA.refl w (fun x=>x=g)).set (a:=⟨g,k*3+1,none⟩) rfl _
 exact⟨h.sa.other l (fun q e=>by obtain⟨cs,f⟩:=zG h.ld.row q (by rw[show q=g from e];rfl);exact⟨cs,_,f,by decide,by decide,by decide⟩),h.ld.putRo d hl j,h.bk.other l (fun q e=>by obtain⟨cs,f⟩:=zG h.ld.row q (by rw[show q=g from e];rfl);exact⟨cs,_,f,by decide,by decide⟩)⟩
theorem zy.putSe {T:Nat->Qo}(h:zy w base v1 (.slice (some ⟨g,0,none⟩) n2 c) v3 n1 n2 n3 x L C A B D E)(d:∀ i,i<n2->∀ b,(D i).ownBlock=some b->b<lim)(hl:w.ownsRow lim 99 2 u n (zJ T n))(j:base<=lim) :
  zy (w.setCell ⟨g,k*3+2,none⟩ u) base v1 (.slice (some ⟨g,0,none⟩) n2 c) v3 n1 n2 n3 { x with ld:=zcs x.ld k { x.ld k with sen:=n,se:=T } } L C A B (atV D k u) E:=by
 have l:zA w (w.setCell ⟨g,k*3+2,none⟩ u) (fun x=>x=g):=(zA.refl w (fun x=>x=g)).set (a:=⟨g,k*3+2,none⟩) rfl _
 exact⟨h.sa.other l (fun q e=>by obtain⟨cs,f⟩:=zG h.ld.row q (by rw[show q=g from e];rfl);exact⟨cs,_,f,by decide,by decide,by decide⟩),h.ld.putSe d hl j,h.bk.other l (fun q e=>by obtain⟨cs,f⟩:=zG h.ld.row q (by rw[show q=g from e];rfl);exact⟨cs,_,f,by decide,by decide⟩)⟩
end
end
section
open Go.RowKit
def zcl (g base N R k i c h:Nat)(f a d:Option Addr)(v:Wk)(x:Off)(L C E:Nat->Value)(w:World)(e:Ending)(w':World):Prop :=
 ∃ code y A B D,e=.returned (int i64 code)/\Zv (x.sa k) v (x.ld k) code y/\zy w' base (.slice f N i) (.slice a N c) (.slice d R h) N N R { x with ld:=zcs x.ld k y } L C A B D E /\
  w'.heap[g]?=some (.cells #[.slice f N i,.slice a N c,.slice d R h] 27 (0,0))/\zA w w' (fun b=>(Value.slice a N c).ownBlock=some b)
section
variable {w z : World} {g gl base N R k csa cld cbk n : Nat} {asa abk : Option Addr} {v : Wk} {x : Off} {L C A B D E : Nat -> Value} {u : Value}
theorem doSt {T:Nat->qW}(l:zy w base (.slice asa N csa) (.slice (some ⟨gl,0,none⟩) N cld) (.slice abk R cbk) N N R x L C A B D E)(o:w.heap[g]?=some (.cells #[.slice asa N csa,.slice (some ⟨gl,0,none⟩) N cld,.slice abk R cbk] 27 (0,0)))(h:base<=w.heap.size)(f:Below w.heap.size w z)(d:z.ownsRow w.heap.size 84 4 u n (zN T n))(q:Zv (x.sa k) v (x.ld k) 0 { x.ld k with stn:=n,st:=T }) :
  zcl g base N R k csa cld cbk asa (some ⟨gl,0,none⟩) abk v x L C E w (.returned (int i64 0)) (z.setCell ⟨gl,k*3,none⟩ u):=by
 obtain⟨cs,c⟩:=zG l.ld.row gl rfl;have j:g≠gl:=fun e=>by subst e;rw[o] at c;simp at c
 have m:zA z (z.setCell ⟨gl,k*3+0,none⟩ u) (fun b=>(Value.slice (some ⟨gl,0,none⟩) N cld).ownBlock=some b):=(zA.refl z (fun b=>(Value.slice (some ⟨gl,0,none⟩) N cld).ownBlock=some b)).set (a:=⟨gl,k*3+0,none⟩) (by rfl) u
 exact⟨0,_,_,_,_,rfl,q,(l.below f).putSt (k:=k) (lim:=w.heap.size) (fun i p b e=>((l.ld.st i p).lt b e).2) d h,m.blk (zb o f) (fun e=>j (by simpa [Value.ownBlock] using e.symm)),(zA.of_below f).trans m⟩
theorem doRo {T:Nat->qH}(l:zy w base (.slice asa N csa) (.slice (some ⟨gl,0,none⟩) N cld) (.slice abk R cbk) N N R x L C A B D E)(o:w.heap[g]?=some (.cells #[.slice asa N csa,.slice (some ⟨gl,0,none⟩) N cld,.slice abk R cbk] 27 (0,0)))(h:base<=w.heap.size)(f:Below w.heap.size w z)(d:z.ownsRow w.heap.size 93 4 u n (zK T n))(q:Zv (x.sa k) v (x.ld k) 0 { x.ld k with ron:=n,ro:=T }) :
  zcl g base N R k csa cld cbk asa (some ⟨gl,0,none⟩) abk v x L C E w (.returned (int i64 0)) (z.setCell ⟨gl,k*3+1,none⟩ u):=by
 obtain⟨cs,c⟩:=zG l.ld.row gl rfl;have j:g≠gl:=fun e=>by subst e;rw[o] at c;simp at c
 have m:zA z (z.setCell ⟨gl,k*3+1,none⟩ u) (fun b=>(Value.slice (some ⟨gl,0,none⟩) N cld).ownBlock=some b):=(zA.refl z (fun b=>(Value.slice (some ⟨gl,0,none⟩) N cld).ownBlock=some b)).set (a:=⟨gl,k*3+1,none⟩) (by rfl) u
 exact⟨0,_,_,_,_,rfl,q,(l.below f).putRo (k:=k) (lim:=w.heap.size) (fun i p b e=>((l.ld.ro i p).lt b e).2) d h,m.blk (zb o f) (fun e=>j (by simpa [Value.ownBlock] using e.symm)),(zA.of_below f).trans m⟩
theorem doSe {T:Nat->Qo}(l:zy w base (.slice asa N csa) (.slice (some ⟨gl,0,none⟩) N cld) (.slice abk R cbk) N N R x L C A B D E)(o:w.heap[g]?=some (.cells #[.slice asa N csa,.slice (some ⟨gl,0,none⟩) N cld,.slice abk R cbk] 27 (0,0)))(h:base<=w.heap.size)(f:Below w.heap.size w z)(d:z.ownsRow w.heap.size 99 2 u n (zJ T n))(q:Zv (x.sa k) v (x.ld k) 0 { x.ld k with sen:=n,se:=T }) :
  zcl g base N R k csa cld cbk asa (some ⟨gl,0,none⟩) abk v x L C E w (.returned (int i64 0)) (z.setCell ⟨gl,k*3+2,none⟩ u):=by
 obtain⟨cs,c⟩:=zG l.ld.row gl rfl;have j:g≠gl:=fun e=>by subst e;rw[o] at c;simp at c
 have m:zA z (z.setCell ⟨gl,k*3+2,none⟩ u) (fun b=>(Value.slice (some ⟨gl,0,none⟩) N cld).ownBlock=some b):=(zA.refl z (fun b=>(Value.slice (some ⟨gl,0,none⟩) N cld).ownBlock=some b)).set (a:=⟨gl,k*3+2,none⟩) (by rfl) u
 exact⟨0,_,_,_,_,rfl,q,(l.below f).putSe (k:=k) (lim:=w.heap.size) (fun i p b e=>((l.ld.se i p).lt b e).2) d h,m.blk (zb o f) (fun e=>j (by simpa [Value.ownBlock] using e.symm)),(zA.of_below f).trans m⟩
theorem doNo {a:Option Addr}{code:Int}(c:zy w base (.slice asa N csa) (.slice a N cld) (.slice abk R cbk) N N R x L C A B D E)(d:w.heap[g]?=some (.cells #[.slice asa N csa,.slice a N cld,.slice abk R cbk] 27 (0,0)))(b:Below w.heap.size w z)(e:Zv (x.sa k) v (x.ld k) code (x.ld k)) :
  zcl g base N R k csa cld cbk asa a abk v x L C E w (.returned (int i64 code)) z :=
 ⟨code,_,_,_,_,rfl,e,by rw[setL_same];exact c.below b,zb d b,zA.of_below b⟩
end
end
end Go.Proofs.YtgmdnkngnhkgbaaGreat
