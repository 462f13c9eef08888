/-
  OWN TEXT: SpecD2, PlaceS0, SpecCab, SpecR, SpecW0, PlainWi, PlainPi.
-/
import Derived.Deep.DeepCutAuto
import Derived.Deep.LoopGhost
import Derived.Test.YtmdnjgihooflfaaGreatDoorB13
namespace Go.Proofs.YtmdnjgihooflfaaGreatDoor
open Go.RowKit
open Go.Value (int)
open Go.IntKind (i64)
set_option maxHeartbeats 64000000
set_option maxRecDepth 100000
theorem zkv (O bo:Option Addr)(m mc n c:Nat)(p:zH)(S:Nat->Zp)(w:World)(D:p.n=m)(hm:m<=1048576)(hn:n<=1048576)(hc:n<=c)(hx:zG w O p)(hz:qw w bo n S) :
  Calls Tryz.prog 82 #[.slice O m mc,.slice bo n c] w fun e w'=>qX (DeckS p n S) e/\Below w.heap.size w w':=by
 have y:=hI D;have HX:=hI hx;have N:=hI hz;clear D hx hz;go_enter Tryz.func82,Tryz.ntmps82;go_wp2_with fail;refine(zlU O m mc p _ y.out hm HX.out).mono ?_;rintro e w1 ⟨⟨q,rfl,U⟩,u⟩
 cases q with
 | false =>
  have G:Hid (¬ zhB p):=fun h=>by have:=U.2 h;cases this
  clear U;go_wp2;go_ret;exact⟨zl (fun h=>G.out h.1),u⟩
 | true =>
  have G:Hid (zhB p):=U.1 rfl;have a4:m<=4:=by rw[← y.out];exact G.out.1
  clear U
  by_cases h60:n<=60
  ·have d0:decide (60<n)=false:=by simp;omega
   have a5:IntKind.i64.wrap ((m:Int) - 1)=(m:Int) - 1:=by rw[IntKind.wrap_i64];omega
   go_wp2;go_loopw [5,6,19] (fun _ _ i wr=>∃ k:Nat,k<=n/\i=int i64 k/\(∀ j,j<k->OkS p S j)/\Below w.heap.size w wr) (fun _ _ i _=>n - (intOf i).toNat)
   case atStart=>exact⟨0,Nat.zero_le _,rfl,fun j z=>by omega,u⟩
   case round =>
    obtain⟨i,T,rfl,r,a⟩:=hrel;have HA:=hI r;clear r u
    by_cases hlt:i<n
    ·obtain⟨b,off,rfl,Q,h1,h2,h3⟩:=N.out i hlt
     have R:=World.block_lt_of_cell? w _ Q;have c0:=(a.cell (p:=⟨b,off+i*4,none⟩) R).trans Q;have c1:=(a.cell (p:=⟨b,off+i*4+1,none⟩) R).trans h1;have c2:=(a.cell (p:=⟨b,off+i*4+2,none⟩) R).trans h2;have c3:=(a.cell (p:=⟨b,off+i*4+3,none⟩) R).trans h3;have d:=heap_alloc_new wr (.cells #[int i64 (S i).who,int i64 (S i).ln,int i64 (S i).len,int i64 (S i).hei] 220);have f:=zk a (.cells #[int i64 (S i).who,int i64 (S i).ln,int i64 (S i).len,int i64 (S i).hei] 220);clear Q h1 h2 h3;go_upto_region 6 with fail;generalize hW:wr.alloc (.cells #[int i64 (S i).who,int i64 (S i).ln,int i64 (S i).len,int i64 (S i).hei] 220)=W at d f ⊢;clear hW;have x:wr.heap.size<W.heap.size:=zM d;have z0:∀ g:zn W,g.val.cell? ⟨wr.heap.size,0,none⟩=some (int i64 (S i).who):=fun g=>(g.bel.cell x).trans (za d 0 _ rfl)
     have z1:∀ g:zn W,g.val.cell? ⟨wr.heap.size,1,none⟩=some (int i64 (S i).ln):=fun g=>(g.bel.cell x).trans (za d 1 _ rfl)
     have z2:∀ g:zn W,g.val.cell? ⟨wr.heap.size,2,none⟩=some (int i64 (S i).len):=fun g=>(g.bel.cell x).trans (za d 2 _ rfl)
     have z3:∀ g:zn W,g.val.cell? ⟨wr.heap.size,3,none⟩=some (int i64 (S i).hei):=fun g=>(g.bel.cell x).trans (za d 3 _ rfl)
     have i1:(0:Int)<=(i:Int):=by omega
     have i2:(i:Int)<=(c:Int):=by omega
     clear c0 c1 c2 c3 d a
     by_cases g1:In (S i).who 1 9999
     ·have t:decide (In (S i).who 1 9999)=true:=decide_eq_true g1
      have V:=hI g1;clear g1
      by_cases g2:In (S i).ln 0 ((m:Int) - 1)
      ·have X:Hid (In (S i).ln 0 ((p.n:Int) - 1)):=by rw[y.out];exact g2
       obtain⟨l,D⟩:∃ l:Nat,(S i).ln=l:=⟨(S i).ln.toNat,by unfold In at g2;omega⟩
       have a2:l<m:=by unfold In at g2;omega
       have H:=hI D;have E:decide (In (l:Int) 0 ((m:Int) - 1))=true:=decide_eq_true (by rw[← D];exact g2)
       have a6:∀ g:zn W,g.val.cell? ⟨wr.heap.size,1,none⟩=some (int i64 (l:Int)):=fun g=>by rw[z1 g,D]
       obtain⟨b',A,rfl,k1,k2⟩:=HX.out l (by rw[y.out];exact a2)
       have a1:=World.block_lt_of_cell? w _ k1;have y2:∀ g:zn W,g.val.cell? ⟨b',A+l*2+1,none⟩=some (int i64 (p.B l)):=fun g=>((ze f g.bel).cell (p:=⟨b',A+l*2+1,none⟩) a1).trans k2
       have l1:(0:Int)<=(l:Int):=by omega
       have l2:(l:Int)<(m:Int):=by omega
       clear g2 z1 D k1 k2
       by_cases g3:In (S i).len 1 2000
       ·have I:decide (In (S i).len 1 2000)=true:=decide_eq_true g3
        have Y:=hI g3;clear g3
        by_cases g4:In (S i).hei 1 (p.B l)
        ·have P:decide (In (S i).hei 1 (p.B l))=true:=decide_eq_true g4
         have Z:=hI g4;clear g4
         by_cases g5:Has (Qc S) i (S i).who
         ·have F:=hI g5
          clear g5;refine zh (by kernel_rfl) (by kernel_rfl) ?_
          repeat(first|go_big_quiet_skip|(go_big_quiet_want;go_big_quiet_op;first|go_big_quiet_on|(apply Exists.intro;refine⟨fun g=>?_,?_⟩;(focus(first|(go_at_call 89;refine zf (v:=.bool true) ((Qz _ _).mono ?_);rintro e o ⟨rfl,rfl⟩;exact⟨by rw[t],bZ⟩)|(go_at_call 148;first|(refine zf (v:=.bool true) ((zt _ _ _ _).mono ?_);rintro e o ⟨rfl,rfl⟩;exact⟨by rw[E],bZ⟩)|(refine zf (v:=.bool true) ((zt _ _ _ _).mono ?_);rintro e o ⟨rfl,rfl⟩;exact⟨by rw[I],bZ⟩)|(refine zf (v:=.bool true) ((zt _ _ _ _).mono ?_);rintro e o ⟨rfl,rfl⟩;exact⟨by rw[P],bZ⟩))|(go_at_call 149;refine zf (v:=.bool true) ((zku _ i c S (S i).who _ (by omega) ((N.out.upto (by omega)).below (ze f g.bel))).mono ?_);rintro e o ⟨⟨bb,rfl,T⟩,C⟩;obtain rfl:=T.2 F.out;exact⟨rfl,C⟩)));go_big_quiet_on)))
          refine wpQuiet_nil ?_;rintro _ ⟨g,rfl⟩;go_wp2;go_ret;exact⟨zl (fun h=>(h.2.2.1 i hlt).2.2.2.2 F.out),ze f g.bel⟩
         ·have F:=hI g5
          clear g5;refine zh (by kernel_rfl) (by kernel_rfl) ?_
          repeat(first|go_big_quiet_skip|(go_big_quiet_want;go_big_quiet_op;first|go_big_quiet_on|(apply Exists.intro;refine⟨fun g=>?_,?_⟩;(focus(first|(go_at_call 89;refine zf (v:=.bool true) ((Qz _ _).mono ?_);rintro e o ⟨rfl,rfl⟩;exact⟨by rw[t],bZ⟩)|(go_at_call 148;first|(refine zf (v:=.bool true) ((zt _ _ _ _).mono ?_);rintro e o ⟨rfl,rfl⟩;exact⟨by rw[E],bZ⟩)|(refine zf (v:=.bool true) ((zt _ _ _ _).mono ?_);rintro e o ⟨rfl,rfl⟩;exact⟨by rw[I],bZ⟩)|(refine zf (v:=.bool true) ((zt _ _ _ _).mono ?_);rintro e o ⟨rfl,rfl⟩;exact⟨by rw[P],bZ⟩))|(go_at_call 149;refine zf (v:=.bool false) ((zku _ i c S (S i).who _ (by omega) ((N.out.upto (by omega)).below (ze f g.bel))).mono ?_);rintro e o ⟨⟨bb,rfl,T⟩,C⟩;obtain rfl:=Bool.eq_false_iff.2 (fun e=>F.out (T.1 e));exact⟨rfl,C⟩)));go_big_quiet_on)))
          refine wpQuiet_nil ?_;rintro _ ⟨g,rfl⟩;go_wp2;have a0:Hid (∀ j,j<i+1->OkS p S j):=fun j z=>by
           by_cases e:j=i
           ·subst e;exact⟨V.out,X.out,Y.out,by rw[H.out];exact Z.out,F.out⟩
           ·exact HA.out j (by omega)
          go_roundw
          case rel=>exact⟨i+1,by omega,by go_num,a0.out,ze f g.bel⟩
          case measure=>simp[intOf];omega
        ·have P:decide (In (S i).hei 1 (p.B l))=false:=decide_eq_false g4
         have Z:=hI g4;clear g4;refine zh (by kernel_rfl) (by kernel_rfl) ?_
         repeat(first|go_big_quiet_skip|(go_big_quiet_want;go_big_quiet_op;first|go_big_quiet_on|(apply Exists.intro;refine⟨fun g=>?_,?_⟩;(focus(first|(go_at_call 89;refine zf (v:=.bool true) ((Qz _ _).mono ?_);rintro e o ⟨rfl,rfl⟩;exact⟨by rw[t],bZ⟩)|(go_at_call 148;first|(refine zf (v:=.bool true) ((zt _ _ _ _).mono ?_);rintro e o ⟨rfl,rfl⟩;exact⟨by rw[E],bZ⟩)|(refine zf (v:=.bool true) ((zt _ _ _ _).mono ?_);rintro e o ⟨rfl,rfl⟩;exact⟨by rw[I],bZ⟩)|(refine zf (v:=.bool false) ((zt _ _ _ _).mono ?_);rintro e o ⟨rfl,rfl⟩;exact⟨by rw[P],bZ⟩))));go_big_quiet_on)))
         refine wpQuiet_nil ?_;rintro _ ⟨g,rfl⟩;go_wp2;go_ret;exact⟨zl (fun h=>Z.out (by have:=(h.2.2.1 i hlt).2.2.2.1;rw[H.out] at this;exact this)),ze f g.bel⟩
       ·have I:decide (In (S i).len 1 2000)=false:=decide_eq_false g3
        have Y:=hI g3;clear g3;refine zh (by kernel_rfl) (by kernel_rfl) ?_
        repeat(first|go_big_quiet_skip|(go_big_quiet_want;go_big_quiet_op;first|go_big_quiet_on|(apply Exists.intro;refine⟨fun g=>?_,?_⟩;(focus(first|(go_at_call 89;refine zf (v:=.bool true) ((Qz _ _).mono ?_);rintro e o ⟨rfl,rfl⟩;exact⟨by rw[t],bZ⟩)|(go_at_call 148;first|(refine zf (v:=.bool true) ((zt _ _ _ _).mono ?_);rintro e o ⟨rfl,rfl⟩;exact⟨by rw[E],bZ⟩)|(refine zf (v:=.bool false) ((zt _ _ _ _).mono ?_);rintro e o ⟨rfl,rfl⟩;exact⟨by rw[I],bZ⟩))));go_big_quiet_on)))
        refine wpQuiet_nil ?_;rintro _ ⟨g,rfl⟩;go_wp2;go_ret;exact⟨zl (fun h=>Y.out (h.2.2.1 i hlt).2.2.1),ze f g.bel⟩
      ·have E:decide (In (S i).ln 0 ((m:Int) - 1))=false:=decide_eq_false g2
       have X:Hid (¬ In (S i).ln 0 ((p.n:Int) - 1)):=by rw[y.out];exact g2
       clear g2;refine zh (by kernel_rfl) (by kernel_rfl) ?_
       repeat(first|go_big_quiet_skip|(go_big_quiet_want;go_big_quiet_op;first|go_big_quiet_on|(apply Exists.intro;refine⟨fun g=>?_,?_⟩;(focus(first|(go_at_call 89;refine zf (v:=.bool true) ((Qz _ _).mono ?_);rintro e o ⟨rfl,rfl⟩;exact⟨by rw[t],bZ⟩)|(go_at_call 148;first|(refine zf (v:=.bool false) ((zt _ _ _ _).mono ?_);rintro e o ⟨rfl,rfl⟩;exact⟨by rw[E],bZ⟩))));go_big_quiet_on)))
       refine wpQuiet_nil ?_;rintro _ ⟨g,rfl⟩;go_wp2;go_ret;exact⟨zl (fun h=>X.out (h.2.2.1 i hlt).2.1),ze f g.bel⟩
     ·have t:decide (In (S i).who 1 9999)=false:=decide_eq_false g1
      have V:=hI g1;clear g1;refine zh (by kernel_rfl) (by kernel_rfl) ?_
      repeat(first|go_big_quiet_skip|(go_big_quiet_want;go_big_quiet_op;first|go_big_quiet_on|(apply Exists.intro;refine⟨fun g=>?_,?_⟩;(focus(first|(go_at_call 89;refine zf (v:=.bool false) ((Qz _ _).mono ?_);rintro e o ⟨rfl,rfl⟩;exact⟨by rw[t],bZ⟩)));go_big_quiet_on)))
      refine wpQuiet_nil ?_;rintro _ ⟨g,rfl⟩;go_wp2;go_ret;exact⟨zl (fun h=>V.out (h.2.2.1 i hlt).1),ze f g.bel⟩
    ·obtain rfl:i=n:=by omega
     go_wp2_with fail;refine(zhX O bo m mc i c p S _ y.out G.out h60 (fun j z=>(HA.out j z).2.2.1) (HX.out.below a) (N.out.below a)).mono ?_
     rintro e w2 ⟨⟨v,rfl,s⟩,J⟩;obtain⟨aw,cw,rfl,_⟩:=zp s;have HI:=hI (zbo s);have K:=ze a J;clear s J a;go_wp2;go_loopw [8,68] (fun _ j wr=>∃ k:Nat,k<=m/\j=int i64 k/\(∀ j,j<k->0<=QW p S i j)/\wr=w2) (fun _ j _=>m - (intOf j).toNat)
     case atStart=>exact⟨0,Nat.zero_le _,rfl,fun j z=>by omega,rfl⟩
     case round =>
      obtain⟨k,hk,rfl,r,L⟩:=hrel;have M:=L.symm;subst M;clear L;have HK:=hI r;clear r
      by_cases hlt3:k<m
      ·obtain⟨b3,a3,rfl,Q⟩:=HI.out k hlt3
       by_cases hneg:QW p S i k<0
       ·have t:decide (QW p S i k<0)=true:=decide_eq_true hneg
        have B:=hI hneg;clear hneg;go_wp2;go_ret;exact⟨zl (fun h=>by have:=h.2.2.2 k (by rw[y.out];exact hlt3);have:=B.out;omega),K⟩
       ·have t:decide (QW p S i k<0)=false:=decide_eq_false hneg
        have B:=hI hneg;clear hneg;go_wp2;go_roundw
        case rel=>exact⟨k+1,by omega,by go_num,fun j z=>by
         by_cases e:j=k
         ·subst e;have:=B.out;omega
         ·exact HK.out j (by omega),by trivial⟩
        case measure=>simp[intOf];omega
      ·obtain rfl:k=m:=by omega
       go_wp2;go_ret;exact⟨zR ⟨G.out,h60,HA.out,fun j z=>HK.out j (by rw[y.out] at z;exact z)⟩,K⟩
  ·have d0:decide (60<n)=true:=by simp;omega
   go_wp2;go_ret;exact⟨zl (fun h=>h60 h.2.1),u⟩
def zen (p:zH)(n:Nat)(S:Nat->Zp)(len hei:Int)(r:Int):Prop :=
 (∃ k:Nat,r=(k:Int)/\n≠60/\zba p (QW p S n) len hei k)∨(r=-1/\(n=60∨∀ k,¬ zba p (QW p S n) len hei k))
theorem zlV (y bo:Option Addr)(m L n c:Nat)(p:zH)(S:Nat->Zp)(len hei:Int)(w:World)(C:p.n=m)(x:zfj p n S)(J:zG w y p)(K:qw w bo n S) :
  Calls Tryz.prog 166 #[.slice y m L,.slice bo n c,int i64 len,int i64 hei] w fun e w'=>(∃ r:Int,e=.returned (int i64 r)/\zen p n S len hei r)/\Below w.heap.size w w':=by
 have u:=hI C;have E:=hI x;have F:=hI J;have N:=hI K;have Q:m<=4:=by rw[← C];exact x.1.1
 have s:n<=60:=x.2.1;clear C x J K
 by_cases h60:n=60
 ·have z:(n == 60)=true:=by simpa using h60
  have A:((n:Int) == 60)=true:=by simp;omega
  have o:=hI h60;clear h60;go_enter Tryz.func166,Tryz.ntmps166;go_wp2;go_ret;exact⟨⟨_,rfl,.inr ⟨rfl,.inl o.out⟩⟩,bZ⟩
 ·have z:(n == 60)=false:=by simpa using h60
  have A:((n:Int) == 60)=false:=by simp;omega
  have o:=hI h60;clear h60;go_enter Tryz.func166,Tryz.ntmps166;go_wp2_with fail;refine(zhX y bo m L n c p S _ u.out E.out.1 s E.out.lens F.out N.out).mono ?_;rintro e D ⟨⟨v,rfl,d⟩,f⟩;obtain⟨aw,cw,rfl,_⟩:=zp d;have M:=hI (zbo d);clear d;go_wp2;go_loopw [10,11,20] (fun _ _ i wr=>∃ k:Nat,k<=m/\i=int i64 k/\(∀ j:Nat,j<k->¬ (hei<=p.B j/\len<=QW p S n j))/\Below D.heap.size D wr) (fun _ _ i _=>m - (intOf i).toNat)
  case atStart=>exact⟨0,Nat.zero_le _,rfl,fun j I=>by omega,bZ⟩
  case round =>
   obtain⟨k,hk,rfl,g,a⟩:=hrel;have t:=hI g;clear g
   by_cases hlt:k<m
   ·obtain⟨b,off,rfl,h1,h2⟩:=F.out k (by rw[u.out];exact hlt)
    have H:=World.block_lt_of_cell? w _ h1;have c1:=((ze f a).cell (p:=⟨b,off+k*2,none⟩) H).trans h1;have c2:=((ze f a).cell (p:=⟨b,off+k*2+1,none⟩) H).trans h2;obtain⟨G,l,rfl,h3⟩:=M.out k hlt;have B:=World.block_lt_of_cell? D _ h3;have c3:(wr.alloc (.cells #[int i64 (p.A k),int i64 (p.B k)] 223)).cell? ⟨G,l+k,none⟩=some (int i64 (QW p S n k)):=((zk a _).cell (p:=⟨G,l+k,none⟩) B).trans h3;have i1:(0:Int)<=(k:Int):=by omega
    have i2:(k:Int)<(m:Int):=by omega
    clear h1 h2 h3
    by_cases g1:hei<=p.B k
    ·have O:decide (hei<=p.B k)=true:=decide_eq_true g1
     by_cases g2:len<=QW p S n k
     ·have P:decide (len<=QW p S n k)=true:=decide_eq_true g2
      have q:Hid (zba p (QW p S n) len hei k):=⟨by rw[u.out];exact hlt,⟨g1,g2⟩,t.out⟩
      clear g1 g2;go_wp2;go_ret;exact⟨⟨_,rfl,.inl ⟨k,rfl,o.out,q.out⟩⟩,ze f (zk a _)⟩
     ·have P:decide (len<=QW p S n k)=false:=decide_eq_false g2
      have q:Hid (¬ (hei<=p.B k/\len<=QW p S n k)):=fun h=>g2 h.2
      clear g1 g2;go_wp2;go_roundw
      case rel=>exact⟨k+1,by omega,by go_num,fun j I=>by
       by_cases e:j=k
       ·subst e;exact q.out
       ·exact t.out j (by omega),zk a _⟩
      case measure=>simp[intOf];omega
    ·have O:decide (hei<=p.B k)=false:=decide_eq_false g1
     have q:Hid (¬ (hei<=p.B k/\len<=QW p S n k)):=fun h=>g1 h.1
     clear g1;go_wp2;go_roundw
     case rel=>exact⟨k+1,by omega,by go_num,fun j I=>by
      by_cases e:j=k
      ·subst e;exact q.out
      ·exact t.out j (by omega),zk a _⟩
     case measure=>simp[intOf];omega
   ·obtain rfl:k=m:=by omega
    go_wp2;go_ret;exact⟨⟨_,rfl,.inr ⟨rfl,.inr (fun j h=>t.out j (by have:=h.1;rw[u.out] at this;exact this) h.2.1)⟩⟩,ze f a⟩
theorem zkw (o:Option Addr)(n c:Nat)(p:zH)(w:World)(s:p.n=n)(hn:n<=1048576)(v:zG w o p) :
  Calls Tryz.prog 151 #[.slice o n c] w fun e w'=>qX (zaZ p 6 1 3 1 4) e/\Below w.heap.size w w':=by
 have f:=hI s;clear s
 by_cases h0:n<=6
 ·have q:decide (6<n)=false:=by simp;omega
  go_enter Tryz.func151,Tryz.ntmps151;go_wp2;go_loopw [4,10] (fun _ i wr=>∃ k:Nat,k<=n/\i=int i64 k/\(∀ j,j<k->In (p.A j) 1 3/\In (p.B j) 1 4)/\Below w.heap.size w wr) (fun _ i _=>n - (intOf i).toNat)
  case atStart=>exact⟨0,Nat.zero_le _,rfl,fun j l=>by omega,bZ⟩
  case round =>
   obtain⟨k,hk,rfl,d,a⟩:=hrel;have m:=hI d;clear d q
   by_cases hlt:k<n
   ·obtain⟨b,off,rfl,h1,h2⟩:=v k (by rw[f.out];omega)
    have r:=World.block_lt_of_cell? w _ h1;have c1:=(a.cell (p:=⟨b,off+k*2,none⟩) r).trans h1;have c2:=(a.cell (p:=⟨b,off+k*2+1,none⟩) r).trans h2;clear h1 h2
    by_cases g1:In (p.A k) 1 3
    ·have t:decide (In (p.A k) 1 3)=true:=decide_eq_true g1
     by_cases g2:In (p.B k) 1 4
     ·have u:decide (In (p.B k) 1 4)=true:=decide_eq_true g2
      have g:Hid (In (p.A k) 1 3/\In (p.B k) 1 4):=⟨g1,g2⟩;clear g1 g2;go_wp2_with (first|(go_at_call 148;refine sC (zt _ _ _ _) ?_))
      go_roundw
      case rel=>exact⟨k+1,by omega,by go_num,fun j l=>by
       by_cases e:j=k
       ·subst e;exact g.out
       ·exact m.out j (by omega),zk a _⟩
      case measure=>simp[intOf];omega
     ·have u:decide (In (p.B k) 1 4)=false:=decide_eq_false g2
      have g:=hI g2;clear g1 g2;go_wp2_with (first|(go_at_call 148;refine sC (zt _ _ _ _) ?_))
      go_ret;exact⟨zl (fun h=>g.out (h.2 k (by rw[f.out];exact hlt)).2),zk a _⟩
    ·have t:decide (In (p.A k) 1 3)=false:=decide_eq_false g1
     have g:=hI g1;clear g1;go_wp2_with (first|(go_at_call 148;refine sC (zt _ _ _ _) ?_))
     go_ret;exact⟨zl (fun h=>g.out (h.2 k (by rw[f.out];exact hlt)).1),zk a _⟩
   ·obtain rfl:k=n:=by omega
    go_wp2;go_ret;exact⟨zR ⟨by rw[f.out];exact h0,fun j l=>m.out j (by rw[f.out] at l;exact l)⟩,a⟩
 ·have q:decide (6<n)=true:=by simp;omega
  go_enter Tryz.func151,Tryz.ntmps151;go_wp2;go_ret;exact⟨zl (fun h=>by have:=h.1;rw[f.out] at this;exact h0 this),bZ⟩
theorem zcw (m:Option Addr)(n c:Nat)(S:Nat->qN)(x:Int)(w:World)(hn:n<=1048576)(s:qp w m n S) :
  Calls Tryz.prog 152 #[.slice m n c,int i64 x] w fun e w'=>qX (Has (ZV S) n x) e/\Below w.heap.size w w':=by
 go_enter Tryz.func152,Tryz.ntmps152;go_wp2;go_loopw [6,9] (fun _ i wr=>∃ k:Nat,k<=n/\i=int i64 k/\(∀ j,j<k->ZV S j≠x)/\Below w.heap.size w wr) (fun _ i _=>n - (intOf i).toNat)
 case atStart=>exact⟨0,Nat.zero_le _,rfl,fun j r=>by omega,bZ⟩
 case round =>
  obtain⟨k,hk,rfl,d,a⟩:=hrel;have l:=hI d;clear d
  by_cases hlt2:k<n
  ·obtain⟨b,off,rfl,h,h1,h2,h3⟩:=s k hlt2
   have f:=World.block_lt_of_cell? w _ h;have c0:=(a.cell (p:=⟨b,off+k*4,none⟩) f).trans h;have c1:=(a.cell (p:=⟨b,off+k*4+1,none⟩) f).trans h1;have c2:=(a.cell (p:=⟨b,off+k*4+2,none⟩) f).trans h2;have c3:=(a.cell (p:=⟨b,off+k*4+3,none⟩) f).trans h3;clear h h1 h2 h3
   by_cases he:ZV S k=x
   ·have q:((S k).who == x)=true:=by unfold ZV at he;simpa using he
    have g:Hid (Has (ZV S) n x):=⟨k,hlt2,he⟩;clear he;go_wp2;go_ret;exact⟨zR g.out,zk a _⟩
   ·have q:((S k).who == x)=false:=by unfold ZV at he;simpa using he
    have o:=hI he;clear he;go_wp2;go_roundw
    case rel=>exact⟨k+1,by omega,by go_num,fun j r=>by
     by_cases e:j=k
     ·subst e;exact o.out
     ·exact l.out j (by omega),zk a _⟩
    case measure=>simp[intOf];omega
  ·obtain rfl:k=n:=by omega
   have g:=hI (zdp l.out);go_wp2;go_ret;exact⟨zl g.out,a⟩
theorem zfo (H bo:Option Addr)(m mc n c:Nat)(p:zH)(S:Nat->qN)(w:World)(A:p.n=m)(y:zgt p)(hn:n<=60)(K:∀ j,j<n->In (S j).many 1 4)(M:zG w H p)(N:qp w bo n S) :
  Calls Tryz.prog 153 #[.slice H m mc,.slice bo n c] w fun e w'=>(∃ v,e=.returned v/\w'.ownsRow w.heap.size 3 1 v m (zS (Za p S n) m))/\Below w.heap.size w w':=by
 obtain⟨Y,Z,C,D,E⟩:=info_parts Tryz.infoInt;have F:=hI A;have Q:=hI y;have G:=hI K;have R:=hI M;have T:=hI N;have V:m<=6:=by rw[← A];exact y.1
 clear A y K M N;go_enter Tryz.func153,Tryz.ntmps153;go_wp2;go_loopw [5,6,7,8,10,13,20,21,22] (fun v _ _ _ _ i _ _ _ wr=>∃ k:Nat,k<=m/\i=int i64 k/\wr.ownsRow w.heap.size 3 1 v k (zS (Za p S n) k)/\Below w.heap.size w wr) (fun _ _ _ _ _ i _ _ _ _=>m - (intOf i).toNat)
 case atStart=>exact⟨0,Nat.zero_le _,rfl,⟨rfl,.inl ⟨rfl,rfl⟩⟩,bZ⟩
 case round =>
  obtain⟨k,hk,rfl,l,f⟩:=hrel
  by_cases hlt:k<m
  ·obtain⟨b,off,rfl,h1,h2⟩:=R.out k (by rw[F.out];exact hlt)
   have I:=World.block_lt_of_cell? w _ h1;have c1:=(f.cell (p:=⟨b,off+k*2,none⟩) I).trans h1;have c2:=(f.cell (p:=⟨b,off+k*2+1,none⟩) I).trans h2;clear h1 h2;go_wp2;go_loopw [8,10,22] (fun s8 _ i O=>∃ t:Nat,t<=n/\i=int i64 t/\s8=int i64 (Za p S t k)/\O.ownsRow w.heap.size 3 1 u5 k (zS (Za p S n) k)/\Below w.heap.size w O) (fun _ _ i _=>n - (intOf i).toNat)
   case atStart=>exact⟨0,Nat.zero_le _,rfl,by rw[ziC],zo (zk bZ _) l,zk f _⟩
   case round =>
    obtain⟨t,ht,rfl,rfl,d,a⟩:=hrel;clear l f c1 c2
    by_cases hlt2:t<n
    ·obtain⟨q,g,rfl,x,h1,h2,h3⟩:=T.out t hlt2
     have o:=World.block_lt_of_cell? w _ x;have c0:=(a.cell (p:=⟨q,g+t*4,none⟩) o).trans x;have c1:=(a.cell (p:=⟨q,g+t*4+1,none⟩) o).trans h1;have c2:=(a.cell (p:=⟨q,g+t*4+2,none⟩) o).trans h2;have c3:=(a.cell (p:=⟨q,g+t*4+3,none⟩) o).trans h3;clear x h1 h2 h3
     by_cases he:(S t).cab=(k:Int)
     ·have U:((S t).cab == (k:Int))=true:=by simpa using he
      have r:=hI he;have X:IntKind.i64.wrap (Za p S t k - (S t).many)=Za p S t k - (S t).many:=by
       have h1:=zdq Q.out (show t<=60 by omega) (fun j J=>G.out j (by omega)) (show k<p.n by rw[F.out];exact hlt)
       have h2:=G.out t hlt2;unfold In at h2;rw[IntKind.wrap_i64];omega
      clear he;go_wp2;go_roundw
      case rel=>exact⟨t+1,by omega,by go_num,by rw[zdK p S t k r.out],zo (zk bZ _) d,zk a _⟩
      case measure=>simp[intOf];omega
     ·have U:((S t).cab == (k:Int))=false:=by simpa using he
      have r:=hI he;clear he;go_wp2;go_roundw
      case rel=>exact⟨t+1,by omega,by go_num,by rw[zgb p S t k r.out],zo (zk bZ _) d,zk a _⟩
      case measure=>simp[intOf];omega
    ·obtain rfl:t=n:=by omega
     have W:=a.size;have P:Hid (∀ s,(some ⟨wr.heap.size,0,none⟩:Option Addr)=some s->∀ j u,[Value.int .i64 (Za p S t k)][j]?=some u->(wr.alloc (.cells #[int i64 (Za p S t k)] 3)).cell? (s.add j)=some u):=by
      intro s e
      cases e
      exact World.news_of_block (heap_alloc_new wr _)
     go_wp2_with (first|(at_builtin;refine zv _ (by rfl) (.tmp 35) (.tmp 37) 27 (by rfl) w.heap.size 3 Y (int i64 0) 1 8 Tryz.underlying27 Z C D E rfl (by decide) _ k (zS (Za p S t) k) (by rfl) (d.alloc _) (some ⟨wr.heap.size,0,none⟩) 1 1 [int i64 (Za p S t k)] (by rfl) (fun h=>(by cases h)) (by rfl) P.out (by intro u L;simp at L;subst L;rfl) (by unfold maxLen;omega) (by omega) (by simp;omega) ?_;intro v' w3 B z))
     go_roundw
     case rel=>exact⟨k+1,by omega,by go_num,by rw[zfx];exact B,(zk a _).grown z (by simp;omega) (fun j J=>(d.lt j J).1)⟩
     case measure=>simp[intOf];omega
  ·obtain rfl:k=m:=by omega
   go_wp2;go_ret;exact⟨⟨_,rfl,l⟩,f⟩
theorem ziL (ao bo:Option Addr)(m mc n c:Nat)(p:zH)(S:Nat->qN)(w:World)(T:p.n=m)(hm:m<=1048576)(hn:n<=1048576)(hc:n<=c)(hx:zG w ao p)(hz:qp w bo n S) :
  Calls Tryz.prog 83 #[.slice ao m mc,.slice bo n c] w fun e w'=>qX (Qr p n S) e/\Below w.heap.size w w':=by
 have J:=hI T;have HX:=hI hx;have G:=hI hz;clear T hx hz;go_enter Tryz.func83,Tryz.ntmps83;go_wp2_with fail;refine(zkw ao m mc p _ J.out hm HX.out).mono ?_;rintro e w1 ⟨⟨q,rfl,hq⟩,H⟩
 cases q with
 | false =>
  have V:Hid (¬ zgt p):=fun h=>by have:=hq.2 h;cases this
  clear hq;go_wp2;go_ret;exact⟨zl (fun h=>V.out h.1),H⟩
 | true =>
  have V:Hid (zgt p):=hq.1 rfl;have b1:m<=6:=by rw[← J.out];exact V.out.1
  clear hq
  by_cases h60:n<=60
  ·have d0:decide (60<n)=false:=by simp;omega
   have b4:IntKind.i64.wrap ((m:Int) - 1)=(m:Int) - 1:=by rw[IntKind.wrap_i64];omega
   go_wp2;go_loopw [5,6,8,21,70,71,72] (fun _ _ _ i _ _ _ wr=>∃ k:Nat,k<=n/\i=int i64 k/\(∀ j,j<k->OkR p S j)/\Below w.heap.size w wr) (fun _ _ _ i _ _ _ _=>n - (intOf i).toNat)
   case atStart=>exact⟨0,Nat.zero_le _,rfl,fun j C=>by omega,H⟩
   case round =>
    obtain⟨i,z,rfl,d,f⟩:=hrel;have HA:=hI d;clear d H
    by_cases hlt:i<n
    ·obtain⟨b,off,rfl,O,h1,h2,h3⟩:=G.out i hlt
     have K:=World.block_lt_of_cell? w _ O;have c0:=(f.cell (p:=⟨b,off+i*4,none⟩) K).trans O;have c1:=(f.cell (p:=⟨b,off+i*4+1,none⟩) K).trans h1;have c2:=(f.cell (p:=⟨b,off+i*4+2,none⟩) K).trans h2;have c3:=(f.cell (p:=⟨b,off+i*4+3,none⟩) K).trans h3;have u:=heap_alloc_new wr (.cells #[int i64 (S i).who,int i64 (S i).cab,int i64 (S i).many,.bool (S i).all] 228);have r:=zk f (.cells #[int i64 (S i).who,int i64 (S i).cab,int i64 (S i).many,.bool (S i).all] 228);clear O h1 h2 h3;go_upto_region 6 with fail;generalize hW:wr.alloc (.cells #[int i64 (S i).who,int i64 (S i).cab,int i64 (S i).many,.bool (S i).all] 228)=W at u r ⊢;clear hW;have I:wr.heap.size<W.heap.size:=zM u;have x:=hI u;generalize wr.heap.size=B at *;clear c0 c1 c2 c3 u f;have i1:(0:Int)<=(i:Int):=by omega
     have i2:(i:Int)<=(c:Int):=by omega
     go_cut [67] (fun a6 wx=>zll (OkR0 p S i) a6/\Below W.heap.size W wx)
     case first =>
      have z0:∀ g:zn W,g.val.cell? ⟨B,0,none⟩=some (int i64 (S i).who):=fun g=>(g.bel.cell I).trans (za x.out 0 _ rfl)
      have z1:∀ g:zn W,g.val.cell? ⟨B,1,none⟩=some (int i64 (S i).cab):=fun g=>(g.bel.cell I).trans (za x.out 1 _ rfl)
      have z2:∀ g:zn W,g.val.cell? ⟨B,2,none⟩=some (int i64 (S i).many):=fun g=>(g.bel.cell I).trans (za x.out 2 _ rfl)
      have z3:∀ g:zn W,g.val.cell? ⟨B,3,none⟩=some (.bool (S i).all):=fun g=>(g.bel.cell I).trans (za x.out 3 _ rfl)
      by_cases g1:In (S i).who 1 9999
      ·have y:decide (In (S i).who 1 9999)=true:=decide_eq_true g1
       have H1:=hI g1;clear g1
       by_cases g2:Has (ZV S) i (S i).who
       ·have E:=hI g2
        clear g2;refine zh (by kernel_rfl) (by kernel_rfl) ?_
        repeat(first|go_big_quiet_skip|(go_big_quiet_want;go_big_quiet_op;first|go_big_quiet_on|(apply Exists.intro;refine⟨fun g=>?_,?_⟩;(focus(first|(go_at_call 89;refine zf (v:=.bool true) ((Qz _ _).mono ?_);rintro e s ⟨rfl,rfl⟩;exact⟨by rw[y],bZ⟩)|(go_at_call 152;refine zf (v:=.bool true) ((zcw _ i c S (S i).who _ (by omega) ((G.out.upto (by omega)).below (ze r g.bel))).mono ?_);rintro e s ⟨⟨bb,rfl,z⟩,o⟩;obtain rfl:=z.2 E.out;exact⟨rfl,o⟩)));go_big_quiet_on)))
        refine wpQuiet_nil ?_;rintro _ ⟨g,rfl⟩;go_wp2;go_meet;exact⟨QP (fun h=>h.2.1 E.out),g.bel⟩
       ·have E:=hI g2
        clear g2
        by_cases g3:In (S i).cab 0 ((m:Int) - 1)
        ·have H3:Hid (In (S i).cab 0 ((p.n:Int) - 1)):=by rw[J.out];exact g3
         obtain⟨l,T⟩:∃ l:Nat,(S i).cab=l:=⟨(S i).cab.toNat,by unfold In at g3;omega⟩
         have a8:l<m:=by unfold In at g3;omega
         have X:=hI T;have U:decide (In (l:Int) 0 ((m:Int) - 1))=true:=decide_eq_true (by rw[← T];exact g3)
         have b5:∀ g:zn W,g.val.cell? ⟨B,1,none⟩=some (int i64 (l:Int)):=fun g=>by rw[z1 g,T]
         obtain⟨b',L,rfl,k1,k2⟩:=HX.out l (by rw[J.out];exact a8)
         have a7:=World.block_lt_of_cell? w _ k1;have y2:∀ g:zn W,g.val.cell? ⟨b',L+l*2+1,none⟩=some (int i64 (p.B l)):=fun g=>((ze r g.bel).cell (p:=⟨b',L+l*2+1,none⟩) a7).trans k2
         have l1:(0:Int)<=(l:Int):=by omega
         have l2:(l:Int)<(m:Int):=by omega
         clear g3 z1 T k1 k2
         by_cases g4:In (S i).many 1 4
         ·have Y:decide (In (S i).many 1 4)=true:=decide_eq_true g4
          have H4:=hI g4;clear g4
          cases d:(S i).all with
          | false =>
           rw[d] at z3;have H5:=hI d;clear d;refine zh (by kernel_rfl) (by kernel_rfl) ?_
           repeat(first|go_big_quiet_skip|(go_big_quiet_want;go_big_quiet_op;first|go_big_quiet_on|(apply Exists.intro;refine⟨fun g=>?_,?_⟩;(focus(first|(go_at_call 89;refine zf (v:=.bool true) ((Qz _ _).mono ?_);rintro e s ⟨rfl,rfl⟩;exact⟨by rw[y],bZ⟩)|(go_at_call 152;refine zf (v:=.bool false) ((zcw _ i c S (S i).who _ (by omega) ((G.out.upto (by omega)).below (ze r g.bel))).mono ?_);rintro e s ⟨⟨bb,rfl,z⟩,o⟩;obtain rfl:=Bool.eq_false_iff.2 (fun e=>E.out (z.1 e));exact⟨rfl,o⟩)|(go_at_call 148;first|(refine zf (v:=.bool true) ((zt _ _ _ _).mono ?_);rintro e s ⟨rfl,rfl⟩;exact⟨by rw[U],bZ⟩)|(refine zf (v:=.bool true) ((zt _ _ _ _).mono ?_);rintro e s ⟨rfl,rfl⟩;exact⟨by rw[Y],bZ⟩))));go_big_quiet_on)))
           refine wpQuiet_nil ?_;rintro _ ⟨g,rfl⟩;go_wp2;go_meet;exact⟨Q5 ⟨H1.out,E.out,H3.out,H4.out,fun h=>by rw[H5.out] at h;cases h⟩,g.bel⟩
          | true =>
           rw[d] at z3;have H5:=hI d;clear d
           by_cases g6:(S i).many=p.B l
           ·have e6:((S i).many == p.B l)=true:=by simpa using g6
            have e7:((S i).many != p.B l)=false:=by simpa using g6
            have H6:=hI g6;clear g6;refine zh (by kernel_rfl) (by kernel_rfl) ?_
            repeat(first|go_big_quiet_skip|(go_big_quiet_want;go_big_quiet_op;first|go_big_quiet_on|(apply Exists.intro;refine⟨fun g=>?_,?_⟩;(focus(first|(go_at_call 89;refine zf (v:=.bool true) ((Qz _ _).mono ?_);rintro e s ⟨rfl,rfl⟩;exact⟨by rw[y],bZ⟩)|(go_at_call 152;refine zf (v:=.bool false) ((zcw _ i c S (S i).who _ (by omega) ((G.out.upto (by omega)).below (ze r g.bel))).mono ?_);rintro e s ⟨⟨bb,rfl,z⟩,o⟩;obtain rfl:=Bool.eq_false_iff.2 (fun e=>E.out (z.1 e));exact⟨rfl,o⟩)|(go_at_call 148;first|(refine zf (v:=.bool true) ((zt _ _ _ _).mono ?_);rintro e s ⟨rfl,rfl⟩;exact⟨by rw[U],bZ⟩)|(refine zf (v:=.bool true) ((zt _ _ _ _).mono ?_);rintro e s ⟨rfl,rfl⟩;exact⟨by rw[Y],bZ⟩))));go_big_quiet_on)))
            refine wpQuiet_nil ?_;rintro _ ⟨g,rfl⟩;go_wp2;go_meet;exact⟨Q5 ⟨H1.out,E.out,H3.out,H4.out,fun _=>by rw[X.out];exact H6.out⟩,g.bel⟩
           ·have e6:((S i).many == p.B l)=false:=by simpa using g6
            have e7:((S i).many != p.B l)=true:=by simpa using g6
            have H6:=hI g6;clear g6;refine zh (by kernel_rfl) (by kernel_rfl) ?_
            repeat(first|go_big_quiet_skip|(go_big_quiet_want;go_big_quiet_op;first|go_big_quiet_on|(apply Exists.intro;refine⟨fun g=>?_,?_⟩;(focus(first|(go_at_call 89;refine zf (v:=.bool true) ((Qz _ _).mono ?_);rintro e s ⟨rfl,rfl⟩;exact⟨by rw[y],bZ⟩)|(go_at_call 152;refine zf (v:=.bool false) ((zcw _ i c S (S i).who _ (by omega) ((G.out.upto (by omega)).below (ze r g.bel))).mono ?_);rintro e s ⟨⟨bb,rfl,z⟩,o⟩;obtain rfl:=Bool.eq_false_iff.2 (fun e=>E.out (z.1 e));exact⟨rfl,o⟩)|(go_at_call 148;first|(refine zf (v:=.bool true) ((zt _ _ _ _).mono ?_);rintro e s ⟨rfl,rfl⟩;exact⟨by rw[U],bZ⟩)|(refine zf (v:=.bool true) ((zt _ _ _ _).mono ?_);rintro e s ⟨rfl,rfl⟩;exact⟨by rw[Y],bZ⟩))));go_big_quiet_on)))
            refine wpQuiet_nil ?_;rintro _ ⟨g,rfl⟩;go_wp2;go_meet;exact⟨QP (fun h=>H6.out (by have:=h.2.2.2.2 H5.out;rw[X.out] at this;exact this)),g.bel⟩
         ·have Y:decide (In (S i).many 1 4)=false:=decide_eq_false g4
          have H4:=hI g4;clear g4;refine zh (by kernel_rfl) (by kernel_rfl) ?_
          repeat(first|go_big_quiet_skip|(go_big_quiet_want;go_big_quiet_op;first|go_big_quiet_on|(apply Exists.intro;refine⟨fun g=>?_,?_⟩;(focus(first|(go_at_call 89;refine zf (v:=.bool true) ((Qz _ _).mono ?_);rintro e s ⟨rfl,rfl⟩;exact⟨by rw[y],bZ⟩)|(go_at_call 152;refine zf (v:=.bool false) ((zcw _ i c S (S i).who _ (by omega) ((G.out.upto (by omega)).below (ze r g.bel))).mono ?_);rintro e s ⟨⟨bb,rfl,z⟩,o⟩;obtain rfl:=Bool.eq_false_iff.2 (fun e=>E.out (z.1 e));exact⟨rfl,o⟩)|(go_at_call 148;first|(refine zf (v:=.bool true) ((zt _ _ _ _).mono ?_);rintro e s ⟨rfl,rfl⟩;exact⟨by rw[U],bZ⟩)|(refine zf (v:=.bool false) ((zt _ _ _ _).mono ?_);rintro e s ⟨rfl,rfl⟩;exact⟨by rw[Y],bZ⟩))));go_big_quiet_on)))
          refine wpQuiet_nil ?_;rintro _ ⟨g,rfl⟩;go_wp2;go_meet;exact⟨QP (fun h=>H4.out h.2.2.2.1),g.bel⟩
        ·have U:decide (In (S i).cab 0 ((m:Int) - 1))=false:=decide_eq_false g3
         have H3:Hid (¬ In (S i).cab 0 ((p.n:Int) - 1)):=by rw[J.out];exact g3
         clear g3;refine zh (by kernel_rfl) (by kernel_rfl) ?_
         repeat(first|go_big_quiet_skip|(go_big_quiet_want;go_big_quiet_op;first|go_big_quiet_on|(apply Exists.intro;refine⟨fun g=>?_,?_⟩;(focus(first|(go_at_call 89;refine zf (v:=.bool true) ((Qz _ _).mono ?_);rintro e s ⟨rfl,rfl⟩;exact⟨by rw[y],bZ⟩)|(go_at_call 152;refine zf (v:=.bool false) ((zcw _ i c S (S i).who _ (by omega) ((G.out.upto (by omega)).below (ze r g.bel))).mono ?_);rintro e s ⟨⟨bb,rfl,z⟩,o⟩;obtain rfl:=Bool.eq_false_iff.2 (fun e=>E.out (z.1 e));exact⟨rfl,o⟩)|(go_at_call 148;first|(refine zf (v:=.bool false) ((zt _ _ _ _).mono ?_);rintro e s ⟨rfl,rfl⟩;exact⟨by rw[U],bZ⟩))));go_big_quiet_on)))
         refine wpQuiet_nil ?_;rintro _ ⟨g,rfl⟩;go_wp2;go_meet;exact⟨QP (fun h=>H3.out h.2.2.1),g.bel⟩
      ·have y:decide (In (S i).who 1 9999)=false:=decide_eq_false g1
       have H1:=hI g1;clear g1;refine zh (by kernel_rfl) (by kernel_rfl) ?_
       repeat(first|go_big_quiet_skip|(go_big_quiet_want;go_big_quiet_op;first|go_big_quiet_on|(apply Exists.intro;refine⟨fun g=>?_,?_⟩;(focus(first|(go_at_call 89;refine zf (v:=.bool false) ((Qz _ _).mono ?_);rintro e s ⟨rfl,rfl⟩;exact⟨by rw[y],bZ⟩)));go_big_quiet_on)))
       refine wpQuiet_nil ?_;rintro _ ⟨g,rfl⟩;go_wp2;go_meet;exact⟨QP (fun h=>H1.out h.1),g.bel⟩
     case rest =>
      obtain⟨⟨tb,rfl,a1⟩,Q⟩:=hcut;have HT:=hI a1;have t:=ze r Q;have R:=zb x.out Q;clear a1 r Q x
      cases tb with
      | true =>
       have a5:Hid (¬ OkR0 p S i):=fun h=>by have:=HT.out.2 h;cases this
       clear HT;go_wp2;go_ret;exact⟨zl (fun h=>a5.out (h.2.2.1 i hlt).1),t⟩
      | false =>
       have H0:Hid (OkR0 p S i):=HT.out.1 rfl;clear HT;generalize wc=W2 at *;go_wp2;go_loopw [8,72] (fun _ j wq=>∃ k:Nat,k<=i/\j=int i64 k/\(∀ j,j<k->OkR2 S i j)/\Below W2.heap.size W2 wq) (fun _ j _=>i - (intOf j).toNat)
       case atStart=>exact⟨0,Nat.zero_le _,rfl,fun j C=>by omega,bZ⟩
       case round =>
        obtain⟨k,hk,rfl,A,a⟩:=hrel;have M:=hI A;clear A
        by_cases hlt2:k<i
        ·obtain⟨b2,a9,e2,O,h1,h2,h3⟩:=G.out k (by omega)
         simp only[Option.some.injEq,Addr.mk.injEq,and_true] at e2;obtain⟨rfl,rfl⟩:=e2;have c0:=((ze t a).cell (p:=⟨b,off+k*4,none⟩) K).trans O;have c1:=((ze t a).cell (p:=⟨b,off+k*4+1,none⟩) K).trans h1;have c2:=((ze t a).cell (p:=⟨b,off+k*4+2,none⟩) K).trans h2;have c3:=((ze t a).cell (p:=⟨b,off+k*4+3,none⟩) K).trans h3;have P:=zd (zb R a) (.cells #[int i64 (S k).who,int i64 (S k).cab,int i64 (S k).many,.bool (S k).all] 228);have y1:=za P 1 _ rfl;have y3:=za P 3 _ rfl;clear O h1 h2 h3 P
         by_cases g1:(S k).cab=(S i).cab
         ·have y:((S k).cab == (S i).cab)=true:=by simpa using g1
          have F:=hI g1;clear g1
          cases ho:(S k).all with
          | true =>
           rw[ho] at c3 y1 y3;have HO:=hI ho;clear ho;go_wp2;go_ret;exact⟨zl (fun h=>by have:=((h.2.2.1 i hlt).2 k hlt2 F.out).1;rw[HO.out] at this;cases this),ze t (zk a _)⟩
          | false =>
           rw[ho] at c3 y1 y3;have HO:=hI ho;clear ho
           cases hr:(S i).all with
           | true =>
            rw[hr] at y3;have HR:=hI hr;clear hr;go_wp2;go_ret;exact⟨zl (fun h=>by have:=((h.2.2.1 i hlt).2 k hlt2 F.out).2;rw[HR.out] at this;cases this),ze t (zk a _)⟩
           | false =>
            rw[hr] at y3;have HR:=hI hr;clear hr;go_wp2;go_roundw
            case rel=>exact⟨k+1,by omega,by go_num,fun j C=>by
             by_cases e:j=k
             ·subst e;exact fun _=>⟨HO.out,HR.out⟩
             ·exact M.out j (by omega),zk a _⟩
            case measure=>simp[intOf];omega
         ·have y:((S k).cab == (S i).cab)=false:=by simpa using g1
          have F:=hI g1;clear g1;go_wp2;go_roundw
          case rel=>exact⟨k+1,by omega,by go_num,fun j C=>by
           by_cases e:j=k
           ·subst e;exact fun h=>absurd h F.out
           ·exact M.out j (by omega),zk a _⟩
          case measure=>simp[intOf];omega
        ·obtain rfl:k=i:=by omega
         have a4:Hid (∀ j,j<k+1->OkR p S j):=fun j C=>by
          by_cases e:j=k
          ·subst e;exact⟨H0.out,M.out⟩
          ·exact HA.out j (by omega)
         go_wp2;go_roundw
         case rel=>exact⟨k+1,by omega,by go_num,a4.out,ze t a⟩
         case measure=>simp[intOf];omega
    ·obtain rfl:i=n:=by omega
     go_wp2_with fail;refine(zfo ao bo m mc i c p S _ J.out V.out h60 (fun j C=>(HA.out j C).1.2.2.2.1) (HX.out.below f) (G.out.below f)).mono ?_
     rintro e w2 ⟨⟨v,rfl,D⟩,Z⟩;obtain⟨aw,cw,rfl,_⟩:=zp D;have HI:=hI (zbo D);have a0:=ze f Z;clear D Z f;go_wp2;go_loopw [10,95] (fun _ j wr=>∃ k:Nat,k<=m/\j=int i64 k/\(∀ j,j<k->0<=Za p S i j)/\wr=w2) (fun _ j _=>m - (intOf j).toNat)
     case atStart=>exact⟨0,Nat.zero_le _,rfl,fun j C=>by omega,rfl⟩
     case round =>
      obtain⟨k,hk,rfl,d,a2⟩:=hrel;have a3:=a2.symm;subst a3;clear a2;have HK:=hI d;clear d
      by_cases hlt3:k<m
      ·obtain⟨b3,b0,rfl,O⟩:=HI.out k hlt3
       by_cases hneg:Za p S i k<0
       ·have y:decide (Za p S i k<0)=true:=decide_eq_true hneg
        have N:=hI hneg;clear hneg;go_wp2;go_ret;exact⟨zl (fun h=>by have:=h.2.2.2 k (by rw[J.out];exact hlt3);have:=N.out;omega),a0⟩
       ·have y:decide (Za p S i k<0)=false:=decide_eq_false hneg
        have N:=hI hneg;clear hneg;go_wp2;go_roundw
        case rel=>exact⟨k+1,by omega,by go_num,fun j C=>by
         by_cases e:j=k
         ·subst e;have:=N.out;omega
         ·exact HK.out j (by omega),by trivial⟩
        case measure=>simp[intOf];omega
      ·obtain rfl:k=m:=by omega
       go_wp2;go_ret;exact⟨zR ⟨V.out,h60,HA.out,fun j C=>HK.out j (by rw[J.out] at C;exact C)⟩,a0⟩
  ·have d0:decide (60<n)=true:=by simp;omega
   go_wp2;go_ret;exact⟨zl (fun h=>h60 h.2.1),H⟩
def RIx (n m:Nat)(P:Nat->Prop)(r:Int):Prop:=(∃ k:Nat,r=(k:Int)/\n≠60/\ZH m P k)∨(r=-1/\(n=60∨∀ k,¬ ZH m P k))
theorem zfH (z bo:Option Addr)(m M n c:Nat)(p:zH)(S:Nat->qN)(cl q:Int)(w:World)(D:p.n=m)(y:Qr p n S)(K:zG w z p)(L:qp w bo n S) :
  Calls Tryz.prog 167 #[.slice z m M,.slice bo n c,int i64 cl,int i64 q] w fun e w'=>(∃ r:Int,e=.returned (int i64 r)/\RIx n p.n (zbN p n S cl q) r)/\Below w.heap.size w w':=by
 have x:=hI D;have F:=hI y;have G:=hI K;have O:=hI L;have R:m<=6:=by rw[← D];exact y.1.1
 have t:n<=60:=y.2.1;clear D y K L
 by_cases h60:n=60
 ·have A:(n == 60)=true:=by simpa using h60
  have B:((n:Int) == 60)=true:=by simp;omega
  have o:=hI h60;clear h60;go_enter Tryz.func167,Tryz.ntmps167;go_wp2;go_ret;exact⟨⟨_,rfl,.inr ⟨rfl,.inl o.out⟩⟩,bZ⟩
 ·have A:(n == 60)=false:=by simpa using h60
  have B:((n:Int) == 60)=false:=by simp;omega
  have o:=hI h60;clear h60;go_enter Tryz.func167,Tryz.ntmps167;go_wp2_with fail;refine(zfo z bo m M n c p S _ x.out F.out.1 t F.out.manys G.out O.out).mono ?_;rintro e E ⟨⟨v,rfl,d⟩,f⟩;obtain⟨aw,cw,rfl,_⟩:=zp d;have N:=hI (zbo d);clear d;go_wp2;go_loopw [10,11,20] (fun _ _ i wr=>∃ k:Nat,k<=m/\i=int i64 k/\(∀ j:Nat,j<k->¬ zbN p n S cl q j)/\Below E.heap.size E wr) (fun _ _ i _=>m - (intOf i).toNat)
  case atStart=>exact⟨0,Nat.zero_le _,rfl,fun j J=>by omega,bZ⟩
  case round =>
   obtain⟨k,hk,rfl,g,a⟩:=hrel;have u:=hI g;clear g
   by_cases hlt:k<m
   ·obtain⟨b,off,rfl,h1,h2⟩:=G.out k (by rw[x.out];exact hlt)
    have I:=World.block_lt_of_cell? w _ h1;have c1:=((ze f a).cell (p:=⟨b,off+k*2,none⟩) I).trans h1;have c2:=((ze f a).cell (p:=⟨b,off+k*2+1,none⟩) I).trans h2;obtain⟨H,l,rfl,h3⟩:=N.out k hlt;have C:=World.block_lt_of_cell? E _ h3;have c3:(wr.alloc (.cells #[int i64 (p.A k),int i64 (p.B k)] 231)).cell? ⟨H,l+k,none⟩=some (int i64 (Za p S n k)):=((zk a _).cell (p:=⟨H,l+k,none⟩) C).trans h3;have i1:(0:Int)<=(k:Int):=by omega
    have i2:(k:Int)<(m:Int):=by omega
    clear h1 h2 h3
    by_cases g1:p.A k=cl
    ·have P:(p.A k == cl)=true:=by simpa using g1
     by_cases g2:q<=Za p S n k
     ·have Q:decide (q<=Za p S n k)=true:=decide_eq_true g2
      have s:Hid (ZH p.n (zbN p n S cl q) k):=⟨by rw[x.out];exact hlt,⟨g1,g2⟩,u.out⟩
      clear g1 g2;go_wp2;go_ret;exact⟨⟨_,rfl,.inl ⟨k,rfl,o.out,s.out⟩⟩,ze f (zk a _)⟩
     ·have Q:decide (q<=Za p S n k)=false:=decide_eq_false g2
      have s:Hid (¬ zbN p n S cl q k):=fun h=>g2 h.2
      clear g1 g2;go_wp2;go_roundw
      case rel=>exact⟨k+1,by omega,by go_num,fun j J=>by
       by_cases e:j=k
       ·subst e;exact s.out
       ·exact u.out j (by omega),zk a _⟩
      case measure=>simp[intOf];omega
    ·have P:(p.A k == cl)=false:=by simpa using g1
     have s:Hid (¬ zbN p n S cl q k):=fun h=>g1 h.1
     clear g1;go_wp2;go_roundw
     case rel=>exact⟨k+1,by omega,by go_num,fun j J=>by
      by_cases e:j=k
      ·subst e;exact s.out
      ·exact u.out j (by omega),zk a _⟩
     case measure=>simp[intOf];omega
   ·obtain rfl:k=m:=by omega
    go_wp2;go_ret;exact⟨⟨_,rfl,.inr ⟨rfl,.inr (fun j h=>u.out j (by have:=h.1;rw[x.out] at this;exact this) h.2.1)⟩⟩,ze f a⟩
theorem zlW (N bo:Option Addr)(m mc n c:Nat)(p:zH)(S:Nat->qN)(cl q:Int)(w:World)(U:p.n=m)(J:Qr p n S)(hx:zG w N p)(hz:qp w bo n S) :
  Calls Tryz.prog 168 #[.slice N m mc,.slice bo n c,int i64 cl,int i64 q] w fun e w'=>(∃ r:Int,e=.returned (int i64 r)/\RIx n p.n (zbD p n S cl q) r)/\Below w.heap.size w w':=by
 have B:=hI U;have X:=hI J;have M:=hI hx;have HZ:=hI hz;have a0:m<=6:=by rw[← U];exact J.1.1
 have H:n<=60:=J.2.1;clear U J hx hz
 by_cases h60:n=60
 ·have Q:(n == 60)=true:=by simpa using h60
  have R:((n:Int) == 60)=true:=by simp;omega
  have u:=hI h60;clear h60;go_enter Tryz.func168,Tryz.ntmps168;go_wp2;go_ret;exact⟨⟨_,rfl,.inr ⟨rfl,.inl u.out⟩⟩,bZ⟩
 ·have Q:(n == 60)=false:=by simpa using h60
  have R:((n:Int) == 60)=false:=by simp;omega
  have u:=hI h60;clear h60;go_enter Tryz.func168,Tryz.ntmps168;go_wp2_with fail;refine(zfo N bo m mc n c p S _ B.out X.out.1 H X.out.manys M.out HZ.out).mono ?_;rintro e w1 ⟨⟨v,rfl,s⟩,y⟩;obtain⟨aw,cw,rfl,_⟩:=zp s;have Y:=hI (zbo s);clear s;go_wp2;go_loopw [10,12,23] (fun v _ i wr=>∃ (k:Nat) (L:Bool),k<=m/\i=int i64 k/\v=.bool L/\(L=true↔∃ j,j<k/\p.A j=cl/\q<=p.B j)/\Below w1.heap.size w1 wr) (fun _ _ i _=>m - (intOf i).toNat)
  case atStart=>exact⟨0,false,Nat.zero_le _,rfl,rfl,⟨fun h=>(by cases h),fun ⟨j,C,_⟩=>(by omega)⟩,bZ⟩
  case round =>
   obtain⟨k,L,hk,rfl,rfl,hL,a⟩:=hrel;have l:=hI hL;clear hL
   by_cases hlt:k<m
   ·obtain⟨b,off,rfl,h1,h2⟩:=M.out k (by rw[B.out];exact hlt)
    have G:=World.block_lt_of_cell? w _ h1;have c1:=((ze y a).cell (p:=⟨b,off+k*2,none⟩) G).trans h1;have c2:=((ze y a).cell (p:=⟨b,off+k*2+1,none⟩) G).trans h2;clear h1 h2
    cases L with
    | true =>
     go_wp2;go_roundw
     case rel=>exact⟨k+1,true,by omega,by go_num,rfl,⟨fun _=>(by obtain⟨j,C,h⟩:=l.out.1 rfl;exact⟨j,by omega,h⟩),fun _=>rfl⟩,zk a _⟩
     case measure=>simp[intOf];omega
    | false =>
     have Z:Hid (¬ ∃ j,j<k/\p.A j=cl/\q<=p.B j):=fun h=>by have:=l.out.2 h;cases this
     clear l
     by_cases g1:p.A k=cl
     ·have O:(p.A k == cl)=true:=by simpa using g1
      by_cases g2:q<=p.B k
      ·have P:decide (q<=p.B k)=true:=decide_eq_true g2
       have E:Hid (p.A k=cl/\q<=p.B k):=⟨g1,g2⟩;clear g1 g2;go_wp2;go_roundw
       case rel=>exact⟨k+1,true,by omega,by go_num,rfl,⟨fun _=>⟨k,by omega,E.out⟩,fun _=>rfl⟩,zk a _⟩
       case measure=>simp[intOf];omega
      ·have P:decide (q<=p.B k)=false:=decide_eq_false g2
       have E:Hid (¬ (p.A k=cl/\q<=p.B k)):=fun h=>g2 h.2
       clear g1 g2;go_wp2;go_roundw
       case rel=>exact⟨k+1,false,by omega,by go_num,rfl,⟨fun h=>(by cases h),fun ⟨j,C,h⟩=>by
        by_cases e:j=k
        ·subst e;exact absurd h E.out
        ·exact absurd ⟨j,by omega,h⟩ Z.out⟩,zk a _⟩
       case measure=>simp[intOf];omega
     ·have O:(p.A k == cl)=false:=by simpa using g1
      have E:Hid (¬ (p.A k=cl/\q<=p.B k)):=fun h=>g1 h.1
      clear g1;go_wp2;go_roundw
      case rel=>exact⟨k+1,false,by omega,by go_num,rfl,⟨fun h=>(by cases h),fun ⟨j,C,h⟩=>by
       by_cases e:j=k
       ·subst e;exact absurd h E.out
       ·exact absurd ⟨j,by omega,h⟩ Z.out⟩,zk a _⟩
      case measure=>simp[intOf];omega
   ·obtain rfl:k=m:=by omega
    have F:Hid (L=true↔∃ j,j<p.n/\p.A j=cl/\q<=p.B j):=by rw[B.out];exact l.out
    have K:=hI (Y.out.below a);have o:=ze y a;clear l Y y a;generalize wr=V at *;go_wp2;go_loopw [13,14,43] (fun _ _ i wr=>∃ t:Nat,t<=k/\i=int i64 t/\(∀ j:Nat,j<t->¬ zbD p n S cl q j)/\Below V.heap.size V wr) (fun _ _ i _=>k - (intOf i).toNat)
    case atStart=>exact⟨0,Nat.zero_le _,rfl,fun j C=>by omega,bZ⟩
    case round =>
     obtain⟨t,ht,rfl,z,a⟩:=hrel;have D:=hI z;clear z
     by_cases hlt2:t<k
     ·obtain⟨b,off,rfl,h1,h2⟩:=M.out t (by rw[B.out];exact hlt2)
      have G:=World.block_lt_of_cell? w _ h1;have c1:=((ze o a).cell (p:=⟨b,off+t*2,none⟩) G).trans h1;have c2:=((ze o a).cell (p:=⟨b,off+t*2+1,none⟩) G).trans h2;obtain⟨b3,A,rfl,h3⟩:=K.out t hlt2;have T:=World.block_lt_of_cell? V _ h3;have d:=heap_alloc_new wr (.cells #[int i64 (p.A t),int i64 (p.B t)] 231);have f:=zk a (.cells #[int i64 (p.A t),int i64 (p.B t)] 231);clear h1 h2;go_upto_region 13 with fail;generalize hW:wr.alloc (.cells #[int i64 (p.A t),int i64 (p.B t)] 231)=W at d f ⊢;clear hW;have I:wr.heap.size<W.heap.size:=zM d;have z0:∀ g:zn W,g.val.cell? ⟨wr.heap.size,0,none⟩=some (int i64 (p.A t)):=fun g=>(g.bel.cell I).trans (za d 0 _ rfl)
      have z1:∀ g:zn W,g.val.cell? ⟨wr.heap.size,1,none⟩=some (int i64 (p.B t)):=fun g=>(g.bel.cell I).trans (za d 1 _ rfl)
      have y3:∀ g:zn W,g.val.cell? ⟨b3,A+t,none⟩=some (int i64 (Za p S n t)):=fun g=>((ze f g.bel).cell (p:=⟨b3,A+t,none⟩) T).trans h3
      have i1:(0:Int)<=(t:Int):=by omega
      have i2:(t:Int)<(k:Int):=by omega
      clear c1 c2 d a h3
      by_cases g1:p.A t=cl
      ·have O:(p.A t == cl)=true:=by simpa using g1
       by_cases g2:Za p S n t=p.B t
       ·have P:(Za p S n t == p.B t)=true:=by simpa using g2
        by_cases g3:q<=p.B t
        ·have e3:decide (q<=p.B t)=true:=decide_eq_true g3
         have x:Hid (ZH p.n (zbD p n S cl q) t):=⟨by rw[B.out];exact hlt2,⟨g1,g2,.inl g3⟩,D.out⟩
         clear g1 g2 g3;refine zh (by kernel_rfl) (by kernel_rfl) ?_
         repeat(first|go_big_quiet_skip|(go_big_quiet_want;go_big_quiet_op;go_big_quiet_on))
         refine wpQuiet_nil ?_;rintro _ ⟨g,rfl⟩;go_wp2;go_ret;exact⟨⟨_,rfl,.inl ⟨t,rfl,u.out,x.out⟩⟩,ze o (ze f g.bel)⟩
        ·have e3:decide (q<=p.B t)=false:=decide_eq_false g3
         cases L with
         | false =>
          have x:Hid (ZH p.n (zbD p n S cl q) t):=⟨by rw[B.out];exact hlt2,⟨g1,g2,.inr (fun h=>by have:=F.out.2 h;cases this)⟩,D.out⟩
          clear g1 g2 g3;refine zh (by kernel_rfl) (by kernel_rfl) ?_
          repeat(first|go_big_quiet_skip|(go_big_quiet_want;go_big_quiet_op;go_big_quiet_on))
          refine wpQuiet_nil ?_;rintro _ ⟨g,rfl⟩;go_wp2;go_ret;exact⟨⟨_,rfl,.inl ⟨t,rfl,u.out,x.out⟩⟩,ze o (ze f g.bel)⟩
         | true =>
          have x:Hid (¬ zbD p n S cl q t):=fun h=>by
           rcases h.2.2 with h|h
           ·exact g3 h
           ·exact h (F.out.1 rfl)
          clear g1 g2 g3;refine zh (by kernel_rfl) (by kernel_rfl) ?_
          repeat(first|go_big_quiet_skip|(go_big_quiet_want;go_big_quiet_op;go_big_quiet_on))
          refine wpQuiet_nil ?_;rintro _ ⟨g,rfl⟩;go_wp2;go_roundw
          case rel=>exact⟨t+1,by omega,by go_num,fun j C=>by
           by_cases e:j=t
           ·subst e;exact x.out
           ·exact D.out j (by omega),ze f g.bel⟩
          case measure=>simp[intOf];omega
       ·have P:(Za p S n t == p.B t)=false:=by simpa using g2
        have x:Hid (¬ zbD p n S cl q t):=fun h=>g2 h.2.1
        clear g1 g2;refine zh (by kernel_rfl) (by kernel_rfl) ?_
        repeat(first|go_big_quiet_skip|(go_big_quiet_want;go_big_quiet_op;go_big_quiet_on))
        refine wpQuiet_nil ?_;rintro _ ⟨g,rfl⟩;go_wp2;go_roundw
        case rel=>exact⟨t+1,by omega,by go_num,fun j C=>by
         by_cases e:j=t
         ·subst e;exact x.out
         ·exact D.out j (by omega),ze f g.bel⟩
        case measure=>simp[intOf];omega
      ·have O:(p.A t == cl)=false:=by simpa using g1
       have x:Hid (¬ zbD p n S cl q t):=fun h=>g1 h.1
       clear g1;refine zh (by kernel_rfl) (by kernel_rfl) ?_
       repeat(first|go_big_quiet_skip|(go_big_quiet_want;go_big_quiet_op;go_big_quiet_on))
       refine wpQuiet_nil ?_;rintro _ ⟨g,rfl⟩;go_wp2;go_roundw
       case rel=>exact⟨t+1,by omega,by go_num,fun j C=>by
        by_cases e:j=t
        ·subst e;exact x.out
        ·exact D.out j (by omega),ze f g.bel⟩
       case measure=>simp[intOf];omega
     ·obtain rfl:t=k:=by omega
      go_wp2;go_ret;exact⟨⟨_,rfl,.inr ⟨rfl,.inr (fun j h=>D.out j (by have:=h.1;rw[B.out] at this;exact this) h.2.1)⟩⟩,ze o a⟩
inductive qV (s:Zj) (w:Wk) (x:zY):Int->zY->Prop
 | noStay (r:Nat) (e:w.res=0) (g:w.goes=true) (h:r<x.stn) (q:(x.st r).who=w.who):qV s w x 0 (x.noStay r)
 | noRoom (r:Nat) (e:w.res=1) (g:w.goes=true) (h:r<x.ron) (q:(x.ro r).who=w.who):qV s w x 0 (x.noRoom r)
 | noSeat (r:Nat) (e:w.res=2) (g:w.goes=true) (h:r<x.sen) (q:(x.se r).who=w.who):qV s w x 0 (x.noSeat r)
 | addStay (k:Nat) (e:w.res=0) (g:w.goes=false) (h:zen s.la x.stn x.st w.p.len w.p.hei (k:Int)):qV s w x 0 (x.addStay ⟨w.who,(k:Int),w.p.len,w.p.hei⟩)
 | deck (e:w.res=0) (g:w.goes=false) (h:zen s.la x.stn x.st w.p.len w.p.hei (-1)):qV s w x 5 x
 | addWhole (k:Nat) (e:w.res=1) (g:w.goes=false) (a:w.p.all=true) (h:RIx x.ron s.ca.n (zbD s.ca x.ron x.ro w.p.cl w.p.pe) (k:Int)):qV s w x 0 (x.addRoom ⟨w.who,(k:Int),s.ca.B k,true⟩)
 | ZY (e:w.res=1) (g:w.goes=false) (a:w.p.all=true) (h:RIx x.ron s.ca.n (zbD s.ca x.ron x.ro w.p.cl w.p.pe) (-1)):qV s w x 6 x
 | addBerth (k:Nat) (e:w.res=1) (g:w.goes=false) (a:w.p.all=false) (h:RIx x.ron s.ca.n (zbN s.ca x.ron x.ro w.p.cl w.p.be) (k:Int)):qV s w x 0 (x.addRoom ⟨w.who,(k:Int),w.p.be,false⟩)
 | berth (e:w.res=1) (g:w.goes=false) (a:w.p.all=false) (h:RIx x.ron s.ca.n (zbN s.ca x.ron x.ro w.p.cl w.p.be) (-1)):qV s w x 6 x
 | addSeat (e:w.res=2) (g:w.goes=false) (hn:x.sen≠60) (hs:QN x.se x.sen+w.p.pe<=s.most):qV s w x 0 (x.addSeat ⟨w.who,w.p.pe⟩)
 | seats (e:w.res=2) (g:w.goes=false) (h:x.sen=60∨s.most<QN x.se x.sen+w.p.pe):qV s w x 7 x
theorem rIx_at {n m k:Nat}{P:Nat->Prop}(h:RIx n m P (k:Int)):n≠60/\ZH m P k:=by
 rcases h with⟨j,e,a,b⟩|⟨e,_⟩
 ·obtain rfl:k=j:=by omega
  exact⟨a,b⟩
 ·omega
theorem znq {p:zH}{n k:Nat}{S:Nat->Zp}{len hei:Int}(h:zen p n S len hei (k:Int)):n≠60/\zba p (QW p S n) len hei k:=by
 rcases h with⟨j,e,a,b⟩|⟨e,_⟩
 ·obtain rfl:k=j:=by omega
  exact⟨a,b⟩
 ·omega
theorem zcO {n m:Nat}{P:Nat->Prop}{r g:Int}(h:RIx n m P r)(i:RIx n m P g):r=g:=by
 rcases h with⟨j,e,a,b⟩|⟨e,a⟩ <;> rcases i with⟨k,f,d,b'⟩|⟨f,d⟩
 ·rw[e,f,zgu b b']
 ·rcases d with c|c
  ·exact absurd c a
  ·exact absurd b (c j)
 ·rcases a with c|c
  ·exact absurd c d
  ·exact absurd b' (c k)
 ·rw[e,f]
theorem ziM (n m:Nat)(P:Nat->Prop):∃ r,RIx n m P r:=by
 by_cases h:n≠60/\∃ k,ZH m P k
 ·obtain⟨h1,k,h2⟩:=h
  exact⟨k,.inl ⟨k,rfl,h1,h2⟩⟩
 ·refine⟨-1,.inr ⟨rfl,?_⟩⟩
  by_cases c:n=60
  ·exact .inl c
  ·exact .inr (fun k a=>h ⟨c,k,a⟩)
theorem zcP {p:zH}{n:Nat}{S:Nat->Zp}{len hei r g:Int}(h:zen p n S len hei r)(i:zen p n S len hei g):r=g:=by
 rcases h with⟨j,e,a,b⟩|⟨e,a⟩ <;> rcases i with⟨k,f,d,b'⟩|⟨f,d⟩
 ·rw[e,f,zex b b']
 ·rcases d with c|c
  ·exact absurd c a
  ·exact absurd b (c j)
 ·rcases a with c|c
  ·exact absurd c d
  ·exact absurd b' (c k)
 ·rw[e,f]
theorem zkx (p:zH)(n:Nat)(S:Nat->Zp)(len hei:Int):∃ r,zen p n S len hei r:=by
 by_cases h:n≠60/\∃ k,zba p (QW p S n) len hei k
 ·obtain⟨h1,k,h2⟩:=h
  exact⟨k,.inl ⟨k,rfl,h1,h2⟩⟩
 ·refine⟨-1,.inr ⟨rfl,?_⟩⟩
  by_cases c:n=60
  ·exact .inl c
  ·exact .inr (fun k a=>h ⟨c,k,a⟩)
def ComesOk (w:Wk)(x:zY):Prop:=w.goes=false->In w.who 1 9999/\qI w.p/\zaI w.p.len w.p.cl w.res=true/\¬ zfn x w.res w.who
theorem qV.on {s:Zj}{w:Wk}{x y:zY}{code:Int}(h:qV s w x code y)(m:qm s x)(i:ComesOk w x):(code=0/\zbO s w x y)∨(In code 5 7/\y=x):=by
 cases h with
 | noStay r e g h q=>exact .inl ⟨rfl,.noStay r e g h q⟩
 | noRoom r e g h q=>exact .inl ⟨rfl,.noRoom r e g h q⟩
 | noSeat r e g h q=>exact .inl ⟨rfl,.noSeat r e g h q⟩
 | deck e g h=>exact .inr ⟨by unfold In;omega,rfl⟩
 | ZY e g a h=>exact .inr ⟨by unfold In;omega,rfl⟩
 | berth e g a h=>exact .inr ⟨by unfold In;omega,rfl⟩
 | seats e g h=>exact .inr ⟨by unfold In;omega,rfl⟩
 | addStay k e g h =>
  obtain⟨h1,h2,h3,b⟩:=i g;have j:=znq h;rw[e] at h3 b;have l:0<w.p.len:=by simpa [zaI] using h3
  have f:zbA w.p.len w.p.hei:=by rcases h2.2.1 with c|c;omega;exact c
  exact .inl ⟨rfl,.addStay k e g ⟨(QO _ _ _).1 m.1,j.1,b,h1,f.1,f.2,j.2⟩⟩
 | addWhole k e g a h =>
  obtain⟨h1,h2,h3,b⟩:=i g;obtain⟨n,d⟩:=rIx_at h;rw[e] at h3 b;refine .inl ⟨rfl,.addRoom _ e g rfl h1 b ⟨?_,fun _=>⟨d.2.1.2.1,rfl⟩,fun h=>(by cases h)⟩⟩
  have:=d.1;unfold In
  show(0:Int)<=(k:Int)/\(k:Int)<=(s.ca.n:Int) - 1
  omega
 | addBerth k e g a h =>
  obtain⟨h1,h2,h3,b⟩:=i g;obtain⟨n,d⟩:=rIx_at h;rw[e] at h3 b;have l:0<w.p.cl:=by simpa [zaI] using h3
  have f:zfN w.p.cl w.p.all w.p.be:=by rcases h2.2.2 with c|c;omega;exact c
  refine .inl ⟨rfl,.addRoom _ e g rfl h1 b ⟨?_,fun h=>(by cases h),fun _=>?_⟩⟩
  ·have:=d.1
   unfold In
   show(0:Int)<=(k:Int)/\(k:Int)<=(s.ca.n:Int) - 1
   omega
  ·rcases f.2 with⟨c,_⟩|⟨_,c⟩
   ·rw[a] at c;cases c
   ·exact⟨c.1,d.2.1.2⟩
 | addSeat e g hn hs =>
  obtain⟨h1,h2,h3,b⟩:=i g;rw[e] at h3 b;exact .inl ⟨rfl,.addSeat _ e g rfl hn h1 h2.1 b hs⟩
section
open Go.RowKit
theorem znr (S:Nat->Qe)(n:Nat)(x many:Int):QN (Ze S n x many) (n+1)=QN S n+many:=by
 unfold Ze;rw[QN,zfi n (fun j a=>zcv a),zdT]
section
variable {s : Zj} {v : Wk} {l : zY} {w' : World} {base t : Nat} {e : Ending}
theorem placeW (g:qm s l)(hr:v.res=0)(f:v.goes=false)(n:In v.who 1 9999)(d:zbA v.p.len v.p.hei)(j:¬ Has (Qc l.st) l.stn v.who)(h:zgf w' base t s.la l.stn l.st v.who v.p.len v.p.hei e) :
  (∃ (k:Nat) (u:Value),e=.returned (.tuple #[u,int i64 (k:Int),.bool true])/\qV s v l 0 (l.addStay ⟨v.who,(k:Int),v.p.len,v.p.hei⟩)/\w'.ownsRow base t 4 u (l.stn+1) (zy (l.addStay ⟨v.who,(k:Int),v.p.len,v.p.hei⟩).st (l.stn+1))) ∨
  (∃ (u:Value) (z:Int),e=.returned (.tuple #[u,int i64 z,.bool false])/\qV s v l 5 l/\w'.ownsRow base t 4 u 0 []):=by
 obtain⟨u,rfl,a⟩:=h;have i:=(QO _ _ _).1 g.1
 cases hp:zbY s.la l.stn l.st v.who v.p.len v.p.hei with
 | some k =>
  have b:=zkk hp;unfold zaC zgI zdR zkl at *;unfold zaC at a;rw[hp] at a ⊢;exact .inl ⟨k,u,rfl,.addStay k hr f (.inl ⟨k,rfl,b.2.1,b.2.2.2.2.2.2⟩),a⟩
 | none =>
  unfold zaC zgI zdR zkl at *;unfold zaC at a;rw[hp] at a ⊢;refine .inr ⟨u,0,rfl,.deck hr f (.inr ⟨rfl,?_⟩),a⟩
  by_cases c:l.stn=60
  ·exact .inl c
  ·refine .inr fun k m=>?_
   rw[zgH (k:=k) ⟨i,c,j,n,d.1,d.2,m⟩] at hp
   cases hp
theorem wholeW (g:qm s l)(hr:v.res=1)(f:v.goes=false)(d:v.p.all=true)(o:In v.who 1 9999)(i:In v.p.cl 1 3)(n:In v.p.pe 1 20)(j:¬ Has (ZV l.ro) l.ron v.who)(h:zgc w' base t s.ca l.ron l.ro v.who v.p.cl v.p.pe e) :
  (∃ (k:Nat) (u:Value),e=.returned (.tuple #[u,int i64 (k:Int),.bool true])/\qV s v l 0 (l.addRoom ⟨v.who,(k:Int),s.ca.B k,true⟩)/\w'.ownsRow base t 4 u (l.ron+1) (zw (l.addRoom ⟨v.who,(k:Int),s.ca.B k,true⟩).ro (l.ron+1))) ∨
  (∃ (u:Value) (z:Int),e=.returned (.tuple #[u,int i64 z,.bool false])/\qV s v l 6 l/\w'.ownsRow base t 4 u 0 []):=by
 obtain⟨u,rfl,a⟩:=h
 cases hp:zdr s.ca l.ron l.ro v.who v.p.cl v.p.pe with
 | some k =>
  have b:=zgv hp;unfold zcK zgw zdM zdN at *;unfold zcK at a;rw[hp] at a ⊢;exact .inl ⟨k,u,rfl,.addWhole k hr f d (.inl ⟨k,rfl,b.1.1.2.1,b.2⟩),a⟩
 | none =>
  unfold zcK zgw zdM zdN at *;unfold zcK at a;rw[hp] at a ⊢;refine .inr ⟨u,0,rfl,.whole hr f d (.inr ⟨rfl,?_⟩),a⟩
  by_cases c:l.ron=60
  ·exact .inl c
  ·refine .inr fun k m=>?_
   have:=zdL (G:=zmA s.ca l.ron l.ro v.who v.p.cl v.p.pe) ⟨⟨g.2.1,c,j,o⟩,i,n⟩ m;unfold zdr at hp;rw[this] at hp
   cases hp
theorem berthW (g:qm s l)(hr:v.res=1)(f:v.goes=false)(d:v.p.all=false)(o:In v.who 1 9999)(i:In v.p.cl 1 3)(n:In v.p.be 1 4)(j:¬ Has (ZV l.ro) l.ron v.who)(h:zgd w' base t s.ca l.ron l.ro v.who v.p.cl v.p.be e) :
  (∃ (k:Nat) (u:Value),e=.returned (.tuple #[u,int i64 (k:Int),.bool true])/\qV s v l 0 (l.addRoom ⟨v.who,(k:Int),v.p.be,false⟩)/\w'.ownsRow base t 4 u (l.ron+1) (zw (l.addRoom ⟨v.who,(k:Int),v.p.be,false⟩).ro (l.ron+1))) ∨
  (∃ (u:Value) (z:Int),e=.returned (.tuple #[u,int i64 z,.bool false])/\qV s v l 6 l/\w'.ownsRow base t 4 u 0 []):=by
 obtain⟨u,rfl,a⟩:=h
 cases hp:zej s.ca l.ron l.ro v.who v.p.cl v.p.be with
 | some k =>
  have b:=zgv hp;unfold zcL zgy zdO zdP at *;unfold zcL at a;rw[hp] at a ⊢;exact .inl ⟨k,u,rfl,.addBerth k hr f d (.inl ⟨k,rfl,b.1.1.2.1,b.2⟩),a⟩
 | none =>
  unfold zcL zgy zdO zdP at *;unfold zcL at a;rw[hp] at a ⊢;refine .inr ⟨u,0,rfl,.berth hr f d (.inr ⟨rfl,?_⟩),a⟩
  by_cases c:l.ron=60
  ·exact .inl c
  ·refine .inr fun k m=>?_
   have:=zdL (G:=zmB s.ca l.ron l.ro v.who v.p.cl v.p.be) ⟨⟨g.2.1,c,j,o⟩,i,n⟩ m;unfold zej at hp;rw[this] at hp
   cases hp
theorem seatW (b:qm s l)(hr:v.res=2)(d:v.goes=false)(j:In v.who 1 9999)(i:In v.p.pe 1 20)(g:¬ Has (zag l.se) l.sen v.who)(h:zge w' base t s.most l.sen l.se v.who v.p.pe e) :
  (∃ u:Value,e=.returned (.tuple #[u,.bool true])/\qV s v l 0 (l.addSeat ⟨v.who,v.p.pe⟩)/\w'.ownsRow base t 2 u (l.sen+1) (zB (l.addSeat ⟨v.who,v.p.pe⟩).se (l.sen+1))) ∨
  (∃ u:Value,e=.returned (.tuple #[u,.bool false])/\qV s v l 7 l/\w'.ownsRow base t 2 u 0 []):=by
 obtain⟨u,rfl,a⟩:=h
 by_cases hT:zck s.most l.sen l.se v.who v.p.pe
 ·unfold zdQ at a
  rw[zel hT] at a ⊢;have h2:=hT.2;have f:QN (Ze l.se l.sen v.who v.p.pe) (l.sen+1)=QN l.se l.sen+v.p.pe:=znr _ _ _ _;refine .inl ⟨u,rfl,.addSeat hr d (by have:=h2.2.1;omega) (by have:=h2.2.2.2;rw[f] at this;exact this),a⟩
 ·unfold zdQ at a
  rw[zfh hT] at a ⊢;refine .inr ⟨u,rfl,.seats hr d ?_,a⟩
  by_cases c:l.sen=60
  ·exact .inl c
  ·by_cases c2:QN l.se l.sen+v.p.pe<=s.most
   ·exact absurd ⟨b.2.2,(b.addSeat (r:=⟨v.who,v.p.pe⟩) c j i g c2).2.2⟩ hT
   ·exact .inr (by omega)
end
end
end Go.Proofs.YtmdnjgihooflfaaGreatDoor
