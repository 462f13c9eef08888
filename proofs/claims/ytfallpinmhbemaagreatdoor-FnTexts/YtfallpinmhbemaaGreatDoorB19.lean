/-
  OWN TEXT: SpecR, SpecW0, PlainWi, SpecSt, SpecNf.
-/
import Derived.Deep.DeepCutAuto
import Derived.Deep.LoopGhost
import Derived.Test.YtfallpinmhbemaaGreatDoorB18
import Derived.Test.YtfallpinmhbemaaGreatDoorB17
namespace Go.Proofs.YtfallpinmhbemaaGreatDoor
open Go.RowKit
open Go.Value (int)
open Go.IntKind (i64)
set_option maxHeartbeats 64000000
set_option maxRecDepth 100000
theorem zaq (m:Option Addr)(n c:Nat)(S:Nat->ZF)(x:Int)(w:World)(hn:n<=1048576)(v:Zm w m n S) :
  Calls Tryz.prog 133 #[.slice m n c,int i64 x] w fun e w'=>SaysIf (Has (zaW S) n x) e/\Below w.heap.size w w':=by
 go_enter Tryz.func133,Tryz.ntmps133;go_wp2;go_loopw [6,9] (fun _ i y=>∃ k:Nat,k<=n/\i=int i64 k/\(∀ j,j<k->zaW S j≠x)/\Below w.heap.size w y) (fun _ i _=>n - (intOf i).toNat)
 case atStart=>exact⟨0,Nat.zero_le _,rfl,fun j u=>by omega,bZ⟩
 case round =>
  obtain⟨k,hk,rfl,d,a⟩:=hrel;have l:=hI d;clear d
  by_cases hlt2:k<n
  ·obtain⟨b,off,rfl,h,o,q,r⟩:=v k hlt2
   have f:=World.block_lt_of_cell? w _ h;have c0:=(a.cell (p:=⟨b,off+k*4,none⟩) f).trans h;have c1:=(a.cell (p:=⟨b,off+k*4+1,none⟩) f).trans o;have c2:=(a.cell (p:=⟨b,off+k*4+2,none⟩) f).trans q;have c3:=(a.cell (p:=⟨b,off+k*4+3,none⟩) f).trans r;clear h o q r
   by_cases he:zaW S k=x
   ·have t:((S k).who == x)=true:=by unfold zaW at he;simpa using he
    have g:Hid (Has (zaW S) n x):=⟨k,hlt2,he⟩;clear he;go_wp2;go_ret;exact⟨says_yes g.out,zr a _⟩
   ·have t:((S k).who == x)=false:=by unfold zaW at he;simpa using he
    have s:=hI he;clear he;go_wp2;go_roundw
    case rel=>exact⟨k+1,by omega,by go_num,fun j u=>by
     by_cases e:j=k
     ·subst e;exact s.out
     ·exact l.out j (by omega),zr a _⟩
    case measure=>simp[intOf];omega
  ·obtain rfl:k=n:=by omega
   have g:=hI (zgL l.out);go_wp2;go_ret;exact⟨zC g.out,a⟩
theorem zcp (I J:Option Addr)(m mc n c:Nat)(p:qi)(S:Nat->ZF)(w:World)(hl:p.n=m)(A:zgR p)(hn:n<=60)(P:∀ j,j<n->In (S j).many 1 4)(R:qd w I p)(T:Zm w J n S) :
  Calls Tryz.prog 134 #[.slice I m mc,.slice J n c] w fun e w'=>(∃ v,e=.returned v/\w'.ownsRow w.heap.size 3 1 v m (zJ (qW p S n) m))/\Below w.heap.size w w':=by
 obtain⟨j0,ji,D,E,F⟩:=info_parts Tryz.infoInt;have G:=hI hl;have W:=hI A;have H:=hI P;have X:=hI R;have Y:=hI T;have a0:m<=6:=by rw[← hl];exact A.1
 clear hl A P R T;go_enter Tryz.func134,Tryz.ntmps134;go_wp2;go_loopw [5,6,7,8,10,13,20,21,22] (fun v _ _ _ _ i _ _ _ s=>∃ k:Nat,k<=m/\i=int i64 k/\s.ownsRow w.heap.size 3 1 v k (zJ (qW p S n) k)/\Below w.heap.size w s) (fun _ _ _ _ _ i _ _ _ _=>m - (intOf i).toNat)
 case atStart=>exact⟨0,Nat.zero_le _,rfl,⟨rfl,.inl ⟨rfl,rfl⟩⟩,bZ⟩
 case round =>
  obtain⟨k,hk,rfl,l,f⟩:=hrel
  by_cases hlt:k<m
  ·obtain⟨b,off,rfl,q,r⟩:=X.out k (by rw[G.out];exact hlt)
   have N:=World.block_lt_of_cell? w _ q;have K:=(f.cell (p:=⟨b,off+k*2,none⟩) N).trans q;have L:=(f.cell (p:=⟨b,off+k*2+1,none⟩) N).trans r;clear q r;go_wp2;go_loopw [8,10,22] (fun s8 _ i U=>∃ t:Nat,t<=n/\i=int i64 t/\s8=int i64 (qW p S t k)/\U.ownsRow w.heap.size 3 1 u5 k (zJ (qW p S n) k)/\Below w.heap.size w U) (fun _ _ i _=>n - (intOf i).toNat)
   case atStart=>exact⟨0,Nat.zero_le _,rfl,by rw[zgQ],zm (zr bZ _) l,zr f _⟩
   case round =>
    obtain⟨t,ht,rfl,rfl,d,a⟩:=hrel;clear l f K L
    by_cases hlt2:t<n
    ·obtain⟨b2,g,rfl,z,q,r,M⟩:=Y.out t hlt2
     have o:=World.block_lt_of_cell? w _ z;have c0:=(a.cell (p:=⟨b2,g+t*4,none⟩) o).trans z;have K:=(a.cell (p:=⟨b2,g+t*4+1,none⟩) o).trans q;have L:=(a.cell (p:=⟨b2,g+t*4+2,none⟩) o).trans r;have c3:=(a.cell (p:=⟨b2,g+t*4+3,none⟩) o).trans M;clear z q r M
     by_cases he:(S t).cab=(k:Int)
     ·have Z:((S t).cab == (k:Int))=true:=by simpa using he
      have x:=hI he;have a2:IntKind.i64.wrap (qW p S t k - (S t).many)=qW p S t k - (S t).many:=by
       have q:=zfQ W.out (show t<=60 by omega) (fun j O=>H.out j (by omega)) (show k<p.n by rw[G.out];exact hlt)
       have r:=H.out t hlt2;unfold In at r;rw[IntKind.wrap_i64];omega
      clear he;go_wp2;go_roundw
      case rel=>exact⟨t+1,by omega,by go_num,by rw[zbL p S t k x.out],zm (zr bZ _) d,zr a _⟩
      case measure=>simp[intOf];omega
     ·have Z:((S t).cab == (k:Int))=false:=by simpa using he
      have x:=hI he;clear he;go_wp2;go_roundw
      case rel=>exact⟨t+1,by omega,by go_num,by rw[zeK p S t k x.out],zm (zr bZ _) d,zr a _⟩
      case measure=>simp[intOf];omega
    ·obtain rfl:t=n:=by omega
     have a1:=a.size;have V:Hid (∀ y,(some ⟨s.heap.size,0,none⟩:Option Addr)=some y->∀ j u,[Value.int .i64 (qW p S t k)][j]?=some u->(s.alloc (.cells #[int i64 (qW p S t k)] 3)).cell? (y.add j)=some u):=by
      intro y e
      cases e
      exact World.news_of_block (heap_alloc_new s _)
     go_wp2_with (first|(at_builtin;refine zz _ (by rfl) (.tmp 35) (.tmp 37) 23 (by rfl) w.heap.size 3 j0 (int i64 0) 1 8 Tryz.underlying23 ji D E F rfl (by decide) _ k (zJ (qW p S t) k) (by rfl) (d.alloc _) (some ⟨s.heap.size,0,none⟩) 1 1 [int i64 (qW p S t k)] (by rfl) (fun h=>(by cases h)) (by rfl) V.out (by intro u Q;simp at Q;subst Q;rfl) (by unfold maxLen;omega) (by omega) (by simp;omega) ?_;intro v' w3 C B))
     go_roundw
     case rel=>exact⟨k+1,by omega,by go_num,by rw[intList_succ];exact C,(zr a _).grown B (by simp;omega) (fun j O=>(d.lt j O).1)⟩
     case measure=>simp[intOf];omega
  ·obtain rfl:k=m:=by omega
   go_wp2;go_ret;exact⟨⟨_,rfl,l⟩,f⟩
theorem zeT (ao bo:Option Addr)(m mc n c:Nat)(p:qi)(S:Nat->ZF)(w:World)(hl:p.n=m)(hm:m<=1048576)(hn:n<=1048576)(hc:n<=c)(hx:qd w ao p)(hz:Zm w bo n S) :
  Calls Tryz.prog 113 #[.slice ao m mc,.slice bo n c] w fun e w'=>SaysIf (QL p n S) e/\Below w.heap.size w w':=by
 have J:=hI hl;have HX:=hI hx;have G:=hI hz;clear hl hx hz;go_enter Tryz.func113,Tryz.ntmps113;go_wp2_with fail;refine(zgc ao m mc p _ J.out hm HX.out).mono ?_;rintro e w1 ⟨⟨q,rfl,hq⟩,H⟩
 cases q with
 | false =>
  have V:Hid (¬ zgR p):=fun h=>by have:=hq.2 h;cases this
  clear hq;go_wp2;go_ret;exact⟨zC (fun h=>V.out h.1),H⟩
 | true =>
  have V:Hid (zgR p):=hq.1 rfl;have b7:m<=6:=by rw[← J.out];exact V.out.1
  clear hq
  by_cases h60:n<=60
  ·have d0:decide (60<n)=false:=by simp;omega
   have b8:IntKind.i64.wrap ((m:Int) - 1)=(m:Int) - 1:=by rw[IntKind.wrap_i64];omega
   go_wp2;go_loopw [5,6,8,21,70,71,72] (fun _ _ _ i _ _ _ T=>∃ k:Nat,k<=n/\i=int i64 k/\(∀ j,j<k->OkR p S j)/\Below w.heap.size w T) (fun _ _ _ i _ _ _ _=>n - (intOf i).toNat)
   case atStart=>exact⟨0,Nat.zero_le _,rfl,fun j C=>by omega,H⟩
   case round =>
    obtain⟨i,z,rfl,d,f⟩:=hrel;have HA:=hI d;clear d H
    by_cases hlt:i<n
    ·obtain⟨b,off,rfl,O,h1,h2,h3⟩:=G.out i hlt
     have K:=World.block_lt_of_cell? w _ O;have c0:=(f.cell (p:=⟨b,off+i*4,none⟩) K).trans O;have c1:=(f.cell (p:=⟨b,off+i*4+1,none⟩) K).trans h1;have c2:=(f.cell (p:=⟨b,off+i*4+2,none⟩) K).trans h2;have c3:=(f.cell (p:=⟨b,off+i*4+3,none⟩) K).trans h3;have u:=heap_alloc_new T (.cells #[int i64 (S i).who,int i64 (S i).cab,int i64 (S i).many,.bool (S i).all] 190);have r:=zr f (.cells #[int i64 (S i).who,int i64 (S i).cab,int i64 (S i).many,.bool (S i).all] 190);clear O h1 h2 h3;go_upto_region 6 with fail;generalize hW:T.alloc (.cells #[int i64 (S i).who,int i64 (S i).cab,int i64 (S i).many,.bool (S i).all] 190)=W at u r ⊢;clear hW;have I:T.heap.size<W.heap.size:=zZ u;have x:=hI u;generalize T.heap.size=B at *;clear c0 c1 c2 c3 u f;have i1:(0:Int)<=(i:Int):=by omega
     have i2:(i:Int)<=(c:Int):=by omega
     go_cut [67] (fun a8 wx=>Tells (OkR0 p S i) a8/\Below W.heap.size W wx)
     case first =>
      have z0:∀ g:qe W,g.val.cell? ⟨B,0,none⟩=some (int i64 (S i).who):=fun g=>(g.bel.cell I).trans (za x.out 0 _ rfl)
      have z1:∀ g:qe W,g.val.cell? ⟨B,1,none⟩=some (int i64 (S i).cab):=fun g=>(g.bel.cell I).trans (za x.out 1 _ rfl)
      have z2:∀ g:qe W,g.val.cell? ⟨B,2,none⟩=some (int i64 (S i).many):=fun g=>(g.bel.cell I).trans (za x.out 2 _ rfl)
      have z3:∀ g:qe W,g.val.cell? ⟨B,3,none⟩=some (.bool (S i).all):=fun g=>(g.bel.cell I).trans (za x.out 3 _ rfl)
      by_cases g1:In (S i).who 1 9999
      ·have y:decide (In (S i).who 1 9999)=true:=decide_eq_true g1
       have H1:=hI g1;clear g1
       by_cases g2:Has (zaW S) i (S i).who
       ·have E:=hI g2
        clear g2;refine zp (by kernel_rfl) (by kernel_rfl) ?_
        repeat(first|go_big_quiet_skip|(go_big_quiet_want;go_big_quiet_op;first|go_big_quiet_on|(apply Exists.intro;refine⟨fun g=>?_,?_⟩;(focus(first|(go_at_call 119;refine zi (v:=.bool true) ((ZE _ _).mono ?_);rintro e s ⟨rfl,rfl⟩;exact⟨by rw[y],bZ⟩)|(go_at_call 133;refine zi (v:=.bool true) ((zaq _ i c S (S i).who _ (by omega) ((G.out.upto (by omega)).below (zj r g.bel))).mono ?_);rintro e s ⟨⟨Y,rfl,z⟩,o⟩;obtain rfl:=z.2 E.out;exact⟨rfl,o⟩)));go_big_quiet_on)))
        refine wpQuiet_nil ?_;rintro _ ⟨g,rfl⟩;go_wp2;go_meet;exact⟨tells_bad (fun h=>h.2.1 E.out),g.bel⟩
       ·have E:=hI g2
        clear g2
        by_cases g3:In (S i).cab 0 ((m:Int) - 1)
        ·have H3:Hid (In (S i).cab 0 ((p.n:Int) - 1)):=by rw[J.out];exact g3
         obtain⟨l,hl⟩:∃ l:Nat,(S i).cab=l:=⟨(S i).cab.toNat,by unfold In at g3;omega⟩
         have b0:l<m:=by unfold In at g3;omega
         have X:=hI hl;have U:decide (In (l:Int) 0 ((m:Int) - 1))=true:=decide_eq_true (by rw[← hl];exact g3)
         have b9:∀ g:qe W,g.val.cell? ⟨B,1,none⟩=some (int i64 (l:Int)):=fun g=>by rw[z1 g,hl]
         obtain⟨b',L,rfl,k1,k2⟩:=HX.out l (by rw[J.out];exact b0)
         have a9:=World.block_lt_of_cell? w _ k1;have y2:∀ g:qe W,g.val.cell? ⟨b',L+l*2+1,none⟩=some (int i64 (p.B l)):=fun g=>((zj r g.bel).cell (p:=⟨b',L+l*2+1,none⟩) a9).trans k2
         have l1:(0:Int)<=(l:Int):=by omega
         have l2:(l:Int)<(m:Int):=by omega
         clear g3 z1 hl k1 k2
         by_cases g4:In (S i).many 1 4
         ·have Z:decide (In (S i).many 1 4)=true:=decide_eq_true g4
          have H4:=hI g4;clear g4
          cases d:(S i).all with
          | false =>
           rw[d] at z3;have H5:=hI d;clear d;refine zp (by kernel_rfl) (by kernel_rfl) ?_
           repeat(first|go_big_quiet_skip|(go_big_quiet_want;go_big_quiet_op;first|go_big_quiet_on|(apply Exists.intro;refine⟨fun g=>?_,?_⟩;(focus(first|(go_at_call 119;refine zi (v:=.bool true) ((ZE _ _).mono ?_);rintro e s ⟨rfl,rfl⟩;exact⟨by rw[y],bZ⟩)|(go_at_call 133;refine zi (v:=.bool false) ((zaq _ i c S (S i).who _ (by omega) ((G.out.upto (by omega)).below (zj r g.bel))).mono ?_);rintro e s ⟨⟨Y,rfl,z⟩,o⟩;obtain rfl:=Bool.eq_false_iff.2 (fun e=>E.out (z.1 e));exact⟨rfl,o⟩)|(go_at_call 19;first|(refine zi (v:=.bool true) ((zx _ _ _ _).mono ?_);rintro e s ⟨rfl,rfl⟩;exact⟨by rw[U],bZ⟩)|(refine zi (v:=.bool true) ((zx _ _ _ _).mono ?_);rintro e s ⟨rfl,rfl⟩;exact⟨by rw[Z],bZ⟩))));go_big_quiet_on)))
           refine wpQuiet_nil ?_;rintro _ ⟨g,rfl⟩;go_wp2;go_meet;exact⟨tells_good ⟨H1.out,E.out,H3.out,H4.out,fun h=>by rw[H5.out] at h;cases h⟩,g.bel⟩
          | true =>
           rw[d] at z3;have H5:=hI d;clear d
           by_cases g6:(S i).many=p.B l
           ·have e6:((S i).many == p.B l)=true:=by simpa using g6
            have e7:((S i).many != p.B l)=false:=by simpa using g6
            have H6:=hI g6;clear g6;refine zp (by kernel_rfl) (by kernel_rfl) ?_
            repeat(first|go_big_quiet_skip|(go_big_quiet_want;go_big_quiet_op;first|go_big_quiet_on|(apply Exists.intro;refine⟨fun g=>?_,?_⟩;(focus(first|(go_at_call 119;refine zi (v:=.bool true) ((ZE _ _).mono ?_);rintro e s ⟨rfl,rfl⟩;exact⟨by rw[y],bZ⟩)|(go_at_call 133;refine zi (v:=.bool false) ((zaq _ i c S (S i).who _ (by omega) ((G.out.upto (by omega)).below (zj r g.bel))).mono ?_);rintro e s ⟨⟨Y,rfl,z⟩,o⟩;obtain rfl:=Bool.eq_false_iff.2 (fun e=>E.out (z.1 e));exact⟨rfl,o⟩)|(go_at_call 19;first|(refine zi (v:=.bool true) ((zx _ _ _ _).mono ?_);rintro e s ⟨rfl,rfl⟩;exact⟨by rw[U],bZ⟩)|(refine zi (v:=.bool true) ((zx _ _ _ _).mono ?_);rintro e s ⟨rfl,rfl⟩;exact⟨by rw[Z],bZ⟩))));go_big_quiet_on)))
            refine wpQuiet_nil ?_;rintro _ ⟨g,rfl⟩;go_wp2;go_meet;exact⟨tells_good ⟨H1.out,E.out,H3.out,H4.out,fun _=>by rw[X.out];exact H6.out⟩,g.bel⟩
           ·have e6:((S i).many == p.B l)=false:=by simpa using g6
            have e7:((S i).many != p.B l)=true:=by simpa using g6
            have H6:=hI g6;clear g6;refine zp (by kernel_rfl) (by kernel_rfl) ?_
            repeat(first|go_big_quiet_skip|(go_big_quiet_want;go_big_quiet_op;first|go_big_quiet_on|(apply Exists.intro;refine⟨fun g=>?_,?_⟩;(focus(first|(go_at_call 119;refine zi (v:=.bool true) ((ZE _ _).mono ?_);rintro e s ⟨rfl,rfl⟩;exact⟨by rw[y],bZ⟩)|(go_at_call 133;refine zi (v:=.bool false) ((zaq _ i c S (S i).who _ (by omega) ((G.out.upto (by omega)).below (zj r g.bel))).mono ?_);rintro e s ⟨⟨Y,rfl,z⟩,o⟩;obtain rfl:=Bool.eq_false_iff.2 (fun e=>E.out (z.1 e));exact⟨rfl,o⟩)|(go_at_call 19;first|(refine zi (v:=.bool true) ((zx _ _ _ _).mono ?_);rintro e s ⟨rfl,rfl⟩;exact⟨by rw[U],bZ⟩)|(refine zi (v:=.bool true) ((zx _ _ _ _).mono ?_);rintro e s ⟨rfl,rfl⟩;exact⟨by rw[Z],bZ⟩))));go_big_quiet_on)))
            refine wpQuiet_nil ?_;rintro _ ⟨g,rfl⟩;go_wp2;go_meet;exact⟨tells_bad (fun h=>H6.out (by have:=h.2.2.2.2 H5.out;rw[X.out] at this;exact this)),g.bel⟩
         ·have Z:decide (In (S i).many 1 4)=false:=decide_eq_false g4
          have H4:=hI g4;clear g4;refine zp (by kernel_rfl) (by kernel_rfl) ?_
          repeat(first|go_big_quiet_skip|(go_big_quiet_want;go_big_quiet_op;first|go_big_quiet_on|(apply Exists.intro;refine⟨fun g=>?_,?_⟩;(focus(first|(go_at_call 119;refine zi (v:=.bool true) ((ZE _ _).mono ?_);rintro e s ⟨rfl,rfl⟩;exact⟨by rw[y],bZ⟩)|(go_at_call 133;refine zi (v:=.bool false) ((zaq _ i c S (S i).who _ (by omega) ((G.out.upto (by omega)).below (zj r g.bel))).mono ?_);rintro e s ⟨⟨Y,rfl,z⟩,o⟩;obtain rfl:=Bool.eq_false_iff.2 (fun e=>E.out (z.1 e));exact⟨rfl,o⟩)|(go_at_call 19;first|(refine zi (v:=.bool true) ((zx _ _ _ _).mono ?_);rintro e s ⟨rfl,rfl⟩;exact⟨by rw[U],bZ⟩)|(refine zi (v:=.bool false) ((zx _ _ _ _).mono ?_);rintro e s ⟨rfl,rfl⟩;exact⟨by rw[Z],bZ⟩))));go_big_quiet_on)))
          refine wpQuiet_nil ?_;rintro _ ⟨g,rfl⟩;go_wp2;go_meet;exact⟨tells_bad (fun h=>H4.out h.2.2.2.1),g.bel⟩
        ·have U:decide (In (S i).cab 0 ((m:Int) - 1))=false:=decide_eq_false g3
         have H3:Hid (¬ In (S i).cab 0 ((p.n:Int) - 1)):=by rw[J.out];exact g3
         clear g3;refine zp (by kernel_rfl) (by kernel_rfl) ?_
         repeat(first|go_big_quiet_skip|(go_big_quiet_want;go_big_quiet_op;first|go_big_quiet_on|(apply Exists.intro;refine⟨fun g=>?_,?_⟩;(focus(first|(go_at_call 119;refine zi (v:=.bool true) ((ZE _ _).mono ?_);rintro e s ⟨rfl,rfl⟩;exact⟨by rw[y],bZ⟩)|(go_at_call 133;refine zi (v:=.bool false) ((zaq _ i c S (S i).who _ (by omega) ((G.out.upto (by omega)).below (zj r g.bel))).mono ?_);rintro e s ⟨⟨Y,rfl,z⟩,o⟩;obtain rfl:=Bool.eq_false_iff.2 (fun e=>E.out (z.1 e));exact⟨rfl,o⟩)|(go_at_call 19;first|(refine zi (v:=.bool false) ((zx _ _ _ _).mono ?_);rintro e s ⟨rfl,rfl⟩;exact⟨by rw[U],bZ⟩))));go_big_quiet_on)))
         refine wpQuiet_nil ?_;rintro _ ⟨g,rfl⟩;go_wp2;go_meet;exact⟨tells_bad (fun h=>H3.out h.2.2.1),g.bel⟩
      ·have y:decide (In (S i).who 1 9999)=false:=decide_eq_false g1
       have H1:=hI g1;clear g1;refine zp (by kernel_rfl) (by kernel_rfl) ?_
       repeat(first|go_big_quiet_skip|(go_big_quiet_want;go_big_quiet_op;first|go_big_quiet_on|(apply Exists.intro;refine⟨fun g=>?_,?_⟩;(focus(first|(go_at_call 119;refine zi (v:=.bool false) ((ZE _ _).mono ?_);rintro e s ⟨rfl,rfl⟩;exact⟨by rw[y],bZ⟩)));go_big_quiet_on)))
       refine wpQuiet_nil ?_;rintro _ ⟨g,rfl⟩;go_wp2;go_meet;exact⟨tells_bad (fun h=>H1.out h.1),g.bel⟩
     case rest =>
      obtain⟨⟨tb,rfl,a2⟩,Q⟩:=hcut;have HT:=hI a2;have t:=zj r Q;have R:=zc x.out Q;clear a2 r Q x
      cases tb with
      | true =>
       have a7:Hid (¬ OkR0 p S i):=fun h=>by have:=HT.out.2 h;cases this
       clear HT;go_wp2;go_ret;exact⟨zC (fun h=>a7.out (h.2.2.1 i hlt).1),t⟩
      | false =>
       have H0:Hid (OkR0 p S i):=HT.out.1 rfl;clear HT;generalize wc=W2 at *;go_wp2;go_loopw [8,72] (fun _ j wq=>∃ k:Nat,k<=i/\j=int i64 k/\(∀ j,j<k->OkR2 S i j)/\Below W2.heap.size W2 wq) (fun _ j _=>i - (intOf j).toNat)
       case atStart=>exact⟨0,Nat.zero_le _,rfl,fun j C=>by omega,bZ⟩
       case round =>
        obtain⟨k,hk,rfl,A,a⟩:=hrel;have M:=hI A;clear A
        by_cases hlt2:k<i
        ·obtain⟨b2,b5,e2,O,h1,h2,h3⟩:=G.out k (by omega)
         simp only[Option.some.injEq,Addr.mk.injEq,and_true] at e2;obtain⟨rfl,rfl⟩:=e2;have c0:=((zj t a).cell (p:=⟨b,off+k*4,none⟩) K).trans O;have c1:=((zj t a).cell (p:=⟨b,off+k*4+1,none⟩) K).trans h1;have c2:=((zj t a).cell (p:=⟨b,off+k*4+2,none⟩) K).trans h2;have c3:=((zj t a).cell (p:=⟨b,off+k*4+3,none⟩) K).trans h3;have P:=ze (zc R a) (.cells #[int i64 (S k).who,int i64 (S k).cab,int i64 (S k).many,.bool (S k).all] 190);have y1:=za P 1 _ rfl;have y3:=za P 3 _ rfl;clear O h1 h2 h3 P
         by_cases g1:(S k).cab=(S i).cab
         ·have y:((S k).cab == (S i).cab)=true:=by simpa using g1
          have F:=hI g1;clear g1
          cases ho:(S k).all with
          | true =>
           rw[ho] at c3 y1 y3;have HO:=hI ho;clear ho;go_wp2;go_ret;exact⟨zC (fun h=>by have:=((h.2.2.1 i hlt).2 k hlt2 F.out).1;rw[HO.out] at this;cases this),zj t (zr a _)⟩
          | false =>
           rw[ho] at c3 y1 y3;have HO:=hI ho;clear ho
           cases hr:(S i).all with
           | true =>
            rw[hr] at y3;have HR:=hI hr;clear hr;go_wp2;go_ret;exact⟨zC (fun h=>by have:=((h.2.2.1 i hlt).2 k hlt2 F.out).2;rw[HR.out] at this;cases this),zj t (zr a _)⟩
           | false =>
            rw[hr] at y3;have HR:=hI hr;clear hr;go_wp2;go_roundw
            case rel=>exact⟨k+1,by omega,by go_num,fun j C=>by
             by_cases e:j=k
             ·subst e;exact fun _=>⟨HO.out,HR.out⟩
             ·exact M.out j (by omega),zr a _⟩
            case measure=>simp[intOf];omega
         ·have y:((S k).cab == (S i).cab)=false:=by simpa using g1
          have F:=hI g1;clear g1;go_wp2;go_roundw
          case rel=>exact⟨k+1,by omega,by go_num,fun j C=>by
           by_cases e:j=k
           ·subst e;exact fun h=>absurd h F.out
           ·exact M.out j (by omega),zr a _⟩
          case measure=>simp[intOf];omega
        ·obtain rfl:k=i:=by omega
         have a6:Hid (∀ j,j<k+1->OkR p S j):=fun j C=>by
          by_cases e:j=k
          ·subst e;exact⟨H0.out,M.out⟩
          ·exact HA.out j (by omega)
         go_wp2;go_roundw
         case rel=>exact⟨k+1,by omega,by go_num,a6.out,zj t a⟩
         case measure=>simp[intOf];omega
    ·obtain rfl:i=n:=by omega
     go_wp2_with fail;refine(zcp ao bo m mc i c p S _ J.out V.out h60 (fun j C=>(HA.out j C).1.2.2.2.1) (HX.out.below f) (G.out.below f)).mono ?_
     rintro e w2 ⟨⟨v,rfl,D⟩,a0⟩;obtain⟨aw,cw,rfl,_⟩:=zt D;have HI:=hI (own_ints D);have a1:=zj f a0;clear D a0 f;go_wp2;go_loopw [10,95] (fun _ j T=>∃ k:Nat,k<=m/\j=int i64 k/\(∀ j,j<k->0<=qW p S i j)/\T=w2) (fun _ j _=>m - (intOf j).toNat)
     case atStart=>exact⟨0,Nat.zero_le _,rfl,fun j C=>by omega,rfl⟩
     case round =>
      obtain⟨k,hk,rfl,d,a3⟩:=hrel;have a5:=a3.symm;subst a5;clear a3;have HK:=hI d;clear d
      by_cases hlt3:k<m
      ·obtain⟨b3,b6,rfl,O⟩:=HI.out k hlt3
       by_cases hneg:qW p S i k<0
       ·have y:decide (qW p S i k<0)=true:=decide_eq_true hneg
        have N:=hI hneg;clear hneg;go_wp2;go_ret;exact⟨zC (fun h=>by have:=h.2.2.2 k (by rw[J.out];exact hlt3);have:=N.out;omega),a1⟩
       ·have y:decide (qW p S i k<0)=false:=decide_eq_false hneg
        have N:=hI hneg;clear hneg;go_wp2;go_roundw
        case rel=>exact⟨k+1,by omega,by go_num,fun j C=>by
         by_cases e:j=k
         ·subst e;have:=N.out;omega
         ·exact HK.out j (by omega),by trivial⟩
        case measure=>simp[intOf];omega
      ·obtain rfl:k=m:=by omega
       go_wp2;go_ret;exact⟨says_yes ⟨V.out,h60,HA.out,fun j C=>HK.out j (by rw[J.out] at C;exact C)⟩,a1⟩
  ·have d0:decide (60<n)=true:=by simp;omega
   go_wp2;go_ret;exact⟨zC (fun h=>h60 h.2.1),H⟩
def RIx (n m:Nat)(P:Nat->Prop)(r:Int):Prop:=(∃ k:Nat,r=(k:Int)/\n≠60/\zaC m P k)∨(r=-1/\(n=60∨∀ k,¬ zaC m P k))
theorem zcG (y z:Option Addr)(m N n c:Nat)(p:qi)(S:Nat->ZF)(cl q:Int)(w:World)(hl:p.n=m)(hd:QL p n S)(L:qd w y p)(M:Zm w z n S) :
  Calls Tryz.prog 141 #[.slice y m N,.slice z n c,int i64 cl,int i64 q] w fun e w'=>(∃ r:Int,e=.returned (int i64 r)/\RIx n p.n (zbM p n S cl q) r)/\Below w.heap.size w w':=by
 have x:=hI hl;have G:=hI hd;have H:=hI L;have Q:=hI M;have U:m<=6:=by rw[← hl];exact hd.1.1
 have t:n<=60:=hd.2.1;clear hl hd L M
 by_cases h60:n=60
 ·have A:(n == 60)=true:=by simpa using h60
  have B:((n:Int) == 60)=true:=by simp;omega
  have o:=hI h60;clear h60;go_enter Tryz.func141,Tryz.ntmps141;go_wp2;go_ret;exact⟨⟨_,rfl,.inr ⟨rfl,.inl o.out⟩⟩,bZ⟩
 ·have A:(n == 60)=false:=by simpa using h60
  have B:((n:Int) == 60)=false:=by simp;omega
  have o:=hI h60;clear h60;go_enter Tryz.func141,Tryz.ntmps141;go_wp2_with fail;refine(zcp y z m N n c p S _ x.out G.out.1 t G.out.manys H.out Q.out).mono ?_;rintro e F ⟨⟨v,rfl,d⟩,f⟩;obtain⟨aw,cw,rfl,_⟩:=zt d;have P:=hI (own_ints d);clear d;go_wp2;go_loopw [10,11,20] (fun _ _ i O=>∃ k:Nat,k<=m/\i=int i64 k/\(∀ j:Nat,j<k->¬ zbM p n S cl q j)/\Below F.heap.size F O) (fun _ _ i _=>m - (intOf i).toNat)
  case atStart=>exact⟨0,Nat.zero_le _,rfl,fun j K=>by omega,bZ⟩
  case round =>
   obtain⟨k,hk,rfl,g,a⟩:=hrel;have u:=hI g;clear g
   by_cases hlt:k<m
   ·obtain⟨b,off,rfl,C,I⟩:=H.out k (by rw[x.out];exact hlt)
    have J:=World.block_lt_of_cell? w _ C;have c1:=((zj f a).cell (p:=⟨b,off+k*2,none⟩) J).trans C;have c2:=((zj f a).cell (p:=⟨b,off+k*2+1,none⟩) J).trans I;obtain⟨b3,l,rfl,D⟩:=P.out k hlt;have E:=World.block_lt_of_cell? F _ D;have c3:(O.alloc (.cells #[int i64 (p.A k),int i64 (p.B k)] 110)).cell? ⟨b3,l+k,none⟩=some (int i64 (qW p S n k)):=((zr a _).cell (p:=⟨b3,l+k,none⟩) E).trans D;have i1:(0:Int)<=(k:Int):=by omega
    have i2:(k:Int)<(m:Int):=by omega
    clear C I D
    by_cases g1:p.A k=cl
    ·have R:(p.A k == cl)=true:=by simpa using g1
     by_cases g2:q<=qW p S n k
     ·have T:decide (q<=qW p S n k)=true:=decide_eq_true g2
      have s:Hid (zaC p.n (zbM p n S cl q) k):=⟨by rw[x.out];exact hlt,⟨g1,g2⟩,u.out⟩
      clear g1 g2;go_wp2;go_ret;exact⟨⟨_,rfl,.inl ⟨k,rfl,o.out,s.out⟩⟩,zj f (zr a _)⟩
     ·have T:decide (q<=qW p S n k)=false:=decide_eq_false g2
      have s:Hid (¬ zbM p n S cl q k):=fun h=>g2 h.2
      clear g1 g2;go_wp2;go_roundw
      case rel=>exact⟨k+1,by omega,by go_num,fun j K=>by
       by_cases e:j=k
       ·subst e;exact s.out
       ·exact u.out j (by omega),zr a _⟩
      case measure=>simp[intOf];omega
    ·have R:(p.A k == cl)=false:=by simpa using g1
     have s:Hid (¬ zbM p n S cl q k):=fun h=>g1 h.1
     clear g1;go_wp2;go_roundw
     case rel=>exact⟨k+1,by omega,by go_num,fun j K=>by
      by_cases e:j=k
      ·subst e;exact s.out
      ·exact u.out j (by omega),zr a _⟩
     case measure=>simp[intOf];omega
   ·obtain rfl:k=m:=by omega
    go_wp2;go_ret;exact⟨⟨_,rfl,.inr ⟨rfl,.inr (fun j h=>u.out j (by have:=h.1;rw[x.out] at this;exact this) h.2.1)⟩⟩,zj f a⟩
theorem zhc (P Q:Option Addr)(m mc n c:Nat)(p:qi)(S:Nat->ZF)(cl q:Int)(w:World)(hl:p.n=m)(hd:QL p n S)(hx:qd w P p)(hz:Zm w Q n S) :
  Calls Tryz.prog 142 #[.slice P m mc,.slice Q n c,int i64 cl,int i64 q] w fun e w'=>(∃ r:Int,e=.returned (int i64 r)/\RIx n p.n (zbt p n S cl q) r)/\Below w.heap.size w w':=by
 have C:=hI hl;have HD:=hI hd;have O:=hI hx;have HZ:=hI hz;have a0:m<=6:=by rw[← hl];exact hd.1.1
 have K:n<=60:=hd.2.1;clear hl hd hx hz
 by_cases h60:n=60
 ·have U:(n == 60)=true:=by simpa using h60
  have V:((n:Int) == 60)=true:=by simp;omega
  have u:=hI h60;clear h60;go_enter Tryz.func142,Tryz.ntmps142;go_wp2;go_ret;exact⟨⟨_,rfl,.inr ⟨rfl,.inl u.out⟩⟩,bZ⟩
 ·have U:(n == 60)=false:=by simpa using h60
  have V:((n:Int) == 60)=false:=by simp;omega
  have u:=hI h60;clear h60;go_enter Tryz.func142,Tryz.ntmps142;go_wp2_with fail;refine(zcp P Q m mc n c p S _ C.out HD.out.1 K HD.out.manys O.out HZ.out).mono ?_;rintro e w1 ⟨⟨v,rfl,s⟩,y⟩;obtain⟨aw,cw,rfl,_⟩:=zt s;have HI:=hI (own_ints s);clear s;go_wp2;go_loopw [10,12,23] (fun v _ i z=>∃ (k:Nat) (L:Bool),k<=m/\i=int i64 k/\v=.bool L/\(L=true↔∃ j,j<k/\p.A j=cl/\q<=p.B j)/\Below w1.heap.size w1 z) (fun _ _ i _=>m - (intOf i).toNat)
  case atStart=>exact⟨0,false,Nat.zero_le _,rfl,rfl,⟨fun h=>(by cases h),fun ⟨j,E,_⟩=>(by omega)⟩,bZ⟩
  case round =>
   obtain⟨k,L,hk,rfl,rfl,hL,a⟩:=hrel;have l:=hI hL;clear hL
   by_cases hlt:k<m
   ·obtain⟨b,off,rfl,D,I⟩:=O.out k (by rw[C.out];exact hlt)
    have J:=World.block_lt_of_cell? w _ D;have c1:=((zj y a).cell (p:=⟨b,off+k*2,none⟩) J).trans D;have c2:=((zj y a).cell (p:=⟨b,off+k*2+1,none⟩) J).trans I;clear D I
    cases L with
    | true =>
     go_wp2;go_roundw
     case rel=>exact⟨k+1,true,by omega,by go_num,rfl,⟨fun _=>(by obtain⟨j,E,h⟩:=l.out.1 rfl;exact⟨j,by omega,h⟩),fun _=>rfl⟩,zr a _⟩
     case measure=>simp[intOf];omega
    | false =>
     have HN:Hid (¬ ∃ j,j<k/\p.A j=cl/\q<=p.B j):=fun h=>by have:=l.out.2 h;cases this
     clear l
     by_cases g1:p.A k=cl
     ·have R:(p.A k == cl)=true:=by simpa using g1
      by_cases g2:q<=p.B k
      ·have T:decide (q<=p.B k)=true:=decide_eq_true g2
       have G:Hid (p.A k=cl/\q<=p.B k):=⟨g1,g2⟩;clear g1 g2;go_wp2;go_roundw
       case rel=>exact⟨k+1,true,by omega,by go_num,rfl,⟨fun _=>⟨k,by omega,G.out⟩,fun _=>rfl⟩,zr a _⟩
       case measure=>simp[intOf];omega
      ·have T:decide (q<=p.B k)=false:=decide_eq_false g2
       have G:Hid (¬ (p.A k=cl/\q<=p.B k)):=fun h=>g2 h.2
       clear g1 g2;go_wp2;go_roundw
       case rel=>exact⟨k+1,false,by omega,by go_num,rfl,⟨fun h=>(by cases h),fun ⟨j,E,h⟩=>by
        by_cases e:j=k
        ·subst e;exact absurd h G.out
        ·exact absurd ⟨j,by omega,h⟩ HN.out⟩,zr a _⟩
       case measure=>simp[intOf];omega
     ·have R:(p.A k == cl)=false:=by simpa using g1
      have G:Hid (¬ (p.A k=cl/\q<=p.B k)):=fun h=>g1 h.1
      clear g1;go_wp2;go_roundw
      case rel=>exact⟨k+1,false,by omega,by go_num,rfl,⟨fun h=>(by cases h),fun ⟨j,E,h⟩=>by
       by_cases e:j=k
       ·subst e;exact absurd h G.out
       ·exact absurd ⟨j,by omega,h⟩ HN.out⟩,zr a _⟩
      case measure=>simp[intOf];omega
   ·obtain rfl:k=m:=by omega
    have H:Hid (L=true↔∃ j,j<p.n/\p.A j=cl/\q<=p.B j):=by rw[C.out];exact l.out
    have N:=hI (HI.out.below a);have o:=zj y a;clear l HI y a;generalize z=Z at *;go_wp2;go_loopw [13,14,43] (fun _ _ i z=>∃ t:Nat,t<=k/\i=int i64 t/\(∀ j:Nat,j<t->¬ zbt p n S cl q j)/\Below Z.heap.size Z z) (fun _ _ i _=>k - (intOf i).toNat)
    case atStart=>exact⟨0,Nat.zero_le _,rfl,fun j E=>by omega,bZ⟩
    case round =>
     obtain⟨t,ht,rfl,A,a⟩:=hrel;have F:=hI A;clear A
     by_cases hlt2:t<k
     ·obtain⟨b,off,rfl,D,I⟩:=O.out t (by rw[C.out];exact hlt2)
      have J:=World.block_lt_of_cell? w _ D;have c1:=((zj o a).cell (p:=⟨b,off+t*2,none⟩) J).trans D;have c2:=((zj o a).cell (p:=⟨b,off+t*2+1,none⟩) J).trans I;obtain⟨b3,B,rfl,X⟩:=N.out t hlt2;have Y:=World.block_lt_of_cell? Z _ X;have d:=heap_alloc_new z (.cells #[int i64 (p.A t),int i64 (p.B t)] 110);have f:=zr a (.cells #[int i64 (p.A t),int i64 (p.B t)] 110);clear D I;go_upto_region 13 with fail;generalize hW:z.alloc (.cells #[int i64 (p.A t),int i64 (p.B t)] 110)=W at d f ⊢;clear hW;have M:z.heap.size<W.heap.size:=zZ d;have z0:∀ g:qe W,g.val.cell? ⟨z.heap.size,0,none⟩=some (int i64 (p.A t)):=fun g=>(g.bel.cell M).trans (za d 0 _ rfl)
      have z1:∀ g:qe W,g.val.cell? ⟨z.heap.size,1,none⟩=some (int i64 (p.B t)):=fun g=>(g.bel.cell M).trans (za d 1 _ rfl)
      have y3:∀ g:qe W,g.val.cell? ⟨b3,B+t,none⟩=some (int i64 (qW p S n t)):=fun g=>((zj f g.bel).cell (p:=⟨b3,B+t,none⟩) Y).trans X
      have i1:(0:Int)<=(t:Int):=by omega
      have i2:(t:Int)<(k:Int):=by omega
      clear c1 c2 d a X
      by_cases g1:p.A t=cl
      ·have R:(p.A t == cl)=true:=by simpa using g1
       by_cases g2:qW p S n t=p.B t
       ·have T:(qW p S n t == p.B t)=true:=by simpa using g2
        by_cases g3:q<=p.B t
        ·have e3:decide (q<=p.B t)=true:=decide_eq_true g3
         have x:Hid (zaC p.n (zbt p n S cl q) t):=⟨by rw[C.out];exact hlt2,⟨g1,g2,.inl g3⟩,F.out⟩
         clear g1 g2 g3;refine zp (by kernel_rfl) (by kernel_rfl) ?_
         repeat(first|go_big_quiet_skip|(go_big_quiet_want;go_big_quiet_op;go_big_quiet_on))
         refine wpQuiet_nil ?_;rintro _ ⟨g,rfl⟩;go_wp2;go_ret;exact⟨⟨_,rfl,.inl ⟨t,rfl,u.out,x.out⟩⟩,zj o (zj f g.bel)⟩
        ·have e3:decide (q<=p.B t)=false:=decide_eq_false g3
         cases L with
         | false =>
          have x:Hid (zaC p.n (zbt p n S cl q) t):=⟨by rw[C.out];exact hlt2,⟨g1,g2,.inr (fun h=>by have:=H.out.2 h;cases this)⟩,F.out⟩
          clear g1 g2 g3;refine zp (by kernel_rfl) (by kernel_rfl) ?_
          repeat(first|go_big_quiet_skip|(go_big_quiet_want;go_big_quiet_op;go_big_quiet_on))
          refine wpQuiet_nil ?_;rintro _ ⟨g,rfl⟩;go_wp2;go_ret;exact⟨⟨_,rfl,.inl ⟨t,rfl,u.out,x.out⟩⟩,zj o (zj f g.bel)⟩
         | true =>
          have x:Hid (¬ zbt p n S cl q t):=fun h=>by
           rcases h.2.2 with h|h
           ·exact g3 h
           ·exact h (H.out.1 rfl)
          clear g1 g2 g3;refine zp (by kernel_rfl) (by kernel_rfl) ?_
          repeat(first|go_big_quiet_skip|(go_big_quiet_want;go_big_quiet_op;go_big_quiet_on))
          refine wpQuiet_nil ?_;rintro _ ⟨g,rfl⟩;go_wp2;go_roundw
          case rel=>exact⟨t+1,by omega,by go_num,fun j E=>by
           by_cases e:j=t
           ·subst e;exact x.out
           ·exact F.out j (by omega),zj f g.bel⟩
          case measure=>simp[intOf];omega
       ·have T:(qW p S n t == p.B t)=false:=by simpa using g2
        have x:Hid (¬ zbt p n S cl q t):=fun h=>g2 h.2.1
        clear g1 g2;refine zp (by kernel_rfl) (by kernel_rfl) ?_
        repeat(first|go_big_quiet_skip|(go_big_quiet_want;go_big_quiet_op;go_big_quiet_on))
        refine wpQuiet_nil ?_;rintro _ ⟨g,rfl⟩;go_wp2;go_roundw
        case rel=>exact⟨t+1,by omega,by go_num,fun j E=>by
         by_cases e:j=t
         ·subst e;exact x.out
         ·exact F.out j (by omega),zj f g.bel⟩
        case measure=>simp[intOf];omega
      ·have R:(p.A t == cl)=false:=by simpa using g1
       have x:Hid (¬ zbt p n S cl q t):=fun h=>g1 h.1
       clear g1;refine zp (by kernel_rfl) (by kernel_rfl) ?_
       repeat(first|go_big_quiet_skip|(go_big_quiet_want;go_big_quiet_op;go_big_quiet_on))
       refine wpQuiet_nil ?_;rintro _ ⟨g,rfl⟩;go_wp2;go_roundw
       case rel=>exact⟨t+1,by omega,by go_num,fun j E=>by
        by_cases e:j=t
        ·subst e;exact x.out
        ·exact F.out j (by omega),zj f g.bel⟩
       case measure=>simp[intOf];omega
     ·obtain rfl:t=k:=by omega
      go_wp2;go_ret;exact⟨⟨_,rfl,.inr ⟨rfl,.inr (fun j h=>F.out j (by have:=h.1;rw[C.out] at this;exact this) h.2.1)⟩⟩,zj o a⟩
inductive ZT (s:Sail) (w:Wk) (x:qT):Int->qT->Prop
 | noStay (r:Nat) (e:w.res=0) (g:w.goes=true) (h:r<x.stn) (q:(x.st r).who=w.who):ZT s w x 0 (x.noStay r)
 | noRoom (r:Nat) (e:w.res=1) (g:w.goes=true) (h:r<x.ron) (q:(x.ro r).who=w.who):ZT s w x 0 (x.noRoom r)
 | noSeat (r:Nat) (e:w.res=2) (g:w.goes=true) (h:r<x.sen) (q:(x.se r).who=w.who):ZT s w x 0 (x.noSeat r)
 | addStay (k:Nat) (e:w.res=0) (g:w.goes=false) (h:zbA s.la x.stn x.st w.p.len w.p.hei (k:Int)):ZT s w x 0 (x.addStay ⟨w.who,(k:Int),w.p.len,w.p.hei⟩)
 | deck (e:w.res=0) (g:w.goes=false) (h:zbA s.la x.stn x.st w.p.len w.p.hei (-1)):ZT s w x 5 x
 | addWhole (k:Nat) (e:w.res=1) (g:w.goes=false) (a:w.p.all=true) (h:RIx x.ron s.ca.n (zbt s.ca x.ron x.ro w.p.cl w.p.pe) (k:Int)):ZT s w x 0 (x.addRoom ⟨w.who,(k:Int),s.ca.B k,true⟩)
 | whole (e:w.res=1) (g:w.goes=false) (a:w.p.all=true) (h:RIx x.ron s.ca.n (zbt s.ca x.ron x.ro w.p.cl w.p.pe) (-1)):ZT s w x 6 x
 | addBerth (k:Nat) (e:w.res=1) (g:w.goes=false) (a:w.p.all=false) (h:RIx x.ron s.ca.n (zbM s.ca x.ron x.ro w.p.cl w.p.be) (k:Int)):ZT s w x 0 (x.addRoom ⟨w.who,(k:Int),w.p.be,false⟩)
 | berth (e:w.res=1) (g:w.goes=false) (a:w.p.all=false) (h:RIx x.ron s.ca.n (zbM s.ca x.ron x.ro w.p.cl w.p.be) (-1)):ZT s w x 6 x
 | addSeat (e:w.res=2) (g:w.goes=false) (hn:x.sen≠60) (hs:zbE x.se x.sen+w.p.pe<=s.most):ZT s w x 0 (x.addSeat ⟨w.who,w.p.pe⟩)
 | seats (e:w.res=2) (g:w.goes=false) (h:x.sen=60∨s.most<zbE x.se x.sen+w.p.pe):ZT s w x 7 x
theorem rIx_at {n m k:Nat}{P:Nat->Prop}(h:RIx n m P (k:Int)):n≠60/\zaC m P k:=by
 rcases h with⟨j,e,a,b⟩|⟨e,_⟩
 ·obtain rfl:k=j:=by omega
  exact⟨a,b⟩
 ·omega
theorem zic {p:qi}{n k:Nat}{S:Nat->ZX}{len hei:Int}(h:zbA p n S len hei (k:Int)):n≠60/\Qy p (QF p S n) len hei k:=by
 rcases h with⟨j,e,a,b⟩|⟨e,_⟩
 ·obtain rfl:k=j:=by omega
  exact⟨a,b⟩
 ·omega
theorem zhd {n m:Nat}{P:Nat->Prop}{r g:Int}(h:RIx n m P r)(i:RIx n m P g):r=g:=by
 rcases h with⟨j,e,a,b⟩|⟨e,a⟩ <;> rcases i with⟨k,f,d,b'⟩|⟨f,d⟩
 ·rw[e,f,zgS b b']
 ·rcases d with c|c
  ·exact absurd c a
  ·exact absurd b (c j)
 ·rcases a with c|c
  ·exact absurd c d
  ·exact absurd b' (c k)
 ·rw[e,f]
theorem zeU (n m:Nat)(P:Nat->Prop):∃ r,RIx n m P r:=by
 by_cases h:n≠60/\∃ k,zaC m P k
 ·obtain⟨a,k,b⟩:=h
  exact⟨k,.inl ⟨k,rfl,a,b⟩⟩
 ·refine⟨-1,.inr ⟨rfl,?_⟩⟩
  by_cases c:n=60
  ·exact .inl c
  ·exact .inr (fun k d=>h ⟨c,k,d⟩)
theorem zhe {p:qi}{n:Nat}{S:Nat->ZX}{len hei r g:Int}(h:zbA p n S len hei r)(i:zbA p n S len hei g):r=g:=by
 rcases h with⟨j,e,a,b⟩|⟨e,a⟩ <;> rcases i with⟨k,f,d,b'⟩|⟨f,d⟩
 ·rw[e,f,zeJ b b']
 ·rcases d with c|c
  ·exact absurd c a
  ·exact absurd b (c j)
 ·rcases a with c|c
  ·exact absurd c d
  ·exact absurd b' (c k)
 ·rw[e,f]
theorem zgd (p:qi)(n:Nat)(S:Nat->ZX)(len hei:Int):∃ r,zbA p n S len hei r:=by
 by_cases h:n≠60/\∃ k,Qy p (QF p S n) len hei k
 ·obtain⟨a,k,b⟩:=h
  exact⟨k,.inl ⟨k,rfl,a,b⟩⟩
 ·refine⟨-1,.inr ⟨rfl,?_⟩⟩
  by_cases c:n=60
  ·exact .inl c
  ·exact .inr (fun k d=>h ⟨c,k,d⟩)
def ComesOk (w:Wk)(x:qT):Prop:=w.goes=false->In w.who 1 9999/\qI w.p/\zbz w.p.len w.p.cl w.res=true/\¬ zeR x w.res w.who
theorem ZT.on {s:Sail}{w:Wk}{x y:qT}{code:Int}(h:ZT s w x code y)(hl:qJ s x)(m:ComesOk w x):(code=0/\zab s w x y)∨(In code 5 7/\y=x):=by
 cases h with
 | noStay r e g h q=>exact .inl ⟨rfl,.noStay r e g h q⟩
 | noRoom r e g h q=>exact .inl ⟨rfl,.noRoom r e g h q⟩
 | noSeat r e g h q=>exact .inl ⟨rfl,.noSeat r e g h q⟩
 | deck e g h=>exact .inr ⟨by unfold In;omega,rfl⟩
 | whole e g a h=>exact .inr ⟨by unfold In;omega,rfl⟩
 | berth e g a h=>exact .inr ⟨by unfold In;omega,rfl⟩
 | seats e g h=>exact .inr ⟨by unfold In;omega,rfl⟩
 | addStay k e g h =>
  obtain⟨f,i,d,b⟩:=m g;have n:=zic h;rw[e] at d b;have o:0<w.p.len:=by simpa [zbz] using d
  have l:Q3 w.p.len w.p.hei:=by rcases i.2.1 with c|c;omega;exact c
  exact .inl ⟨rfl,.addStay k e g ⟨(Ql _ _ _).1 hl.1,n.1,b,f,l.1,l.2,n.2⟩⟩
 | addWhole k e g a h =>
  obtain⟨f,i,d,b⟩:=m g;obtain⟨p,j⟩:=rIx_at h;rw[e] at d b;refine .inl ⟨rfl,.addRoom _ e g rfl f b ⟨?_,fun _=>⟨j.2.1.2.1,rfl⟩,fun h=>(by cases h)⟩⟩
  have:=j.1;unfold In
  show(0:Int)<=(k:Int)/\(k:Int)<=(s.ca.n:Int) - 1
  omega
 | addBerth k e g a h =>
  obtain⟨f,i,d,b⟩:=m g;obtain⟨p,j⟩:=rIx_at h;rw[e] at d b;have o:0<w.p.cl:=by simpa [zbz] using d
  have l:zbH w.p.cl w.p.all w.p.be:=by rcases i.2.2 with c|c;omega;exact c
  refine .inl ⟨rfl,.addRoom _ e g rfl f b ⟨?_,fun h=>(by cases h),fun _=>?_⟩⟩
  ·have:=j.1
   unfold In
   show(0:Int)<=(k:Int)/\(k:Int)<=(s.ca.n:Int) - 1
   omega
  ·rcases l.2 with⟨c,_⟩|⟨_,c⟩
   ·rw[a] at c;cases c
   ·exact⟨c.1,j.2.1.2⟩
 | addSeat e g hn hs =>
  obtain⟨f,i,d,b⟩:=m g;rw[e] at d b;exact .inl ⟨rfl,.addSeat _ e g rfl hn f i.1 b hs⟩
theorem zcq (b:ZK)(f:Option Addr)(g:Nat)(w:World) :
  Calls Tryz.prog 116 #[.agg #[int i64 b.name,int i64 b.who,.string b.own,.slice f b.lgn g,int i64 b.pe,int i64 b.len,int i64 b.hei,int i64 b.cl,.bool b.all,int i64 b.be,int i64 b.state,int i64 b.unt,int i64 b.price]] w fun e w'=>e=.returned (.bool (decide (zee b)))/\Below w.heap.size w w':=by
 obtain⟨c,i⟩:∃ c,c=decide (zee b):=⟨_,rfl⟩;rw[← i];have d:=hI i;clear i
 by_cases h1:b.state=1
 ·have j:(b.state == 1)=true:=by simpa using h1
  have a:Hid (c=true):=by rw[d.out];exact decide_eq_true (.inl h1)
  clear h1;go_enter Tryz.func116,Tryz.ntmps116;go_wp2;go_ret;exact⟨by rw[a.out];rfl,zr bZ _⟩
 ·have j:(b.state == 1)=false:=by simpa using h1
  by_cases h2:b.state=2
  ·have k:(b.state == 2)=true:=by simpa using h2
   have a:Hid (c=true):=by rw[d.out];exact decide_eq_true (.inr h2)
   clear h1 h2;go_enter Tryz.func116,Tryz.ntmps116;go_wp2;go_ret;exact⟨by rw[a.out];rfl,zr bZ _⟩
  ·have k:(b.state == 2)=false:=by simpa using h2
   have a:Hid (c=false):=by rw[d.out];exact decide_eq_false (fun h=>by rcases h with h|h;exact h1 h;exact h2 h)
   clear h1 h2;go_enter Tryz.func116,Tryz.ntmps116;go_wp2;go_ret;exact⟨by rw[a.out];rfl,zr bZ _⟩
theorem zaD {x:qT}{b:ZK}{k:Nat}:zbN x b (k+1)↔zbN x b k∨((x.se k).who=b.who/\(x.se k).many=b.pe) :=
 ⟨fun ⟨j,a,h⟩=>if e:j=k then .inr (by subst e;exact h) else .inl ⟨j,by omega,h⟩,fun h=>by rcases h with⟨j,a,h⟩|h;exact⟨j,by omega,h⟩;exact⟨k,by omega,h⟩⟩
theorem QY {x:qT}{b:ZK}{k:Nat}:zbO x b (k+1)↔zbO x b k∨((x.st k).who=b.who/\(x.st k).len=b.len/\(x.st k).hei=b.hei) :=
 ⟨fun ⟨j,a,h⟩=>if e:j=k then .inr (by subst e;exact h) else .inl ⟨j,by omega,h⟩,fun h=>by rcases h with⟨j,a,h⟩|h;exact⟨j,by omega,h⟩;exact⟨k,by omega,h⟩⟩
theorem Z9 {s:Sail}{x:qT}{b:ZK}{k:Nat}:zbc s x b (k+1)↔zbc s x b k∨zhF s b (x.ro k) :=
 ⟨fun ⟨j,a,h⟩=>if e:j=k then .inr (by subst e;exact h) else .inl ⟨j,by omega,h⟩,fun h=>by rcases h with⟨j,a,h⟩|h;exact⟨j,by omega,h⟩;exact⟨k,by omega,h⟩⟩
theorem zge (s:Sail)(la ca:Option Addr)(lc cc:Nat)(x:qT)(H F G:Option Addr)(V T U:Nat)(b:ZK)(Q:Option Addr)(S:Nat)(w:World)
  (d6:x.stn<=1048576) (d7:x.ron<=1048576) (d8:x.sen<=1048576) (a2:qd w ca s.ca) (a6:Zv w H x.stn x.st) (a3:Zm w F x.ron x.ro) (a5:ZI w G x.sen x.se)
  (M:∀ j,j<x.ron->0<=(x.ro j).cab/\(x.ro j).cab<s.ca.n) :
  Calls Tryz.prog 118 #[.agg #[int i64 s.id,.string s.fr,.string s.dst,int i64 s.dep,int i64 s.arr,.slice la s.la.n lc,.slice ca s.ca.n cc,int i64 s.most],.agg #[.slice H x.stn V,.slice F x.ron T,.slice G x.sen U],.agg #[int i64 b.name,int i64 b.who,.string b.own,.slice Q b.lgn S,int i64 b.pe,int i64 b.len,int i64 b.hei,int i64 b.cl,.bool b.all,int i64 b.be,int i64 b.state,int i64 b.unt,int i64 b.price]] w fun e w'=>SaysIf (zbd s x b) e/\Below w.heap.size w w':=by
 have a9:=hI a2;have b7:=hI a6;have b5:=hI a3;have b6:=hI a5;have b0:=hI M;clear a2 a6 a3 a5 M;go_enter Tryz.func118,Tryz.ntmps118;go_wp2;obtain⟨W,hW⟩:∃ W,W=(((w.alloc (.cells #[int i64 s.id,.string s.fr,.string s.dst,int i64 s.dep,int i64 s.arr,.slice la s.la.n lc,.slice ca s.ca.n cc,int i64 s.most] 37)).alloc (.cells #[.slice H x.stn V,.slice F x.ron T,.slice G x.sen U] 136)).alloc (.cells #[int i64 b.name,int i64 b.who,.string b.own,.slice Q b.lgn S,int i64 b.pe,int i64 b.len,int i64 b.hei,int i64 b.cl,.bool b.all,int i64 b.be,int i64 b.state,int i64 b.unt,int i64 b.price] 131)).alloc (.cells #[int i64 b.pe,int i64 b.len,int i64 b.hei,int i64 b.cl,.bool b.all,int i64 b.be] 25):=⟨_,rfl⟩;have bS:W.heap[w.heap.size]?=some (.cells #[int i64 s.id,.string s.fr,.string s.dst,int i64 s.dep,int i64 s.arr,.slice la s.la.n lc,.slice ca s.ca.n cc,int i64 s.most] 37 (0,0)):=by rw[hW];exact ze (ze (ze (heap_alloc_new w _) _) _) _
 have bL:W.heap[w.heap.size+1]?=some (.cells #[.slice H x.stn V,.slice F x.ron T,.slice G x.sen U] 136 (0,0)):=by rw[hW];exact ze (ze (by simpa using heap_alloc_new (w.alloc _) _) _) _
 have bB:W.heap[w.heap.size+1+1]?=some (.cells #[int i64 b.name,int i64 b.who,.string b.own,.slice Q b.lgn S,int i64 b.pe,int i64 b.len,int i64 b.hei,int i64 b.cl,.bool b.all,int i64 b.be,int i64 b.state,int i64 b.unt,int i64 b.price] 131 (0,0)):=by rw[hW];exact ze (by simpa using heap_alloc_new ((w.alloc _).alloc _) _) _
 have K:W.heap[w.heap.size+1+1+1]?=some (.cells #[int i64 b.pe,int i64 b.len,int i64 b.hei,int i64 b.cl,.bool b.all,int i64 b.be] 25 (0,0)):=by rw[hW];simpa using heap_alloc_new (((w.alloc _).alloc _).alloc _) _
 have I:Below w.heap.size w W:=by rw[hW];exact zr (zr (zr (zr bZ _) _) _) _
 rw[← hW];clear hW;have N:∀ y:qT,¬ zbN y b 0:=fun y ⟨j,hj,_⟩=>absurd hj (Nat.not_lt_zero _)
 go_loopw [8,10,22] (fun v _ i B=>∃ (k:Nat) (c:Bool),k<=x.sen/\i=int i64 k/\v=.bool c/\(c=true↔zbN x b k)/\Below W.heap.size W B) (fun _ _ i _=>x.sen - (intOf i).toNat)
 case atStart=>exact⟨0,false,Nat.zero_le _,rfl,rfl,⟨fun h=>(by cases h),fun h=>absurd h (N x)⟩,bZ⟩
 case round =>
  obtain⟨k,c,hk,rfl,rfl,m,a⟩:=hrel;have HC:=hI m;clear m;have R:∀ o,(B.alloc o).cell? ⟨w.heap.size+1+1,1,none⟩=some (int i64 b.who):=fun o=>za (ze (zc bB a) o) 1 _ rfl
  have c0:∀ o,(B.alloc o).cell? ⟨w.heap.size+1+1+1,0,none⟩=some (int i64 b.pe):=fun o=>za (ze (zc K a) o) 0 _ rfl
  by_cases hlt:k<x.sen
  ·obtain⟨u,A,rfl,E,L⟩:=b6.out k hlt
   have g:=World.block_lt_of_cell? w _ E;have d1:=((zj I a).cell (p:=⟨u,A+k*2,none⟩) g).trans E;have d2:=((zj I a).cell (p:=⟨u,A+k*2+1,none⟩) g).trans L;clear E L
   cases c with
   | true =>
    go_wp2;go_roundw
    case rel=>exact⟨k+1,true,by omega,by go_num,rfl,⟨fun _=>zaD.2 (.inl (HC.out.1 rfl)),fun _=>rfl⟩,zr a _⟩
    case measure=>simp[intOf];omega
   | false =>
    have l:Hid (¬ zbN x b k):=fun h=>by have:=HC.out.2 h;cases this
    clear HC
    by_cases e1:(x.se k).who=b.who
    ·by_cases e2:(x.se k).many=b.pe
     ·have P:Hid (zbN x b (k+1)):=zaD.2 (.inr ⟨e1,e2⟩)
      go_wp2;go_roundw
      case rel=>exact⟨k+1,true,by omega,by go_num,rfl,⟨fun _=>P.out,fun _=>rfl⟩,zr a _⟩
      case measure=>simp[intOf];omega
     ·have d:Hid (¬ zbN x b (k+1)):=fun h=>by rcases zaD.1 h with h|h;exact l.out h;exact e2 h.2
      go_wp2;go_roundw
      case rel=>exact⟨k+1,false,by omega,by go_num,rfl,⟨fun h=>(by cases h),fun h=>absurd h d.out⟩,zr a _⟩
      case measure=>simp[intOf];omega
    ·have d:Hid (¬ zbN x b (k+1)):=fun h=>by rcases zaD.1 h with h|h;exact l.out h;exact e1 h.1
     go_wp2;go_roundw
     case rel=>exact⟨k+1,false,by omega,by go_num,rfl,⟨fun h=>(by cases h),fun h=>absurd h d.out⟩,zr a _⟩
     case measure=>simp[intOf];omega
  ·obtain rfl:k=x.sen:=by omega
   clear R c0;have a7:=hI a;have O:=hI I;have b8:=za (zc bL a) 0 _ rfl;have a0:=za (zc K a) 1 _ rfl;clear a I hk hlt N;obtain⟨J,r⟩:∃ z,z=(b.len == 0):=⟨_,rfl⟩;have Z:(b.len == 0)=J:=r.symm;have n:Hid (J=true↔b.len=0):=by show J=true↔b.len=0;rw[r,beq_iff_eq]
   clear r;go_wp2;go_loopw [11,13,43] (fun v _ i wq=>∃ (k:Nat) (c:Bool),k<=x.stn/\i=int i64 k/\v=.bool c/\(c=true↔b.len=0∨zbO x b k)/\Below W.heap.size W wq) (fun _ _ i _=>x.stn - (intOf i).toNat)
   case atStart=>exact⟨0,J,Nat.zero_le _,rfl,rfl,⟨fun h=>.inl (n.out.1 h),fun h=>by rcases h with h|⟨j,hj,_⟩;exact n.out.2 h;exact absurd hj (Nat.not_lt_zero _)⟩,a7.out⟩
   case round =>
    obtain⟨k,c2,hk,rfl,rfl,m,a⟩:=hrel;have C:=hI m;clear m b8 a0 Z n
    by_cases hlt:k<x.stn
    ·obtain⟨u,A,rfl,E,L,g3,g4⟩:=b7.out k hlt
     have g:=World.block_lt_of_cell? w _ E;have f:=zj O.out a;have d1:=(f.cell (p:=⟨u,A+k*4,none⟩) g).trans E;have d2:=(f.cell (p:=⟨u,A+k*4+1,none⟩) g).trans L;have d3:=(f.cell (p:=⟨u,A+k*4+2,none⟩) g).trans g3;have d4:=(f.cell (p:=⟨u,A+k*4+3,none⟩) g).trans g4;have R:∀ o,(B.alloc o).cell? ⟨w.heap.size+1+1,1,none⟩=some (int i64 b.who):=fun o=>za (ze (zc bB a) o) 1 _ rfl
     have a0:∀ o,(B.alloc o).cell? ⟨w.heap.size+1+1+1,1,none⟩=some (int i64 b.len):=fun o=>za (ze (zc K a) o) 1 _ rfl
     have c8:∀ o,(B.alloc o).cell? ⟨w.heap.size+1+1+1,2,none⟩=some (int i64 b.hei):=fun o=>za (ze (zc K a) o) 2 _ rfl
     clear E L g3 g4 f
     cases c2 with
     | true =>
      go_wp2;go_roundw
      case rel=>exact⟨k+1,true,by omega,by go_num,rfl,⟨fun _=>(C.out.1 rfl).imp id (fun h=>QY.2 (.inl h)),fun _=>rfl⟩,zr a _⟩
      case measure=>simp[intOf];omega
     | false =>
      have l:Hid (¬ (b.len=0∨zbO x b k)):=fun h=>by have:=C.out.2 h;cases this
      clear C
      by_cases e1:(x.st k).who=b.who
      ·have X:((x.st k).who == b.who)=true:=by simpa using e1
       by_cases e2:(x.st k).len=b.len
       ·have t:((x.st k).len == b.len)=true:=by simpa using e2
        by_cases e3:(x.st k).hei=b.hei
        ·have Y:((x.st k).hei == b.hei)=true:=by simpa using e3
         have P:Hid (b.len=0∨zbO x b (k+1)):=.inr (QY.2 (.inr ⟨e1,e2,e3⟩));clear e1 e2 e3;go_wp2;go_roundw
         case rel=>exact⟨k+1,true,by omega,by go_num,rfl,⟨fun _=>P.out,fun _=>rfl⟩,zr a _⟩
         case measure=>simp[intOf];omega
        ·have Y:((x.st k).hei == b.hei)=false:=by simpa using e3
         have d:Hid (¬ (b.len=0∨zbO x b (k+1))):=fun h=>by rcases h with h|h;exact l.out (.inl h);rcases QY.1 h with h|h;exact l.out (.inr h);exact e3 h.2.2
         clear e1 e2 e3;go_wp2;go_roundw
         case rel=>exact⟨k+1,false,by omega,by go_num,rfl,⟨fun h=>(by cases h),fun h=>absurd h d.out⟩,zr a _⟩
         case measure=>simp[intOf];omega
       ·have t:((x.st k).len == b.len)=false:=by simpa using e2
        have d:Hid (¬ (b.len=0∨zbO x b (k+1))):=fun h=>by rcases h with h|h;exact l.out (.inl h);rcases QY.1 h with h|h;exact l.out (.inr h);exact e2 h.2.1
        clear e1 e2;go_wp2;go_roundw
        case rel=>exact⟨k+1,false,by omega,by go_num,rfl,⟨fun h=>(by cases h),fun h=>absurd h d.out⟩,zr a _⟩
        case measure=>simp[intOf];omega
      ·have X:((x.st k).who == b.who)=false:=by simpa using e1
       have d:Hid (¬ (b.len=0∨zbO x b (k+1))):=fun h=>by rcases h with h|h;exact l.out (.inl h);rcases QY.1 h with h|h;exact l.out (.inr h);exact e1 h.1
       clear e1;go_wp2;go_roundw
       case rel=>exact⟨k+1,false,by omega,by go_num,rfl,⟨fun h=>(by cases h),fun h=>absurd h d.out⟩,zr a _⟩
       case measure=>simp[intOf];omega
    ·obtain rfl:k=x.stn:=by omega
     have a8:=hI a;have b9:=za (zc bL a) 1 _ rfl;have a1:=za (zc K a) 3 _ rfl;clear a hk hlt;obtain⟨J,r⟩:∃ z,z=(b.cl == 0):=⟨_,rfl⟩;have Z:(b.cl == 0)=J:=r.symm;have n:Hid (J=true↔b.cl=0):=by show J=true↔b.cl=0;rw[r,beq_iff_eq]
     clear r;go_wp2;go_loopw [14,16,76] (fun v _ i wq=>∃ (k:Nat) (c:Bool),k<=x.ron/\i=int i64 k/\v=.bool c/\(c=true↔b.cl=0∨zbc s x b k)/\Below W.heap.size W wq) (fun _ _ i _=>x.ron - (intOf i).toNat)
     case atStart=>exact⟨0,J,Nat.zero_le _,rfl,rfl,⟨fun h=>.inl (n.out.1 h),fun h=>by rcases h with h|⟨j,hj,_⟩;exact n.out.2 h;exact absurd hj (Nat.not_lt_zero _)⟩,a8.out⟩
     case round =>
      obtain⟨k,c3,hk,rfl,rfl,m,a⟩:=hrel;have D:=hI m;clear m b9 a1 Z n
      by_cases hlt:k<x.ron
      ·obtain⟨u,A,rfl,E,L,g3,g4⟩:=b5.out k hlt
       have g:=World.block_lt_of_cell? w _ E;have f:=zj O.out a;have d1:=(f.cell (p:=⟨u,A+k*4,none⟩) g).trans E;have d2:=(f.cell (p:=⟨u,A+k*4+1,none⟩) g).trans L;have d3:=(f.cell (p:=⟨u,A+k*4+2,none⟩) g).trans g3;have d4:=(f.cell (p:=⟨u,A+k*4+3,none⟩) g).trans g4;obtain⟨i0,i1⟩:=b0.out k hlt;obtain⟨cb,co,rfl,k1,k2⟩:=a9.out (x.ro k).cab.toNat (by omega)
       have c7:=World.block_lt_of_cell? w _ k1;have c1:∀ o,(B.alloc o).cell? ⟨cb,co+(x.ro k).cab.toNat*2,none⟩=some (int i64 (s.ca.A (x.ro k).cab.toNat)):=fun o=>(((f.alloc f.size o).cell (p:=⟨cb,co+(x.ro k).cab.toNat*2,none⟩) c7)).trans k1
       have R:∀ o,(B.alloc o).cell? ⟨w.heap.size+1+1,1,none⟩=some (int i64 b.who):=fun o=>za (ze (zc bB a) o) 1 _ rfl
       have a1:∀ o,(B.alloc o).cell? ⟨w.heap.size+1+1+1,3,none⟩=some (int i64 b.cl):=fun o=>za (ze (zc K a) o) 3 _ rfl
       obtain⟨q,hq⟩:∃ q,q=b.all:=⟨_,rfl⟩;have HQ:=hI hq;have c9:∀ o,(B.alloc o).cell? ⟨w.heap.size+1+1+1,4,none⟩=some (.bool q):=fun o=>by rw[hq];exact za (ze (zc K a) o) 4 _ rfl
       clear hq;have d0:∀ o,(B.alloc o).cell? ⟨w.heap.size+1+1+1,5,none⟩=some (int i64 b.be):=fun o=>za (ze (zc K a) o) 5 _ rfl
       have d5:∀ o,(B.alloc o).cell? ⟨w.heap.size,6,none⟩=some (.slice (some ⟨cb,co,none⟩) s.ca.n cc):=fun o=>za (ze (zc bS a) o) 6 _ rfl
       clear E L g3 g4 k1 k2 f
       cases c3 with
       | true =>
        go_wp2;go_quiet (fail);go_wp2;go_roundw
        case rel=>exact⟨k+1,true,by omega,by go_num,rfl,⟨fun _=>(D.out.1 (by simp)).imp id (fun h=>Z9.2 (.inl h)),fun _=>rfl⟩,below_drewN (zr a _) _⟩
        case measure=>simp[intOf];omega
       | false =>
        have l:Hid (¬ (b.cl=0∨zbc s x b k)):=fun h=>by have:=D.out.2 h;cases this
        clear D
        by_cases e1:(x.ro k).who=b.who
        ·have X:((x.ro k).who == b.who)=true:=by simpa using e1
         by_cases e2:(x.ro k).all=q
         ·have t:((x.ro k).all == q)=true:=by simpa using e2
          by_cases e3:s.ca.A (x.ro k).cab.toNat=b.cl
          ·have Y:(s.ca.A (x.ro k).cab.toNat == b.cl)=true:=by simpa using e3
           by_cases e4:q=true
           ·have c4:(x.ro k).all=true:=e2.trans e4
            have P:Hid (b.cl=0∨zbc s x b (k+1)):=.inr (Z9.2 (.inr ⟨e1,e2.trans HQ.out,e3,.inl (HQ.out.symm.trans e4)⟩));clear e1 e2 e3 t;go_wp2;go_quiet (fail);go_wp2;go_roundw
            case rel=>exact⟨k+1,true,by omega,by go_num,rfl,⟨fun _=>P.out,fun _=>rfl⟩,below_drewN (zr a _) _⟩
            case measure=>simp[intOf];omega
           ·have c5:q=false:=by cases h:q;rfl;exact absurd h e4
            have c4:(x.ro k).all=false:=e2.trans c5
            by_cases e5:(x.ro k).many=b.be
            ·have c6:((x.ro k).many == b.be)=true:=by simpa using e5
             have P:Hid (b.cl=0∨zbc s x b (k+1)):=.inr (Z9.2 (.inr ⟨e1,e2.trans HQ.out,e3,.inr e5⟩));clear e1 e2 e3 e4 e5 t;go_wp2;go_quiet (fail);go_wp2;go_roundw
             case rel=>exact⟨k+1,true,by omega,by go_num,rfl,⟨fun _=>P.out,fun _=>rfl⟩,below_drewN (zr a _) _⟩
             case measure=>simp[intOf];omega
            ·have c6:((x.ro k).many == b.be)=false:=by simpa using e5
             have d:Hid (¬ (b.cl=0∨zbc s x b (k+1))):=fun h=>by rcases h with h|h;exact l.out (.inl h);rcases Z9.1 h with h|h;exact l.out (.inr h);exact(by rcases h.2.2.2 with h|h;exact e4 (HQ.out.trans h);exact e5 h)
             clear e1 e2 e3 e4 e5 t;go_wp2;go_quiet (fail);go_wp2;go_roundw
             case rel=>exact⟨k+1,false,by omega,by go_num,rfl,⟨fun h=>(by cases h),fun h=>absurd h d.out⟩,below_drewN (zr a _) _⟩
             case measure=>simp[intOf];omega
          ·have Y:(s.ca.A (x.ro k).cab.toNat == b.cl)=false:=by simpa using e3
           have d:Hid (¬ (b.cl=0∨zbc s x b (k+1))):=fun h=>by rcases h with h|h;exact l.out (.inl h);rcases Z9.1 h with h|h;exact l.out (.inr h);exact e3 h.2.2.1
           clear e1 e2 e3;go_wp2;go_quiet (fail);go_wp2;go_roundw
           case rel=>exact⟨k+1,false,by omega,by go_num,rfl,⟨fun h=>(by cases h),fun h=>absurd h d.out⟩,below_drewN (zr a _) _⟩
           case measure=>simp[intOf];omega
         ·have t:((x.ro k).all == q)=false:=by simpa using e2
          have d:Hid (¬ (b.cl=0∨zbc s x b (k+1))):=fun h=>by rcases h with h|h;exact l.out (.inl h);rcases Z9.1 h with h|h;exact l.out (.inr h);exact e2 (h.2.1.trans HQ.out.symm)
          clear e1 e2;go_wp2;go_quiet (fail);go_wp2;go_roundw
          case rel=>exact⟨k+1,false,by omega,by go_num,rfl,⟨fun h=>(by cases h),fun h=>absurd h d.out⟩,below_drewN (zr a _) _⟩
          case measure=>simp[intOf];omega
        ·have X:((x.ro k).who == b.who)=false:=by simpa using e1
         have d:Hid (¬ (b.cl=0∨zbc s x b (k+1))):=fun h=>by rcases h with h|h;exact l.out (.inl h);rcases Z9.1 h with h|h;exact l.out (.inr h);exact e1 h.1
         clear e1;go_wp2;go_quiet (fail);go_wp2;go_roundw
         case rel=>exact⟨k+1,false,by omega,by go_num,rfl,⟨fun h=>(by cases h),fun h=>absurd h d.out⟩,below_drewN (zr a _) _⟩
         case measure=>simp[intOf];omega
      ·obtain rfl:k=x.ron:=by omega
       have HF:=hI (zj O.out a);have HS:Hid (zbd s x b↔c=true/\c2=true/\c3=true):=by
        show zbd s x b↔c=true/\c2=true/\c3=true
        unfold zbd;rw[HC.out,C.out,D.out]
       clear a hk hlt HC C D
       cases c with
       | false =>
        go_wp2;go_ret;exact⟨zC (fun h=>by have h:=HS.out.1 h;simp at h),HF.out⟩
       | true =>
        cases c2 with
        | false =>
         go_wp2;go_ret;exact⟨zC (fun h=>by have h:=HS.out.1 h;simp at h),HF.out⟩
        | true =>
         cases c3 with
         | false =>
          go_wp2;go_ret;exact⟨zC (fun h=>by have h:=HS.out.1 h;simp at h),HF.out⟩
         | true =>
          go_wp2;go_ret;exact⟨says_yes (HS.out.2 (by simp)),HF.out⟩
def zbB (b:ZK)(y:OpD):Prop:=¬ zee b∨(y.kind=4/\b.state≠1)∨(y.kind=8/\(b.state≠1∨y.now<=b.unt))
def zcr (R m:Nat)(x:Off)(y:OpD)(code:Int):Prop:=(R<=m->code=3)/\(m<R->zbB (x.bk m) y->code=4)/\(m<R->¬ zbB (x.bk m) y->code=0)
theorem QZ (i g f r:Option Addr)(N M R n l j s m:Nat)(x:Off)(y:OpD)(w:World)(hR:R<=1048576)(d7:m<=1048576)(b5:y.name=(m:Int)+1)(Z:ZU w f R x.bk) :
  Calls Tryz.prog 137 #[.agg #[.slice i N n,.slice g M l,.slice f R j],.agg #[int i64 y.kind,.string y.own,int i64 y.name,.slice r y.lgn s,int i64 y.pe,int i64 y.len,int i64 y.hei,int i64 y.cl,.bool y.all,int i64 y.be,int i64 y.unt,int i64 y.now]] w fun e w'=>(∃ code:Int,e=.returned (int i64 code)/\zcr R m x y code)/\Below w.heap.size w w':=by
 have a5:=hI Z;clear Z;rw[b5];have a:Below w.heap.size w ((w.alloc (.cells #[.slice i N n,.slice g M l,.slice f R j] 66)).alloc (.cells #[int i64 y.kind,.string y.own,int i64 ((m:Int)+1),.slice r y.lgn s,int i64 y.pe,int i64 y.len,int i64 y.hei,int i64 y.cl,.bool y.all,int i64 y.be,int i64 y.unt,int i64 y.now] 27)):=zr (zr bZ _) _;have U:((w.alloc (.cells #[.slice i N n,.slice g M l,.slice f R j] 66)).alloc (.cells #[int i64 y.kind,.string y.own,int i64 ((m:Int)+1),.slice r y.lgn s,int i64 y.pe,int i64 y.len,int i64 y.hei,int i64 y.cl,.bool y.all,int i64 y.be,int i64 y.unt,int i64 y.now] 27)).heap[w.heap.size]?=some (.cells #[.slice i N n,.slice g M l,.slice f R j] 66 (0,0)):=ze (heap_alloc_new w _) _;have K:((w.alloc (.cells #[.slice i N n,.slice g M l,.slice f R j] 66)).alloc (.cells #[int i64 y.kind,.string y.own,int i64 ((m:Int)+1),.slice r y.lgn s,int i64 y.pe,int i64 y.len,int i64 y.hei,int i64 y.cl,.bool y.all,int i64 y.be,int i64 y.unt,int i64 y.now] 27)).heap[w.heap.size+1]?=some (.cells #[int i64 y.kind,.string y.own,int i64 ((m:Int)+1),.slice r y.lgn s,int i64 y.pe,int i64 y.len,int i64 y.hei,int i64 y.cl,.bool y.all,int i64 y.be,int i64 y.unt,int i64 y.now] 27 (0,0)):=by simpa using heap_alloc_new (w.alloc (.cells #[.slice i N n,.slice g M l,.slice f R j] 66)) _
 by_cases hlt:m<R
 case neg =>
  have HC:zcr R m x y 3:=⟨fun _=>rfl,fun h=>absurd h hlt,fun h=>absurd h hlt⟩
  have d0:decide ((R:Int)<(m:Int)+1)=true:=decide_eq_true (by omega)
  have d1:(R:Int)<(m:Int)+1:=by omega
  go_enter Tryz.func137,Tryz.ntmps137;go_upto_region 1 with fail;generalize (w.alloc (.cells #[.slice i N n,.slice g M l,.slice f R j] 66)).alloc (.cells #[int i64 y.kind,.string y.own,int i64 ((m:Int)+1),.slice r y.lgn s,int i64 y.pe,int i64 y.len,int i64 y.hei,int i64 y.cl,.bool y.all,int i64 y.be,int i64 y.unt,int i64 y.now] 27)=V at a U K ⊢;have f2:=za U 2 _ rfl;have o2:=za K 2 _ rfl;go_wp2;go_ret;exact⟨⟨3,rfl,HC⟩,a⟩
 obtain⟨Cc,a1,a0⟩:=a5.out;obtain⟨d,off,B,o⟩:=a1 m hlt;have Q:=hI B;clear B;obtain⟨u,t,G,g1,s1⟩:=a0 m hlt;obtain⟨b,H⟩:∃ b,b=x.bk m:=⟨_,rfl⟩;rw[← H] at G;have a3:=hI H.symm;rw[G] at o;have c:=World.block_lt_of_cell? w _ (o 0 (by decide))
 have d0:decide ((R:Int)<(m:Int)+1)=false:=decide_eq_false (by omega)
 have i0:(0:Int)<=(m:Int):=by omega
 have i1:(m:Int)<(R:Int):=by omega
 have b8:IntKind.i64.wrap ((m:Int)+1 - 1)=(m:Int):=by rw[IntKind.wrap_i64];omega
 have A:Hid (∀ q:Bool,(q=true↔zbB b y)->zcr R m x y (if q=true then (4:Int) else 0)):=fun q hq=>by
  unfold zcr;rw[a3.out];exact⟨fun h=>absurd hlt (by omega),fun _ h=>if_pos (hq.2 h),fun _ h=>if_neg (fun e=>h (hq.1 e))⟩
 go_enter Tryz.func137,Tryz.ntmps137;go_upto_region 1 with fail;generalize (w.alloc (.cells #[.slice i N n,.slice g M l,.slice f R j] 66)).alloc (.cells #[int i64 y.kind,.string y.own,int i64 ((m:Int)+1),.slice r y.lgn s,int i64 y.pe,int i64 y.len,int i64 y.hei,int i64 y.cl,.bool y.all,int i64 y.be,int i64 y.unt,int i64 y.now] 27)=V at a U K ⊢;have f2:=za U 2 _ rfl;rw[Q.out] at f2;have o2:=za K 2 _ rfl;have c0:V.cell? ⟨d,off+m*13,none⟩=some (int i64 b.name):=(a.cell (p:=⟨d,off+m*13,none⟩) c).trans (o 0 (by decide))
 have c1:V.cell? ⟨d,off+m*13+1,none⟩=some (int i64 b.who):=(a.cell (p:=⟨d,off+m*13+1,none⟩) c).trans (o 1 (by decide))
 have c2:V.cell? ⟨d,off+m*13+2,none⟩=some (.string b.own):=(a.cell (p:=⟨d,off+m*13+2,none⟩) c).trans (o 2 (by decide))
 have c3:V.cell? ⟨d,off+m*13+3,none⟩=some (.slice u b.lgn t):=(a.cell (p:=⟨d,off+m*13+3,none⟩) c).trans (o 3 (by decide))
 have c4:V.cell? ⟨d,off+m*13+4,none⟩=some (int i64 b.pe):=(a.cell (p:=⟨d,off+m*13+4,none⟩) c).trans (o 4 (by decide))
 have c5:V.cell? ⟨d,off+m*13+5,none⟩=some (int i64 b.len):=(a.cell (p:=⟨d,off+m*13+5,none⟩) c).trans (o 5 (by decide))
 have c6:V.cell? ⟨d,off+m*13+6,none⟩=some (int i64 b.hei):=(a.cell (p:=⟨d,off+m*13+6,none⟩) c).trans (o 6 (by decide))
 have c7:V.cell? ⟨d,off+m*13+7,none⟩=some (int i64 b.cl):=(a.cell (p:=⟨d,off+m*13+7,none⟩) c).trans (o 7 (by decide))
 have c8:V.cell? ⟨d,off+m*13+8,none⟩=some (.bool b.all):=(a.cell (p:=⟨d,off+m*13+8,none⟩) c).trans (o 8 (by decide))
 have c9:V.cell? ⟨d,off+m*13+9,none⟩=some (int i64 b.be):=(a.cell (p:=⟨d,off+m*13+9,none⟩) c).trans (o 9 (by decide))
 have a6:V.cell? ⟨d,off+m*13+10,none⟩=some (int i64 b.state):=(a.cell (p:=⟨d,off+m*13+10,none⟩) c).trans (o 10 (by decide))
 have a7:V.cell? ⟨d,off+m*13+11,none⟩=some (int i64 b.unt):=(a.cell (p:=⟨d,off+m*13+11,none⟩) c).trans (o 11 (by decide))
 have a8:V.cell? ⟨d,off+m*13+12,none⟩=some (int i64 b.price):=(a.cell (p:=⟨d,off+m*13+12,none⟩) c).trans (o 12 (by decide))
 have X:=heap_alloc_new V (.cells #[int i64 b.name,int i64 b.who,.string b.own,.slice u b.lgn t,int i64 b.pe,int i64 b.len,int i64 b.hei,int i64 b.cl,.bool b.all,int i64 b.be,int i64 b.state,int i64 b.unt,int i64 b.price] 131);have pX:Below V.heap.size V (V.alloc (.cells #[int i64 b.name,int i64 b.who,.string b.own,.slice u b.lgn t,int i64 b.pe,int i64 b.len,int i64 b.hei,int i64 b.cl,.bool b.all,int i64 b.be,int i64 b.state,int i64 b.unt,int i64 b.price] 131)):=zr bZ _;have D:=ze K (.cells #[int i64 b.name,int i64 b.who,.string b.own,.slice u b.lgn t,int i64 b.pe,int i64 b.len,int i64 b.hei,int i64 b.cl,.bool b.all,int i64 b.be,int i64 b.state,int i64 b.unt,int i64 b.price] 131);clear o G g1 s1 a1 a0 H;go_upto_region 4 with fail;have F:=zj a pX;generalize V.heap.size=xb at X ⊢;generalize V.alloc (.cells #[int i64 b.name,int i64 b.who,.string b.own,.slice u b.lgn t,int i64 b.pe,int i64 b.len,int i64 b.hei,int i64 b.cl,.bool b.all,int i64 b.be,int i64 b.state,int i64 b.unt,int i64 b.price] 131)=W at X pX D F ⊢;clear c0 c1 c2 c3 c4 c5 c6 c7 c8 c9 a6 a7 a8 f2 o2 U K a pX i0 i1 b8 d0;obtain⟨y0,y1,y2,y3,y4,y5,y6,y7,y8,y9,b9,d5,d6⟩:=ce13 X;obtain⟨v,I⟩:∃ v:Bool,v=(b.state == 1):=⟨_,rfl⟩;have b6:(b.state == 1)=v:=I.symm;have T:Hid (v=true↔b.state=1):=by rw[I];exact beq_iff_eq
 clear I;obtain⟨C,J⟩:∃ C:Bool,C=decide (zee b):=⟨_,rfl⟩;have S:Hid (C=true↔zee b):=by rw[J];exact decide_eq_true_iff
 have cl:=zcq b u t W;rw[← J] at cl;clear J;go_wp2_with fail;refine cl.mono ?_;clear cl;rintro e w4 ⟨rfl,z⟩;have Y:=zc X z;have E:=zc D z;have a2:=hI (zj F z);clear y0 y1 y2 y3 y4 y5 y6 y7 y8 y9 b9 d5 d6 X D F z b6;have d9:=za Y 11 _ rfl;have o0:=za E 0 _ rfl;have d8:=za E 11 _ rfl;obtain⟨L,a9⟩:∃ k:Bool,(y.kind == 4)=k:=⟨_,rfl⟩;obtain⟨O,b0⟩:∃ k:Bool,(y.kind == 8)=k:=⟨_,rfl⟩;obtain⟨P,b7⟩:∃ k:Bool,decide (y.now<=b.unt)=k:=⟨_,rfl⟩;have HQ:Hid ((!C || (L && !v) || (O && (!v || P)))=true↔zbB b y):=by
  show(!C || (L && !v) || (O && (!v || P)))=true↔zbB b y
  have e4:L=true↔y.kind=4:=by rw[← a9];exact beq_iff_eq
  have e8:O=true↔y.kind=8:=by rw[← b0];exact beq_iff_eq
  have eu:P=true↔y.now<=b.unt:=by rw[← b7];exact decide_eq_true_iff
  have el:=S.out;have es:=T.out;unfold zbB;rw[← el,← e4,← e8,← eu,Ne,← es]
  cases C <;> cases L <;> cases O <;> cases v <;> cases P <;> simp
 clear Y E S T;have HX:Hid (zcr R m x y (if (!C || (L && !v) || (O && (!v || P)))=true then (4:Int) else 0)):=A.out _ HQ.out
 clear HQ A
 cases C <;> cases L <;> cases O <;> cases v <;> cases P
 all_goals
  go_wp2;go_ret;exact⟨⟨_,rfl,HX.out⟩,a2.out⟩
end Go.Proofs.YtfallpinmhbemaaGreatDoor
