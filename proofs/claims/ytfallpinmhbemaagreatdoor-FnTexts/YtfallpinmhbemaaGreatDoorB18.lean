/-
  OWN TEXT: SpecIn2, SpecD1, SpecD2, PlaceS0, SpecCab.
-/
import Derived.Deep.LoopGhost
import Derived.Deep.DeepCutAuto
import Derived.Test.YtfallpinmhbemaaGreatDoorB15
namespace Go.Proofs.YtfallpinmhbemaaGreatDoor
open Go.RowKit
open Go.Value (int)
open Go.IntKind (i64)
set_option maxHeartbeats 64000000
set_option maxRecDepth 100000
theorem ZE (x:Int)(w:World) :
  Calls Tryz.prog 119 #[int i64 x] w fun e w'=>e=.returned (.bool (decide (In x 1 9999)))/\w'=w:=by
 go_enter Tryz.func119,Tryz.ntmps119;go_wp2_with (first|(go_at_call 19;refine(zx _ _ _ _).mono ?_;rintro e w' ⟨rfl,rfl⟩))
 go_ret;exact⟨rfl,rfl⟩
theorem zha (q:Option Addr)(n c:Nat)(p:qi)(w:World)(hl:p.n=n)(hn:n<=1048576)(x:qd w q p) :
  Calls Tryz.prog 129 #[.slice q n c] w fun e w'=>SaysIf (zgO p) e/\Below w.heap.size w w':=by
 have f:=hI hl;clear hl
 by_cases h0:n<=4
 ·have r:decide (4<n)=false:=by simp;omega
  go_enter Tryz.func129,Tryz.ntmps129;go_wp2;go_loopw [4,10] (fun _ i y=>∃ k:Nat,k<=n/\i=int i64 k/\(∀ j,j<k->In (p.A j) 1 5000/\In (p.B j) 100 500)/\Below w.heap.size w y) (fun _ i _=>n - (intOf i).toNat)
  case atStart=>exact⟨0,Nat.zero_le _,rfl,fun j l=>by omega,bZ⟩
  case round =>
   obtain⟨k,hk,rfl,d,a⟩:=hrel;have o:=hI d;clear d r
   by_cases hlt:k<n
   ·obtain⟨b,off,rfl,m,s⟩:=x k (by rw[f.out];omega)
    have t:=World.block_lt_of_cell? w _ m;have c1:=(a.cell (p:=⟨b,off+k*2,none⟩) t).trans m;have c2:=(a.cell (p:=⟨b,off+k*2+1,none⟩) t).trans s;clear m s
    by_cases g1:In (p.A k) 1 5000
    ·have u:decide (In (p.A k) 1 5000)=true:=decide_eq_true g1
     by_cases g2:In (p.B k) 100 500
     ·have v:decide (In (p.B k) 100 500)=true:=decide_eq_true g2
      have g:Hid (In (p.A k) 1 5000/\In (p.B k) 100 500):=⟨g1,g2⟩;clear g1 g2;go_wp2_with (first|(go_at_call 19;refine sC (zx _ _ _ _) ?_))
      go_roundw
      case rel=>exact⟨k+1,by omega,by go_num,fun j l=>by
       by_cases e:j=k
       ·subst e;exact g.out
       ·exact o.out j (by omega),zr a _⟩
      case measure=>simp[intOf];omega
     ·have v:decide (In (p.B k) 100 500)=false:=decide_eq_false g2
      have g:=hI g2;clear g1 g2;go_wp2_with (first|(go_at_call 19;refine sC (zx _ _ _ _) ?_))
      go_ret;exact⟨zC (fun h=>g.out (h.2 k (by rw[f.out];exact hlt)).2),zr a _⟩
    ·have u:decide (In (p.A k) 1 5000)=false:=decide_eq_false g1
     have g:=hI g1;clear g1;go_wp2_with (first|(go_at_call 19;refine sC (zx _ _ _ _) ?_))
     go_ret;exact⟨zC (fun h=>g.out (h.2 k (by rw[f.out];exact hlt)).1),zr a _⟩
   ·obtain rfl:k=n:=by omega
    go_wp2;go_ret;exact⟨says_yes ⟨by rw[f.out];exact h0,fun j l=>o.out j (by rw[f.out] at l;exact l)⟩,a⟩
 ·have r:decide (4<n)=true:=by simp;omega
  go_enter Tryz.func129,Tryz.ntmps129;go_wp2;go_ret;exact⟨zC (fun h=>by have:=h.1;rw[f.out] at this;exact h0 this),bZ⟩
theorem zga (m:Option Addr)(n c:Nat)(S:Nat->ZX)(x:Int)(w:World)(hn:n<=1048576)(v:Zv w m n S) :
  Calls Tryz.prog 130 #[.slice m n c,int i64 x] w fun e w'=>SaysIf (Has (Q8 S) n x) e/\Below w.heap.size w w':=by
 go_enter Tryz.func130,Tryz.ntmps130;go_wp2;go_loopw [6,9] (fun _ i y=>∃ k:Nat,k<=n/\i=int i64 k/\(∀ j,j<k->Q8 S j≠x)/\Below w.heap.size w y) (fun _ i _=>n - (intOf i).toNat)
 case atStart=>exact⟨0,Nat.zero_le _,rfl,fun j u=>by omega,bZ⟩
 case round =>
  obtain⟨k,hk,rfl,d,a⟩:=hrel;have l:=hI d;clear d
  by_cases hlt2:k<n
  ·obtain⟨b,off,rfl,h,o,q,r⟩:=v k hlt2
   have f:=World.block_lt_of_cell? w _ h;have c0:=(a.cell (p:=⟨b,off+k*4,none⟩) f).trans h;have c1:=(a.cell (p:=⟨b,off+k*4+1,none⟩) f).trans o;have c2:=(a.cell (p:=⟨b,off+k*4+2,none⟩) f).trans q;have c3:=(a.cell (p:=⟨b,off+k*4+3,none⟩) f).trans r;clear h o q r
   by_cases he:Q8 S k=x
   ·have t:((S k).who == x)=true:=by unfold Q8 at he;simpa using he
    have g:Hid (Has (Q8 S) n x):=⟨k,hlt2,he⟩;clear he;go_wp2;go_ret;exact⟨says_yes g.out,zr a _⟩
   ·have t:((S k).who == x)=false:=by unfold Q8 at he;simpa using he
    have s:=hI he;clear he;go_wp2;go_roundw
    case rel=>exact⟨k+1,by omega,by go_num,fun j u=>by
     by_cases e:j=k
     ·subst e;exact s.out
     ·exact l.out j (by omega),zr a _⟩
    case measure=>simp[intOf];omega
  ·obtain rfl:k=n:=by omega
   have g:=hI (zgL l.out);go_wp2;go_ret;exact⟨zC g.out,a⟩
theorem zep (J K:Option Addr)(m mc n c:Nat)(p:qi)(S:Nat->ZX)(w:World)(hl:p.n=m)(B:zgO p)(hn:n<=60)(Q:∀ j,j<n->In (S j).len 1 2000)(T:qd w J p)(U:Zv w K n S) :
  Calls Tryz.prog 131 #[.slice J m mc,.slice K n c] w fun e w'=>(∃ v,e=.returned v/\w'.ownsRow w.heap.size 3 1 v m (zJ (QF p S n) m))/\Below w.heap.size w w':=by
 obtain⟨j0,ji,E,F,G⟩:=info_parts Tryz.infoInt;have y:=hI hl;have H:=hI B;have I:=hI Q;have X:=hI T;have Y:=hI U;have a0:m<=4:=by rw[← hl];exact B.1
 clear hl B Q T U;go_enter Tryz.func131,Tryz.ntmps131;go_wp2;go_loopw [5,6,7,8,10,13,20,21,22] (fun v _ _ _ _ i _ _ _ s=>∃ k:Nat,k<=m/\i=int i64 k/\s.ownsRow w.heap.size 3 1 v k (zJ (QF p S n) k)/\Below w.heap.size w s) (fun _ _ _ _ _ i _ _ _ _=>m - (intOf i).toNat)
 case atStart=>exact⟨0,Nat.zero_le _,rfl,⟨rfl,.inl ⟨rfl,rfl⟩⟩,bZ⟩
 case round =>
  obtain⟨k,hk,rfl,l,f⟩:=hrel
  by_cases hlt:k<m
  ·obtain⟨b,off,rfl,q,r⟩:=X.out k (by rw[y.out];exact hlt)
   have O:=World.block_lt_of_cell? w _ q;have L:=(f.cell (p:=⟨b,off+k*2,none⟩) O).trans q;have M:=(f.cell (p:=⟨b,off+k*2+1,none⟩) O).trans r;have HA:Hid (In (p.A k) 1 5000):=(H.out.2 k (by rw[y.out];exact hlt)).1
   clear q r;go_wp2;go_loopw [8,10,22] (fun s8 _ i V=>∃ t:Nat,t<=n/\i=int i64 t/\s8=int i64 (QF p S t k)/\V.ownsRow w.heap.size 3 1 u5 k (zJ (QF p S n) k)/\Below w.heap.size w V) (fun _ _ i _=>n - (intOf i).toNat)
   case atStart=>exact⟨0,Nat.zero_le _,rfl,by rw[left_0],zm (zr bZ _) l,zr f _⟩
   case round =>
    obtain⟨t,ht,rfl,rfl,d,a⟩:=hrel;clear l f L M
    by_cases hlt2:t<n
    ·obtain⟨b2,g,rfl,A,q,r,N⟩:=Y.out t hlt2
     have o:=World.block_lt_of_cell? w _ A;have c0:=(a.cell (p:=⟨b2,g+t*4,none⟩) o).trans A;have L:=(a.cell (p:=⟨b2,g+t*4+1,none⟩) o).trans q;have M:=(a.cell (p:=⟨b2,g+t*4+2,none⟩) o).trans r;have c3:=(a.cell (p:=⟨b2,g+t*4+3,none⟩) o).trans N;clear A q r N
     by_cases he:(S t).ln=(k:Int)
     ·have Z:((S t).ln == (k:Int))=true:=by simpa using he
      have x:=hI he;have a2:IntKind.i64.wrap (QF p S t k - (S t).len)=QF p S t k - (S t).len:=by
       have q:=zgP H.out (show t<=60 by omega) (fun j P=>I.out j (by omega)) (show k<p.n by rw[y.out];exact hlt)
       have r:=I.out t hlt2;unfold In at r;rw[IntKind.wrap_i64];omega
      clear he;go_wp2;go_roundw
      case rel=>exact⟨t+1,by omega,by go_num,by rw[zeI p S t k x.out],zm (zr bZ _) d,zr a _⟩
      case measure=>simp[intOf];omega
     ·have Z:((S t).ln == (k:Int))=false:=by simpa using he
      have x:=hI he;clear he;go_wp2;go_roundw
      case rel=>exact⟨t+1,by omega,by go_num,by rw[zgM p S t k x.out],zm (zr bZ _) d,zr a _⟩
      case measure=>simp[intOf];omega
    ·obtain rfl:t=n:=by omega
     have a1:=a.size;have W:Hid (∀ z,(some ⟨s.heap.size,0,none⟩:Option Addr)=some z->∀ j u,[Value.int .i64 (QF p S t k)][j]?=some u->(s.alloc (.cells #[int i64 (QF p S t k)] 3)).cell? (z.add j)=some u):=by
      intro z e
      cases e
      exact World.news_of_block (heap_alloc_new s _)
     go_wp2_with (first|(at_builtin;refine zz _ (by rfl) (.tmp 35) (.tmp 37) 23 (by rfl) w.heap.size 3 j0 (int i64 0) 1 8 Tryz.underlying23 ji E F G rfl (by decide) _ k (zJ (QF p S t) k) (by rfl) (d.alloc _) (some ⟨s.heap.size,0,none⟩) 1 1 [int i64 (QF p S t k)] (by rfl) (fun h=>(by cases h)) (by rfl) W.out (by intro u R;simp at R;subst R;rfl) (by unfold maxLen;omega) (by omega) (by simp;omega) ?_;intro v' w3 D C))
     go_roundw
     case rel=>exact⟨k+1,by omega,by go_num,by rw[intList_succ];exact D,(zr a _).grown C (by simp;omega) (fun j P=>(d.lt j P).1)⟩
     case measure=>simp[intOf];omega
  ·obtain rfl:k=m:=by omega
   go_wp2;go_ret;exact⟨⟨_,rfl,l⟩,f⟩
theorem zgb (O bo:Option Addr)(m mc n c:Nat)(p:qi)(S:Nat->ZX)(w:World)(hl:p.n=m)(hm:m<=1048576)(hn:n<=1048576)(hc:n<=c)(hx:qd w O p)(hz:Zv w bo n S) :
  Calls Tryz.prog 112 #[.slice O m mc,.slice bo n c] w fun e w'=>SaysIf (DeckS p n S) e/\Below w.heap.size w w':=by
 have z:=hI hl;have HX:=hI hx;have N:=hI hz;clear hl hx hz;go_enter Tryz.func112,Tryz.ntmps112;go_wp2_with fail;refine(zha O m mc p _ z.out hm HX.out).mono ?_;rintro e w1 ⟨⟨q,rfl,U⟩,x⟩
 cases q with
 | false =>
  have G:Hid (¬ zgO p):=fun h=>by have:=U.2 h;cases this
  clear U;go_wp2;go_ret;exact⟨zC (fun h=>G.out h.1),x⟩
 | true =>
  have G:Hid (zgO p):=U.1 rfl;have a5:m<=4:=by rw[← z.out];exact G.out.1
  clear U
  by_cases h60:n<=60
  ·have d0:decide (60<n)=false:=by simp;omega
   have a6:IntKind.i64.wrap ((m:Int) - 1)=(m:Int) - 1:=by rw[IntKind.wrap_i64];omega
   go_wp2;go_loopw [5,6,19] (fun _ _ i t=>∃ k:Nat,k<=n/\i=int i64 k/\(∀ j,j<k->OkS p S j)/\Below w.heap.size w t) (fun _ _ i _=>n - (intOf i).toNat)
   case atStart=>exact⟨0,Nat.zero_le _,rfl,fun j A=>by omega,x⟩
   case round =>
    obtain⟨i,T,rfl,r,a⟩:=hrel;have HA:=hI r;clear r x
    by_cases hlt:i<n
    ·obtain⟨b,off,rfl,Q,h1,h2,h3⟩:=N.out i hlt
     have R:=World.block_lt_of_cell? w _ Q;have c0:=(a.cell (p:=⟨b,off+i*4,none⟩) R).trans Q;have c1:=(a.cell (p:=⟨b,off+i*4+1,none⟩) R).trans h1;have c2:=(a.cell (p:=⟨b,off+i*4+2,none⟩) R).trans h2;have c3:=(a.cell (p:=⟨b,off+i*4+3,none⟩) R).trans h3;have d:=heap_alloc_new t (.cells #[int i64 (S i).who,int i64 (S i).ln,int i64 (S i).len,int i64 (S i).hei] 186);have f:=zr a (.cells #[int i64 (S i).who,int i64 (S i).ln,int i64 (S i).len,int i64 (S i).hei] 186);clear Q h1 h2 h3;go_upto_region 6 with fail;generalize hW:t.alloc (.cells #[int i64 (S i).who,int i64 (S i).ln,int i64 (S i).len,int i64 (S i).hei] 186)=W at d f ⊢;clear hW;have y:t.heap.size<W.heap.size:=zZ d;have z0:∀ g:qe W,g.val.cell? ⟨t.heap.size,0,none⟩=some (int i64 (S i).who):=fun g=>(g.bel.cell y).trans (za d 0 _ rfl)
     have z1:∀ g:qe W,g.val.cell? ⟨t.heap.size,1,none⟩=some (int i64 (S i).ln):=fun g=>(g.bel.cell y).trans (za d 1 _ rfl)
     have z2:∀ g:qe W,g.val.cell? ⟨t.heap.size,2,none⟩=some (int i64 (S i).len):=fun g=>(g.bel.cell y).trans (za d 2 _ rfl)
     have z3:∀ g:qe W,g.val.cell? ⟨t.heap.size,3,none⟩=some (int i64 (S i).hei):=fun g=>(g.bel.cell y).trans (za d 3 _ rfl)
     have i1:(0:Int)<=(i:Int):=by omega
     have i2:(i:Int)<=(c:Int):=by omega
     clear c0 c1 c2 c3 d a
     by_cases g1:In (S i).who 1 9999
     ·have u:decide (In (S i).who 1 9999)=true:=decide_eq_true g1
      have V:=hI g1;clear g1
      by_cases g2:In (S i).ln 0 ((m:Int) - 1)
      ·have X:Hid (In (S i).ln 0 ((p.n:Int) - 1)):=by rw[z.out];exact g2
       obtain⟨l,hl⟩:∃ l:Nat,(S i).ln=l:=⟨(S i).ln.toNat,by unfold In at g2;omega⟩
       have a2:l<m:=by unfold In at g2;omega
       have H:=hI hl;have E:decide (In (l:Int) 0 ((m:Int) - 1))=true:=decide_eq_true (by rw[← hl];exact g2)
       have a7:∀ g:qe W,g.val.cell? ⟨t.heap.size,1,none⟩=some (int i64 (l:Int)):=fun g=>by rw[z1 g,hl]
       obtain⟨b',B,rfl,k1,k2⟩:=HX.out l (by rw[z.out];exact a2)
       have a1:=World.block_lt_of_cell? w _ k1;have y2:∀ g:qe W,g.val.cell? ⟨b',B+l*2+1,none⟩=some (int i64 (p.B l)):=fun g=>((zj f g.bel).cell (p:=⟨b',B+l*2+1,none⟩) a1).trans k2
       have l1:(0:Int)<=(l:Int):=by omega
       have l2:(l:Int)<(m:Int):=by omega
       clear g2 z1 hl k1 k2
       by_cases g3:In (S i).len 1 2000
       ·have I:decide (In (S i).len 1 2000)=true:=decide_eq_true g3
        have Y:=hI g3;clear g3
        by_cases g4:In (S i).hei 1 (p.B l)
        ·have P:decide (In (S i).hei 1 (p.B l))=true:=decide_eq_true g4
         have Z:=hI g4;clear g4
         by_cases g5:Has (Q8 S) i (S i).who
         ·have F:=hI g5
          clear g5;refine zp (by kernel_rfl) (by kernel_rfl) ?_
          repeat(first|go_big_quiet_skip|(go_big_quiet_want;go_big_quiet_op;first|go_big_quiet_on|(apply Exists.intro;refine⟨fun g=>?_,?_⟩;(focus(first|(go_at_call 119;refine zi (v:=.bool true) ((ZE _ _).mono ?_);rintro e o ⟨rfl,rfl⟩;exact⟨by rw[u],bZ⟩)|(go_at_call 19;first|(refine zi (v:=.bool true) ((zx _ _ _ _).mono ?_);rintro e o ⟨rfl,rfl⟩;exact⟨by rw[E],bZ⟩)|(refine zi (v:=.bool true) ((zx _ _ _ _).mono ?_);rintro e o ⟨rfl,rfl⟩;exact⟨by rw[I],bZ⟩)|(refine zi (v:=.bool true) ((zx _ _ _ _).mono ?_);rintro e o ⟨rfl,rfl⟩;exact⟨by rw[P],bZ⟩))|(go_at_call 130;refine zi (v:=.bool true) ((zga _ i c S (S i).who _ (by omega) ((N.out.upto (by omega)).below (zj f g.bel))).mono ?_);rintro e o ⟨⟨bb,rfl,T⟩,D⟩;obtain rfl:=T.2 F.out;exact⟨rfl,D⟩)));go_big_quiet_on)))
          refine wpQuiet_nil ?_;rintro _ ⟨g,rfl⟩;go_wp2;go_ret;exact⟨zC (fun h=>(h.2.2.1 i hlt).2.2.2.2 F.out),zj f g.bel⟩
         ·have F:=hI g5
          clear g5;refine zp (by kernel_rfl) (by kernel_rfl) ?_
          repeat(first|go_big_quiet_skip|(go_big_quiet_want;go_big_quiet_op;first|go_big_quiet_on|(apply Exists.intro;refine⟨fun g=>?_,?_⟩;(focus(first|(go_at_call 119;refine zi (v:=.bool true) ((ZE _ _).mono ?_);rintro e o ⟨rfl,rfl⟩;exact⟨by rw[u],bZ⟩)|(go_at_call 19;first|(refine zi (v:=.bool true) ((zx _ _ _ _).mono ?_);rintro e o ⟨rfl,rfl⟩;exact⟨by rw[E],bZ⟩)|(refine zi (v:=.bool true) ((zx _ _ _ _).mono ?_);rintro e o ⟨rfl,rfl⟩;exact⟨by rw[I],bZ⟩)|(refine zi (v:=.bool true) ((zx _ _ _ _).mono ?_);rintro e o ⟨rfl,rfl⟩;exact⟨by rw[P],bZ⟩))|(go_at_call 130;refine zi (v:=.bool false) ((zga _ i c S (S i).who _ (by omega) ((N.out.upto (by omega)).below (zj f g.bel))).mono ?_);rintro e o ⟨⟨bb,rfl,T⟩,D⟩;obtain rfl:=Bool.eq_false_iff.2 (fun e=>F.out (T.1 e));exact⟨rfl,D⟩)));go_big_quiet_on)))
          refine wpQuiet_nil ?_;rintro _ ⟨g,rfl⟩;go_wp2;have a0:Hid (∀ j,j<i+1->OkS p S j):=fun j A=>by
           by_cases e:j=i
           ·subst e;exact⟨V.out,X.out,Y.out,by rw[H.out];exact Z.out,F.out⟩
           ·exact HA.out j (by omega)
          go_roundw
          case rel=>exact⟨i+1,by omega,by go_num,a0.out,zj f g.bel⟩
          case measure=>simp[intOf];omega
        ·have P:decide (In (S i).hei 1 (p.B l))=false:=decide_eq_false g4
         have Z:=hI g4;clear g4;refine zp (by kernel_rfl) (by kernel_rfl) ?_
         repeat(first|go_big_quiet_skip|(go_big_quiet_want;go_big_quiet_op;first|go_big_quiet_on|(apply Exists.intro;refine⟨fun g=>?_,?_⟩;(focus(first|(go_at_call 119;refine zi (v:=.bool true) ((ZE _ _).mono ?_);rintro e o ⟨rfl,rfl⟩;exact⟨by rw[u],bZ⟩)|(go_at_call 19;first|(refine zi (v:=.bool true) ((zx _ _ _ _).mono ?_);rintro e o ⟨rfl,rfl⟩;exact⟨by rw[E],bZ⟩)|(refine zi (v:=.bool true) ((zx _ _ _ _).mono ?_);rintro e o ⟨rfl,rfl⟩;exact⟨by rw[I],bZ⟩)|(refine zi (v:=.bool false) ((zx _ _ _ _).mono ?_);rintro e o ⟨rfl,rfl⟩;exact⟨by rw[P],bZ⟩))));go_big_quiet_on)))
         refine wpQuiet_nil ?_;rintro _ ⟨g,rfl⟩;go_wp2;go_ret;exact⟨zC (fun h=>Z.out (by have:=(h.2.2.1 i hlt).2.2.2.1;rw[H.out] at this;exact this)),zj f g.bel⟩
       ·have I:decide (In (S i).len 1 2000)=false:=decide_eq_false g3
        have Y:=hI g3;clear g3;refine zp (by kernel_rfl) (by kernel_rfl) ?_
        repeat(first|go_big_quiet_skip|(go_big_quiet_want;go_big_quiet_op;first|go_big_quiet_on|(apply Exists.intro;refine⟨fun g=>?_,?_⟩;(focus(first|(go_at_call 119;refine zi (v:=.bool true) ((ZE _ _).mono ?_);rintro e o ⟨rfl,rfl⟩;exact⟨by rw[u],bZ⟩)|(go_at_call 19;first|(refine zi (v:=.bool true) ((zx _ _ _ _).mono ?_);rintro e o ⟨rfl,rfl⟩;exact⟨by rw[E],bZ⟩)|(refine zi (v:=.bool false) ((zx _ _ _ _).mono ?_);rintro e o ⟨rfl,rfl⟩;exact⟨by rw[I],bZ⟩))));go_big_quiet_on)))
        refine wpQuiet_nil ?_;rintro _ ⟨g,rfl⟩;go_wp2;go_ret;exact⟨zC (fun h=>Y.out (h.2.2.1 i hlt).2.2.1),zj f g.bel⟩
      ·have E:decide (In (S i).ln 0 ((m:Int) - 1))=false:=decide_eq_false g2
       have X:Hid (¬ In (S i).ln 0 ((p.n:Int) - 1)):=by rw[z.out];exact g2
       clear g2;refine zp (by kernel_rfl) (by kernel_rfl) ?_
       repeat(first|go_big_quiet_skip|(go_big_quiet_want;go_big_quiet_op;first|go_big_quiet_on|(apply Exists.intro;refine⟨fun g=>?_,?_⟩;(focus(first|(go_at_call 119;refine zi (v:=.bool true) ((ZE _ _).mono ?_);rintro e o ⟨rfl,rfl⟩;exact⟨by rw[u],bZ⟩)|(go_at_call 19;first|(refine zi (v:=.bool false) ((zx _ _ _ _).mono ?_);rintro e o ⟨rfl,rfl⟩;exact⟨by rw[E],bZ⟩))));go_big_quiet_on)))
       refine wpQuiet_nil ?_;rintro _ ⟨g,rfl⟩;go_wp2;go_ret;exact⟨zC (fun h=>X.out (h.2.2.1 i hlt).2.1),zj f g.bel⟩
     ·have u:decide (In (S i).who 1 9999)=false:=decide_eq_false g1
      have V:=hI g1;clear g1;refine zp (by kernel_rfl) (by kernel_rfl) ?_
      repeat(first|go_big_quiet_skip|(go_big_quiet_want;go_big_quiet_op;first|go_big_quiet_on|(apply Exists.intro;refine⟨fun g=>?_,?_⟩;(focus(first|(go_at_call 119;refine zi (v:=.bool false) ((ZE _ _).mono ?_);rintro e o ⟨rfl,rfl⟩;exact⟨by rw[u],bZ⟩)));go_big_quiet_on)))
      refine wpQuiet_nil ?_;rintro _ ⟨g,rfl⟩;go_wp2;go_ret;exact⟨zC (fun h=>V.out (h.2.2.1 i hlt).1),zj f g.bel⟩
    ·obtain rfl:i=n:=by omega
     go_wp2_with fail;refine(zep O bo m mc i c p S _ z.out G.out h60 (fun j A=>(HA.out j A).2.2.1) (HX.out.below a) (N.out.below a)).mono ?_
     rintro e w2 ⟨⟨v,rfl,s⟩,J⟩;obtain⟨aw,cw,rfl,_⟩:=zt s;have HI:=hI (own_ints s);have K:=zj a J;clear s J a;go_wp2;go_loopw [8,68] (fun _ j t=>∃ k:Nat,k<=m/\j=int i64 k/\(∀ j,j<k->0<=QF p S i j)/\t=w2) (fun _ j _=>m - (intOf j).toNat)
     case atStart=>exact⟨0,Nat.zero_le _,rfl,fun j A=>by omega,rfl⟩
     case round =>
      obtain⟨k,hk,rfl,r,L⟩:=hrel;have M:=L.symm;subst M;clear L;have HK:=hI r;clear r
      by_cases hlt3:k<m
      ·obtain⟨b3,a3,rfl,Q⟩:=HI.out k hlt3
       by_cases hneg:QF p S i k<0
       ·have u:decide (QF p S i k<0)=true:=decide_eq_true hneg
        have C:=hI hneg;clear hneg;go_wp2;go_ret;exact⟨zC (fun h=>by have:=h.2.2.2 k (by rw[z.out];exact hlt3);have:=C.out;omega),K⟩
       ·have u:decide (QF p S i k<0)=false:=decide_eq_false hneg
        have C:=hI hneg;clear hneg;go_wp2;go_roundw
        case rel=>exact⟨k+1,by omega,by go_num,fun j A=>by
         by_cases e:j=k
         ·subst e;have:=C.out;omega
         ·exact HK.out j (by omega),by trivial⟩
        case measure=>simp[intOf];omega
      ·obtain rfl:k=m:=by omega
       go_wp2;go_ret;exact⟨says_yes ⟨G.out,h60,HA.out,fun j A=>HK.out j (by rw[z.out] at A;exact A)⟩,K⟩
  ·have d0:decide (60<n)=true:=by simp;omega
   go_wp2;go_ret;exact⟨zC (fun h=>h60 h.2.1),x⟩
def zbA (p:qi)(n:Nat)(S:Nat->ZX)(len hei:Int)(r:Int):Prop :=
 (∃ k:Nat,r=(k:Int)/\n≠60/\Qy p (QF p S n) len hei k)∨(r=-1/\(n=60∨∀ k,¬ Qy p (QF p S n) len hei k))
theorem zhb (x y:Option Addr)(m M n c:Nat)(p:qi)(S:Nat->ZX)(len hei:Int)(w:World)(hl:p.n=m)(hd:zfO p n S)(K:qd w x p)(L:Zv w y n S) :
  Calls Tryz.prog 140 #[.slice x m M,.slice y n c,int i64 len,int i64 hei] w fun e w'=>(∃ r:Int,e=.returned (int i64 r)/\zbA p n S len hei r)/\Below w.heap.size w w':=by
 have u:=hI hl;have F:=hI hd;have G:=hI K;have P:=hI L;have T:m<=4:=by rw[← hl];exact hd.1.1
 have s:n<=60:=hd.2.1;clear hl hd K L
 by_cases h60:n=60
 ·have z:(n == 60)=true:=by simpa using h60
  have A:((n:Int) == 60)=true:=by simp;omega
  have o:=hI h60;clear h60;go_enter Tryz.func140,Tryz.ntmps140;go_wp2;go_ret;exact⟨⟨_,rfl,.inr ⟨rfl,.inl o.out⟩⟩,bZ⟩
 ·have z:(n == 60)=false:=by simpa using h60
  have A:((n:Int) == 60)=false:=by simp;omega
  have o:=hI h60;clear h60;go_enter Tryz.func140,Tryz.ntmps140;go_wp2_with fail;refine(zep x y m M n c p S _ u.out F.out.1 s F.out.lens G.out P.out).mono ?_;rintro e E ⟨⟨v,rfl,d⟩,f⟩;obtain⟨aw,cw,rfl,_⟩:=zt d;have O:=hI (own_ints d);clear d;go_wp2;go_loopw [10,11,20] (fun _ _ i N=>∃ k:Nat,k<=m/\i=int i64 k/\(∀ j:Nat,j<k->¬ (hei<=p.B j/\len<=QF p S n j))/\Below E.heap.size E N) (fun _ _ i _=>m - (intOf i).toNat)
  case atStart=>exact⟨0,Nat.zero_le _,rfl,fun j J=>by omega,bZ⟩
  case round =>
   obtain⟨k,hk,rfl,g,a⟩:=hrel;have t:=hI g;clear g
   by_cases hlt:k<m
   ·obtain⟨b,off,rfl,B,H⟩:=G.out k (by rw[u.out];exact hlt)
    have I:=World.block_lt_of_cell? w _ B;have c1:=((zj f a).cell (p:=⟨b,off+k*2,none⟩) I).trans B;have c2:=((zj f a).cell (p:=⟨b,off+k*2+1,none⟩) I).trans H;obtain⟨b3,l,rfl,C⟩:=O.out k hlt;have D:=World.block_lt_of_cell? E _ C;have c3:(N.alloc (.cells #[int i64 (p.A k),int i64 (p.B k)] 106)).cell? ⟨b3,l+k,none⟩=some (int i64 (QF p S n k)):=((zr a _).cell (p:=⟨b3,l+k,none⟩) D).trans C;have i1:(0:Int)<=(k:Int):=by omega
    have i2:(k:Int)<(m:Int):=by omega
    clear B H C
    by_cases g1:hei<=p.B k
    ·have Q:decide (hei<=p.B k)=true:=decide_eq_true g1
     by_cases g2:len<=QF p S n k
     ·have R:decide (len<=QF p S n k)=true:=decide_eq_true g2
      have q:Hid (Qy p (QF p S n) len hei k):=⟨by rw[u.out];exact hlt,⟨g1,g2⟩,t.out⟩
      clear g1 g2;go_wp2;go_ret;exact⟨⟨_,rfl,.inl ⟨k,rfl,o.out,q.out⟩⟩,zj f (zr a _)⟩
     ·have R:decide (len<=QF p S n k)=false:=decide_eq_false g2
      have q:Hid (¬ (hei<=p.B k/\len<=QF p S n k)):=fun h=>g2 h.2
      clear g1 g2;go_wp2;go_roundw
      case rel=>exact⟨k+1,by omega,by go_num,fun j J=>by
       by_cases e:j=k
       ·subst e;exact q.out
       ·exact t.out j (by omega),zr a _⟩
      case measure=>simp[intOf];omega
    ·have Q:decide (hei<=p.B k)=false:=decide_eq_false g1
     have q:Hid (¬ (hei<=p.B k/\len<=QF p S n k)):=fun h=>g1 h.1
     clear g1;go_wp2;go_roundw
     case rel=>exact⟨k+1,by omega,by go_num,fun j J=>by
      by_cases e:j=k
      ·subst e;exact q.out
      ·exact t.out j (by omega),zr a _⟩
     case measure=>simp[intOf];omega
   ·obtain rfl:k=m:=by omega
    go_wp2;go_ret;exact⟨⟨_,rfl,.inr ⟨rfl,.inr (fun j h=>t.out j (by have:=h.1;rw[u.out] at this;exact this) h.2.1)⟩⟩,zj f a⟩
theorem zgc (q:Option Addr)(n c:Nat)(p:qi)(w:World)(hl:p.n=n)(hn:n<=1048576)(x:qd w q p) :
  Calls Tryz.prog 132 #[.slice q n c] w fun e w'=>SaysIf (ZG p 6 1 3 1 4) e/\Below w.heap.size w w':=by
 have f:=hI hl;clear hl
 by_cases h0:n<=6
 ·have r:decide (6<n)=false:=by simp;omega
  go_enter Tryz.func132,Tryz.ntmps132;go_wp2;go_loopw [4,10] (fun _ i y=>∃ k:Nat,k<=n/\i=int i64 k/\(∀ j,j<k->In (p.A j) 1 3/\In (p.B j) 1 4)/\Below w.heap.size w y) (fun _ i _=>n - (intOf i).toNat)
  case atStart=>exact⟨0,Nat.zero_le _,rfl,fun j l=>by omega,bZ⟩
  case round =>
   obtain⟨k,hk,rfl,d,a⟩:=hrel;have o:=hI d;clear d r
   by_cases hlt:k<n
   ·obtain⟨b,off,rfl,m,s⟩:=x k (by rw[f.out];omega)
    have t:=World.block_lt_of_cell? w _ m;have c1:=(a.cell (p:=⟨b,off+k*2,none⟩) t).trans m;have c2:=(a.cell (p:=⟨b,off+k*2+1,none⟩) t).trans s;clear m s
    by_cases g1:In (p.A k) 1 3
    ·have u:decide (In (p.A k) 1 3)=true:=decide_eq_true g1
     by_cases g2:In (p.B k) 1 4
     ·have v:decide (In (p.B k) 1 4)=true:=decide_eq_true g2
      have g:Hid (In (p.A k) 1 3/\In (p.B k) 1 4):=⟨g1,g2⟩;clear g1 g2;go_wp2_with (first|(go_at_call 19;refine sC (zx _ _ _ _) ?_))
      go_roundw
      case rel=>exact⟨k+1,by omega,by go_num,fun j l=>by
       by_cases e:j=k
       ·subst e;exact g.out
       ·exact o.out j (by omega),zr a _⟩
      case measure=>simp[intOf];omega
     ·have v:decide (In (p.B k) 1 4)=false:=decide_eq_false g2
      have g:=hI g2;clear g1 g2;go_wp2_with (first|(go_at_call 19;refine sC (zx _ _ _ _) ?_))
      go_ret;exact⟨zC (fun h=>g.out (h.2 k (by rw[f.out];exact hlt)).2),zr a _⟩
    ·have u:decide (In (p.A k) 1 3)=false:=decide_eq_false g1
     have g:=hI g1;clear g1;go_wp2_with (first|(go_at_call 19;refine sC (zx _ _ _ _) ?_))
     go_ret;exact⟨zC (fun h=>g.out (h.2 k (by rw[f.out];exact hlt)).1),zr a _⟩
   ·obtain rfl:k=n:=by omega
    go_wp2;go_ret;exact⟨says_yes ⟨by rw[f.out];exact h0,fun j l=>o.out j (by rw[f.out] at l;exact l)⟩,a⟩
 ·have r:decide (6<n)=true:=by simp;omega
  go_enter Tryz.func132,Tryz.ntmps132;go_wp2;go_ret;exact⟨zC (fun h=>by have:=h.1;rw[f.out] at this;exact h0 this),bZ⟩
end Go.Proofs.YtfallpinmhbemaaGreatDoor
