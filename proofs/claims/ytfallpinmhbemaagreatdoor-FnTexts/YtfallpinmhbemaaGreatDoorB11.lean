/-
  OWN TEXT: SpecS, KitG, SpecT, PlainF, PlainH2.
-/
import Derived.Deep.LoopGhost
import Derived.Deep.DeepCutAuto
import Derived.BigQuiet
import Derived.Test.YtfallpinmhbemaaGreatDoorB10
namespace Go.Proofs.YtfallpinmhbemaaGreatDoor
open Go.RowKit
open Go.Value (int)
open Go.IntKind (i64)
set_option maxHeartbeats 64000000
set_option maxRecDepth 100000
def zeG (x d a mo:Int)(fr tt:ByteArray)(n m:Nat):Prop :=
 In x 1 99/\qK fr/\qK tt/\fr≠tt/\In d 0 10000/\In a (d+1) 10000/\n<=4/\m<=6/\In mo 0 500
theorem zfL {x d a mo:Int}{fr tt:ByteArray}{n m:Nat}{e f:qi}(q:e.n=n)(r:f.n=m):zU ⟨x,fr,tt,d,a,e,f,mo⟩↔zeG x d a mo fr tt n m/\(∀ k,k<n->In (e.A k) 1 5000/\In (e.B k) 100 500)/\(∀ k,k<m->In (f.A k) 1 3/\In (f.B k) 1 4):=by
 subst q r;unfold zU zeG ZG In;simp only
 constructor
 ·rintro⟨g,i,j,l,o,p,h7,h8,c,b⟩
  exact⟨⟨g,i,j,l,⟨o,by omega⟩,⟨by omega,h7⟩,h8.1,c.1,b⟩,h8.2,c.2⟩
 ·rintro⟨⟨g,i,j,l,o,p,h7,h8,c⟩,b,h⟩
  exact⟨g,i,j,l,o.1,by omega,p.2,⟨h7,b⟩,⟨h8,h⟩,c⟩
theorem Zw (x d a mo:Int)(fr tt:ByteArray)(lo G:Option Addr)(n m A B:Nat)(f g:qi)(w:World)(C:f.n=n)(D:g.n=m)(l:fr.size<=1000000000000000)(o:tt.size<=1000000000000000)(hn:n<=1048576)(hm:m<=1048576)(hx:qd w lo f)(hy:qd w G g) :
  Calls Tryz.prog 26 #[.agg #[int i64 x,.string fr,.string tt,int i64 d,int i64 a,.slice lo n A,.slice G m B,int i64 mo]] w fun e w'=>SaysIf (zU ⟨x,fr,tt,d,a,f,g,mo⟩) e/\Below w.heap.size w w':=by
 have c:Below w.heap.size w (w.alloc (.cells #[int i64 x,.string fr,.string tt,int i64 d,int i64 a,.slice lo n A,.slice G m B,int i64 mo] 37)):=zr bZ _;have V:=heap_alloc_new w (.cells #[int i64 x,.string fr,.string tt,int i64 d,int i64 a,.slice lo n A,.slice G m B,int i64 mo] 37);have Z:=hI C;have E2:=hI D;have H:=zfL (x:=x) (d:=d) (a:=a) (mo:=mo) (fr:=fr) (tt:=tt) C D;have t:Hid _:=H;clear C D H
 by_cases g1:In x 1 99
 case neg =>
  have I:decide (In x 1 99)=false:=decide_eq_false g1;have r:Hid (¬ zU ⟨x,fr,tt,d,a,f,g,mo⟩):=fun h=>g1 ((fun h=>h.1) (t.out.1 h).1)
  clear g1;go_enter Tryz.func26,Tryz.ntmps26;go_wp2_with (first|(go_at_call 19;refine sC (zx _ _ _ _) ?_)|(go_at_call 42;refine sC (qz _ _ (by first|exact l|exact o)) ?_))
  go_ret;exact⟨zC r.out,c⟩
 have I:decide (In x 1 99)=true:=decide_eq_true g1
 by_cases g2:qK fr
 case neg =>
  have J:decide (qK fr)=false:=decide_eq_false g2;have r:Hid (¬ zU ⟨x,fr,tt,d,a,f,g,mo⟩):=fun h=>g2 ((fun h=>h.2.1) (t.out.1 h).1)
  clear g1 g2;go_enter Tryz.func26,Tryz.ntmps26;go_wp2_with (first|(go_at_call 19;refine sC (zx _ _ _ _) ?_)|(go_at_call 42;refine sC (qz _ _ (by first|exact l|exact o)) ?_))
  go_ret;exact⟨zC r.out,c⟩
 have J:decide (qK fr)=true:=decide_eq_true g2
 by_cases g3:qK tt
 case neg =>
  have K:decide (qK tt)=false:=decide_eq_false g3;have r:Hid (¬ zU ⟨x,fr,tt,d,a,f,g,mo⟩):=fun h=>g3 ((fun h=>h.2.2.1) (t.out.1 h).1)
  clear g1 g2 g3;go_enter Tryz.func26,Tryz.ntmps26;go_wp2_with (first|(go_at_call 19;refine sC (zx _ _ _ _) ?_)|(go_at_call 42;refine sC (qz _ _ (by first|exact l|exact o)) ?_))
  go_ret;exact⟨zC r.out,c⟩
 have K:decide (qK tt)=true:=decide_eq_true g3
 by_cases g4:fr≠tt
 case neg =>
  have L:(fr.toList == tt.toList)=true:=Q4.2 (by simpa using g4)
  have r:Hid (¬ zU ⟨x,fr,tt,d,a,f,g,mo⟩):=fun h=>g4 ((fun h=>h.2.2.2.1) (t.out.1 h).1)
  clear g1 g2 g3 g4;go_enter Tryz.func26,Tryz.ntmps26;go_wp2_with (first|(go_at_call 19;refine sC (zx _ _ _ _) ?_)|(go_at_call 42;refine sC (qz _ _ (by first|exact l|exact o)) ?_))
  go_ret;exact⟨zC r.out,c⟩
 have L:(fr.toList == tt.toList)=false:=zaz.2 g4
 by_cases g5:In d 0 10000
 case neg =>
  have M:decide (In d 0 10000)=false:=decide_eq_false g5;have r:Hid (¬ zU ⟨x,fr,tt,d,a,f,g,mo⟩):=fun h=>g5 ((fun h=>h.2.2.2.2.1) (t.out.1 h).1)
  clear g1 g2 g3 g4 g5;go_enter Tryz.func26,Tryz.ntmps26;go_wp2_with (first|(go_at_call 19;refine sC (zx _ _ _ _) ?_)|(go_at_call 42;refine sC (qz _ _ (by first|exact l|exact o)) ?_))
  go_ret;exact⟨zC r.out,c⟩
 have M:decide (In d 0 10000)=true:=decide_eq_true g5;have U:IntKind.i64.wrap (d+1)=d+1:=by have:=g5.1;have:=g5.2;rw[IntKind.wrap_i64];omega
 by_cases g6:In a (d+1) 10000
 case neg =>
  have N:decide (In a (d+1) 10000)=false:=decide_eq_false g6;have r:Hid (¬ zU ⟨x,fr,tt,d,a,f,g,mo⟩):=fun h=>g6 ((fun h=>h.2.2.2.2.2.1) (t.out.1 h).1)
  clear g1 g2 g3 g4 g5 g6;go_enter Tryz.func26,Tryz.ntmps26;go_wp2_with (first|(go_at_call 19;refine sC (zx _ _ _ _) ?_)|(go_at_call 42;refine sC (qz _ _ (by first|exact l|exact o)) ?_))
  go_ret;exact⟨zC r.out,c⟩
 have N:decide (In a (d+1) 10000)=true:=decide_eq_true g6
 by_cases g7:n<=4
 case neg =>
  have O:decide (4<n)=true:=by simp;omega
  have r:Hid (¬ zU ⟨x,fr,tt,d,a,f,g,mo⟩):=fun h=>g7 ((fun h=>h.2.2.2.2.2.2.1) (t.out.1 h).1)
  clear g1 g2 g3 g4 g5 g6;go_enter Tryz.func26,Tryz.ntmps26;go_wp2_with (first|(go_at_call 19;refine sC (zx _ _ _ _) ?_)|(go_at_call 42;refine sC (qz _ _ (by first|exact l|exact o)) ?_))
  go_ret;exact⟨zC r.out,c⟩
 have O:decide (4<n)=false:=by simp;omega
 by_cases g8:m<=6
 case neg =>
  have P:decide (6<m)=true:=by simp;omega
  have r:Hid (¬ zU ⟨x,fr,tt,d,a,f,g,mo⟩):=fun h=>g8 ((fun h=>h.2.2.2.2.2.2.2.1) (t.out.1 h).1)
  clear g1 g2 g3 g4 g5 g6;go_enter Tryz.func26,Tryz.ntmps26;go_wp2_with (first|(go_at_call 19;refine sC (zx _ _ _ _) ?_)|(go_at_call 42;refine sC (qz _ _ (by first|exact l|exact o)) ?_))
  go_ret;exact⟨zC r.out,c⟩
 have P:decide (6<m)=false:=by simp;omega
 by_cases g9:In mo 0 500
 case neg =>
  have Q:decide (In mo 0 500)=false:=decide_eq_false g9;have r:Hid (¬ zU ⟨x,fr,tt,d,a,f,g,mo⟩):=fun h=>g9 ((fun h=>h.2.2.2.2.2.2.2.2) (t.out.1 h).1)
  clear g1 g2 g3 g4 g5 g6 g9;go_enter Tryz.func26,Tryz.ntmps26;go_wp2_with (first|(go_at_call 19;refine sC (zx _ _ _ _) ?_)|(go_at_call 42;refine sC (qz _ _ (by first|exact l|exact o)) ?_))
  go_ret;exact⟨zC r.out,c⟩
 have Q:decide (In mo 0 500)=true:=decide_eq_true g9;have HH:Hid (zeG x d a mo fr tt n m):=⟨g1,g2,g3,g4,g5,g6,g7,g8,g9⟩;clear g1 g2 g3 g4 g5 g6 g9;go_enter Tryz.func26,Tryz.ntmps26;go_wp2_with (first|(go_at_call 19;refine sC (zx _ _ _ _) ?_)|(go_at_call 42;refine sC (qz _ _ (by first|exact l|exact o)) ?_))
 go_loopw [4,66] (fun _ i wr=>∃ k:Nat,k<=n/\i=int i64 k/\(∀ j,j<k->In (f.A j) 1 5000/\In (f.B j) 100 500)/\Below (w.alloc (.cells #[int i64 x,.string fr,.string tt,int i64 d,int i64 a,.slice lo n A,.slice G m B,int i64 mo] 37)).heap.size (w.alloc (.cells #[int i64 x,.string fr,.string tt,int i64 d,int i64 a,.slice lo n A,.slice G m B,int i64 mo] 37)) wr) (fun _ i _=>n - (intOf i).toNat)
 case atStart=>exact⟨0,Nat.zero_le _,rfl,fun j T=>by omega,bZ⟩
 case round =>
  obtain⟨k,hk,rfl,s,u⟩:=hrel;have X:=hI s;have W:=zc V u;have F:=u;have v:=zj c u;clear s I J K L M N O P Q U c V u
  by_cases hlt:k<n
  ·obtain⟨b,off,rfl,E,R⟩:=hx k (by rw[Z.out];omega)
   have S:=World.block_lt_of_cell? w _ E;have A:=(v.cell (p:=⟨b,off+k*2,none⟩) S).trans E;have B:=(v.cell (p:=⟨b,off+k*2+1,none⟩) S).trans R;clear E R
   by_cases g1:In (f.A k) 1 5000
   ·have C:decide (In (f.A k) 1 5000)=true:=decide_eq_true g1
    by_cases g2:In (f.B k) 100 500
    ·have D:decide (In (f.B k) 100 500)=true:=decide_eq_true g2
     have z:Hid (In (f.A k) 1 5000/\In (f.B k) 100 500):=⟨g1,g2⟩;clear g1 g2;go_wp2_with (first|(go_at_call 19;refine sC (zx _ _ _ _) ?_))
     go_roundw
     case rel=>exact⟨k+1,by omega,by go_num,fun j T=>by
      by_cases e:j=k
      ·subst e;exact z.out
      ·exact X.out j (by omega),zr F _⟩
     case measure=>simp[intOf];omega
    ·have D:decide (In (f.B k) 100 500)=false:=decide_eq_false g2
     have z:=hI g2;clear g1 g2;go_wp2_with (first|(go_at_call 19;refine sC (zx _ _ _ _) ?_))
     go_ret;exact⟨zC (fun h=>z.out ((t.out.1 h).2.1 k hlt).2),zr v _⟩
   ·have C:decide (In (f.A k) 1 5000)=false:=decide_eq_false g1
    have z:=hI g1;clear g1;go_wp2_with (first|(go_at_call 19;refine sC (zx _ _ _ _) ?_))
    go_ret;exact⟨zC (fun h=>z.out ((t.out.1 h).2.1 k hlt).1),zr v _⟩
  ·obtain rfl:k=n:=by omega
   have q6:=za W 6 _ rfl;go_wp2;go_loopw [6,84] (fun _ i wx=>∃ k:Nat,k<=m/\i=int i64 k/\(∀ j,j<k->In (g.A j) 1 3/\In (g.B j) 1 4)/\Below w.heap.size w wx) (fun _ i _=>m - (intOf i).toNat)
   case atStart=>exact⟨0,Nat.zero_le _,rfl,fun j T=>by omega,v⟩
   case round =>
    obtain⟨q,hq,rfl,s,y⟩:=hrel;have Y:=hI s;clear s q6 W v
    by_cases hlt2:q<m
    ·obtain⟨b,off,rfl,E,R⟩:=hy q (by rw[E2.out];omega)
     have S:=World.block_lt_of_cell? w _ E;have A:=(y.cell (p:=⟨b,off+q*2,none⟩) S).trans E;have B:=(y.cell (p:=⟨b,off+q*2+1,none⟩) S).trans R;clear E R
     by_cases g1:In (g.A q) 1 3
     ·have C:decide (In (g.A q) 1 3)=true:=decide_eq_true g1
      by_cases g2:In (g.B q) 1 4
      ·have D:decide (In (g.B q) 1 4)=true:=decide_eq_true g2
       have z:Hid (In (g.A q) 1 3/\In (g.B q) 1 4):=⟨g1,g2⟩;clear g1 g2;go_wp2_with (first|(go_at_call 19;refine sC (zx _ _ _ _) ?_))
       go_roundw
       case rel=>exact⟨q+1,by omega,by go_num,fun j T=>by
        by_cases e:j=q
        ·subst e;exact z.out
        ·exact Y.out j (by omega),zr y _⟩
       case measure=>simp[intOf];omega
      ·have D:decide (In (g.B q) 1 4)=false:=decide_eq_false g2
       have z:=hI g2;clear g1 g2;go_wp2_with (first|(go_at_call 19;refine sC (zx _ _ _ _) ?_))
       go_ret;exact⟨zC (fun h=>z.out ((t.out.1 h).2.2 q hlt2).2),zr y _⟩
     ·have C:decide (In (g.A q) 1 3)=false:=decide_eq_false g1
      have z:=hI g1;clear g1;go_wp2_with (first|(go_at_call 19;refine sC (zx _ _ _ _) ?_))
      go_ret;exact⟨zC (fun h=>z.out ((t.out.1 h).2.2 q hlt2).1),zr y _⟩
    ·obtain rfl:q=m:=by omega
     go_wp2;go_ret;exact⟨says_yes (t.out.2 ⟨HH.out,X.out,Y.out⟩),y⟩
structure qe (W:World) where
 val:World
 bel:Below W.heap.size W val
instance (W:World):Nonempty (qe W):=⟨⟨W,bZ⟩⟩
theorem zp {P:Program}{id:Nat}{Q:Exit->Act->World->Prop}{a:Act}{w:World}{l:List Oper}(d:P.follows .mixedOrders=true)(c:Region.lexB .any l.toArray=true)
  (h:wpQuiet P l.toArray (fun w'=>∃ g:qe w,w'=g.val) (fun b=>∀ w',(∃ g:qe w,w'=g.val)->Q .normal b w') l a):(Code.region id l.toArray true).wp P Q a w :=
 wp_region_quiet (C:=fun w'=>∃ g:qe w,w'=g.val) d c ⟨⟨_,(Below.refl _ w).drew⟩,rfl⟩ (by simpa using h)
theorem zi {P:Program}{f:FuncId}{args:Array Value}{W:World}{g:qe W}{v:Value}
  (h:Calls P f args g.val fun e w'=>e=.returned v/\Below g.val.heap.size g.val w'):Calls P f args g.val fun e a=>e=.returned v/\∃ g':qe W,a=g'.val :=
 h.mono fun _ w' ⟨he,hb⟩=>⟨he,⟨w',zj g.bel hb⟩,rfl⟩
theorem zdf (G:Option Addr)(N c:Nat)(S:Nat->Sail)(w:World)(hN:N<=1048576)(X:ShortAll N S 1048576)(Z:SailsAt w G N S) :
  Calls Tryz.prog 100 #[.slice G N c] w fun e w'=>SaysIf (zch N S) e/\Below w.heap.size w w':=by
 have HS:=hI X;clear X
 by_cases h6:N<=6
 ·have P:decide (6<N)=false:=by simp;omega
  go_enter Tryz.func100,Tryz.ntmps100;go_wp2;go_loopw [3,4,10] (fun _ _ i n=>∃ k:Nat,k<=N/\i=int i64 k/\(∀ j,j<k->zU (S j)/\(0<j->(S (j - 1)).id<(S j).id))/\Below w.heap.size w n) (fun _ _ i _=>N - (intOf i).toNat)
  case atStart=>exact⟨0,Nat.zero_le _,rfl,fun j hj=>by omega,bZ⟩
  case round =>
   obtain⟨k,hk,rfl,u,d⟩:=hrel;have M:=hI u;clear u P
   by_cases hlt:k<N
   ·have O:Hid (0<k->∀ b off,G=some ⟨b,off,none⟩->w.cell? ⟨b,off+(k - 1)*8,none⟩=some (int i64 (S (k - 1)).id)):=by
     intro h b off e;obtain⟨b',a0,_,_,_,_,J,g,_⟩:=Z (k - 1) (by omega)
     rw[e] at J;simp only[Option.some.injEq,Addr.mk.injEq,and_true] at J;obtain⟨rfl,rfl⟩:=J;exact g
    obtain⟨b,off,la,lc,ca,I,rfl,Q,K,R,T,U,V,z,h7,h8,A,_,_⟩:=Z k hlt;have E:Hid (0<k->w.cell? ⟨b,off+(k - 1)*8,none⟩=some (int i64 (S (k - 1)).id)):=fun h=>O.out h b off rfl
    clear O;have o:=World.block_lt_of_cell? w _ K;have c0:=(d.cell (p:=⟨b,off+k*8,none⟩) o).trans Q;have c1:=(d.cell (p:=⟨b,off+k*8+1,none⟩) o).trans K;have c2:=(d.cell (p:=⟨b,off+k*8+2,none⟩) o).trans R;have c3:=(d.cell (p:=⟨b,off+k*8+3,none⟩) o).trans T;have c4:=(d.cell (p:=⟨b,off+k*8+4,none⟩) o).trans U;have c5:=(d.cell (p:=⟨b,off+k*8+5,none⟩) o).trans V;have c6:=(d.cell (p:=⟨b,off+k*8+6,none⟩) o).trans z;have c7:=(d.cell (p:=⟨b,off+k*8+7,none⟩) o).trans h7;obtain⟨s1,s2,B,C⟩:=HS.out k hlt;have q:(S k).fr.size<=1000000000000000:=by omega
    have r:(S k).dst.size<=1000000000000000:=by omega
    clear s1 s2;have f:=zr d (.cells #[int i64 (S k).id,.string (S k).fr,.string (S k).dst,int i64 (S k).dep,int i64 (S k).arr,.slice la (S k).la.n lc,.slice ca (S k).ca.n I,int i64 (S k).most] 37);have a:=heap_alloc_new n (.cells #[int i64 (S k).id,.string (S k).fr,.string (S k).dst,int i64 (S k).dep,int i64 (S k).arr,.slice la (S k).la.n lc,.slice ca (S k).ca.n I,int i64 (S k).most] 37);clear Q K R T U V z h7;go_upto_region 6 with fail;generalize hW:n.alloc (.cells #[int i64 (S k).id,.string (S k).fr,.string (S k).dst,int i64 (S k).dep,int i64 (S k).arr,.slice la (S k).la.n lc,.slice ca (S k).ca.n I,int i64 (S k).most] 37)=W at f a ⊢;clear hW;have l:n.heap.size<W.heap.size:=zZ a;have z0:∀ g:qe W,g.val.cell? ⟨n.heap.size,0,none⟩=_:=fun g=>(g.bel.cell l).trans (za a 0 _ rfl)
    have z1:∀ g:qe W,g.val.cell? ⟨n.heap.size,1,none⟩=_:=fun g=>(g.bel.cell l).trans (za a 1 _ rfl)
    have z2:∀ g:qe W,g.val.cell? ⟨n.heap.size,2,none⟩=_:=fun g=>(g.bel.cell l).trans (za a 2 _ rfl)
    have z3:∀ g:qe W,g.val.cell? ⟨n.heap.size,3,none⟩=_:=fun g=>(g.bel.cell l).trans (za a 3 _ rfl)
    have z4:∀ g:qe W,g.val.cell? ⟨n.heap.size,4,none⟩=_:=fun g=>(g.bel.cell l).trans (za a 4 _ rfl)
    have z5:∀ g:qe W,g.val.cell? ⟨n.heap.size,5,none⟩=_:=fun g=>(g.bel.cell l).trans (za a 5 _ rfl)
    have z6:∀ g:qe W,g.val.cell? ⟨n.heap.size,6,none⟩=_:=fun g=>(g.bel.cell l).trans (za a 6 _ rfl)
    have z7:∀ g:qe W,g.val.cell? ⟨n.heap.size,7,none⟩=_:=fun g=>(g.bel.cell l).trans (za a 7 _ rfl)
    have a1:b<W.heap.size:=Nat.lt_of_lt_of_le o f.size;clear c0 c1 c2 c3 c4 c5 c6 c7 a;go_cut [10,32] (fun i c wx=>i=int i64 k/\Tells (zU (S k)/\(0<k->(S (k - 1)).id<(S k).id)) c/\Below w.heap.size w wx)
    case first =>
     by_cases hg:zU (S k)
     ·have s:=hI hg
      clear hg
      by_cases k0:k=0
      ·subst k0
       refine zp (by kernel_rfl) (by kernel_rfl) ?_
       repeat(first|go_big_quiet_skip|(go_big_quiet_want;go_big_quiet_op;first|go_big_quiet_on|(apply Exists.intro;refine⟨fun g=>?_,?_⟩;(focus(go_at_call 26;refine zi (v:=.bool true) ((Zw _ _ _ _ _ _ _ _ _ _ _ _ (S 0).la (S 0).ca _ rfl rfl q r B C (h8.below (zj f g.bel)) (A.below (zj f g.bel))).mono ?_);rintro e L ⟨⟨H,rfl,y⟩,m⟩;obtain rfl:=y.2 s.out;exact⟨rfl,m⟩));go_big_quiet_on)))
       refine wpQuiet_nil ?_;rintro _ ⟨g,rfl⟩;go_wp2;go_meet;exact⟨rfl,tells_good ⟨s.out,fun h=>by omega⟩,zj f g.bel⟩
      ·have d0:decide (0<k)=true:=by simp;omega
       have a2:((k:Int) - 1).toNat=k - 1:=by omega
       have a3:(k:Int) - 1<(N:Int):=by omega
       have a5:(0:Int)<=(k:Int) - 1:=by omega
       have a6:IntKind.i64.wrap ((k:Int) - 1)=(k:Int) - 1:=by rw[IntKind.wrap_i64];omega
       have y0:∀ g:qe W,g.val.cell? ⟨b,off+(k - 1)*8,none⟩=_:=fun g=>((zj f g.bel).cell (p:=⟨b,off+(k - 1)*8,none⟩) o).trans (E.out (by omega))
       by_cases hle:(S k).id<=(S (k - 1)).id
       ·have e2:decide ((S k).id<=(S (k - 1)).id)=true:=by simpa using hle
        refine zp (by kernel_rfl) (by kernel_rfl) ?_
        repeat(first|go_big_quiet_skip|(go_big_quiet_want;go_big_quiet_op;first|go_big_quiet_on|(apply Exists.intro;refine⟨fun g=>?_,?_⟩;(focus(go_at_call 26;refine zi (v:=.bool true) ((Zw _ _ _ _ _ _ _ _ _ _ _ _ (S k).la (S k).ca _ rfl rfl q r B C (h8.below (zj f g.bel)) (A.below (zj f g.bel))).mono ?_);rintro e L ⟨⟨H,rfl,y⟩,m⟩;obtain rfl:=y.2 s.out;exact⟨rfl,m⟩));go_big_quiet_on)))
        refine wpQuiet_nil ?_;rintro _ ⟨g,rfl⟩;go_wp2;go_meet;exact⟨rfl,tells_bad (fun h=>by have:=h.2 (by omega);omega),zj f g.bel⟩
       ·have e2:decide ((S k).id<=(S (k - 1)).id)=false:=by simpa using hle
        refine zp (by kernel_rfl) (by kernel_rfl) ?_
        repeat(first|go_big_quiet_skip|(go_big_quiet_want;go_big_quiet_op;first|go_big_quiet_on|(apply Exists.intro;refine⟨fun g=>?_,?_⟩;(focus(go_at_call 26;refine zi (v:=.bool true) ((Zw _ _ _ _ _ _ _ _ _ _ _ _ (S k).la (S k).ca _ rfl rfl q r B C (h8.below (zj f g.bel)) (A.below (zj f g.bel))).mono ?_);rintro e L ⟨⟨H,rfl,y⟩,m⟩;obtain rfl:=y.2 s.out;exact⟨rfl,m⟩));go_big_quiet_on)))
        refine wpQuiet_nil ?_;rintro _ ⟨g,rfl⟩;go_wp2;go_meet;exact⟨rfl,tells_good ⟨s.out,fun _=>by omega⟩,zj f g.bel⟩
     ·have s:=hI hg
      clear hg;refine zp (by kernel_rfl) (by kernel_rfl) ?_
      repeat(first|go_big_quiet_skip|(go_big_quiet_want;go_big_quiet_op;first|go_big_quiet_on|(apply Exists.intro;refine⟨fun g=>?_,?_⟩;(focus(go_at_call 26;refine zi (v:=.bool false) ((Zw _ _ _ _ _ _ _ _ _ _ _ _ (S k).la (S k).ca _ rfl rfl q r B C (h8.below (zj f g.bel)) (A.below (zj f g.bel))).mono ?_);rintro e L ⟨⟨H,rfl,y⟩,m⟩;obtain rfl:=Bool.eq_false_iff.2 (fun e=>s.out (y.1 e));exact⟨rfl,m⟩));go_big_quiet_on)))
      refine wpQuiet_nil ?_;rintro _ ⟨g,rfl⟩;go_wp2;go_meet;exact⟨rfl,tells_bad (fun h=>s.out h.1),zj f g.bel⟩
    case rest =>
     obtain⟨rfl,⟨t,rfl,Y⟩,x⟩:=hcut;have F:=hI Y;clear Y z0 z1 z2 z3 z4 z5 z6 z7
     cases t with
     | true =>
      go_wp2;go_ret;exact⟨zC (fun h=>by have:=F.out.2 (h.2 k hlt);cases this),x⟩
     | false =>
      have D:=F.out.1 rfl;have D:Hid _:=D;clear F;go_wp2;go_roundw
      case rel=>exact⟨k+1,by omega,by go_num,fun j hj=>by
       by_cases e:j=k
       ·subst e;exact D.out
       ·exact M.out j (by omega),x⟩
      case measure=>simp[intOf];omega
   ·obtain rfl:k=N:=by omega
    go_wp2;go_ret;exact⟨says_yes ⟨h6,M.out⟩,d⟩
 ·have P:decide (6<N)=true:=by simp;omega
  go_enter Tryz.func100,Tryz.ntmps100;go_wp2;go_ret;exact⟨zC (fun h=>h6 h.1),bZ⟩
def qo (S:Nat->Sail)(x:Int):Nat->Nat
 | 0=>0
 | n+1=>if qo S x n<n then qo S x n else if (S n).id=x then n else n+1
theorem zbK (S:Nat->Sail)(x:Int)(n:Nat):qo S x n<=n:=by
 induction n with
 | zero=>exact Nat.le_refl _
 | succ n ih=>unfold qo;split <;> (try split) <;> omega
theorem zeH (S:Nat->Sail)(x:Int)(n:Nat):∀ j,j<qo S x n->(S j).id≠x:=by
 induction n with
 | zero=>intro j a;unfold qo at a;omega
 | succ n ih =>
  intro j a;unfold qo at a;have hl:=zbK S x n
  split at a
  ·exact ih j a
  ·rename_i h
   split at a
   ·exact ih j (by omega)
   ·rename_i h2
    by_cases e:j=n
    ·subst e;exact h2
    ·exact ih j (by omega)
theorem zaZ (S:Nat->Sail)(x:Int)(n:Nat)(h:qo S x n<n):(S (qo S x n)).id=x:=by
 induction n with
 | zero=>omega
 | succ n ih =>
  unfold qo at h ⊢
  split
  ·rename_i h1;exact ih h1
  ·rename_i h1
   rw[if_neg h1] at h
   split
   ·rename_i h2;exact h2
   ·rename_i h2;rw[if_neg h2] at h;omega
theorem findIx_is {S:Nat->Sail}{x:Int}{n r:Nat}(hr:r<n)(d:(S r).id=x)(b:∀ j,j<r->(S j).id≠x):qo S x n=r:=by
 have a:=zeH S x n
 by_cases c:qo S x n<r
 ·exact absurd (zaZ S x n (by omega)) (b _ c)
 ·by_cases c2:r<qo S x n
  ·exact absurd d (a r c2)
  ·omega
theorem zgJ {S:Nat->Sail}{x:Int}{n:Nat}(a:∀ j,j<n->(S j).id≠x):qo S x n=n:=by
 have h1:=zbK S x n
 by_cases c:qo S x n<n
 ·exact absurd (zaZ S x n c) (a _ c)
 ·omega
def LegOk (N:Nat)(S:Nat->Sail)(G:Nat->Int)(i:Nat):Prop :=
 qo S (G i) N<N/\(0<i->(S (qo S (G (i - 1)) N)).dst=(S (qo S (G i) N)).fr/\(S (qo S (G (i - 1)) N)).arr<=(S (qo S (G i) N)).dep)
def zba (N:Nat)(S:Nat->Sail)(n:Nat)(G:Nat->Int):Prop:=1<=n/\n<=3/\∀ i,i<n->LegOk N S G i
def Has (F:Nat->Int)(n:Nat)(x:Int):Prop:=∃ j,j<n/\F j=x
def zfM (F:Nat->Int)(x:Int):Nat->Nat
 | 0=>0
 | n+1=>if zfM F x n<n then zfM F x n else if F n=x then n else n+1
theorem ixOf_le (F:Nat->Int)(x:Int)(n:Nat):zfM F x n<=n:=by
 induction n with
 | zero=>exact Nat.le_refl _
 | succ n ih=>unfold zfM;split <;> (try split) <;> omega
theorem zgK (F:Nat->Int)(x:Int)(n:Nat):∀ j,j<zfM F x n->F j≠x:=by
 induction n with
 | zero=>intro j a;unfold zfM at a;omega
 | succ n ih =>
  intro j a;unfold zfM at a;have hl:=ixOf_le F x n
  by_cases h1:zfM F x n<n
  ·rw[if_pos h1] at a;exact ih j a
  ·rw[if_neg h1] at a
   have he:zfM F x n=n:=by omega
   by_cases h2:F n=x
   ·rw[if_pos h2] at a;exact ih j (by omega)
   ·rw[if_neg h2] at a
    by_cases e:j=n
    ·subst e;exact h2
    ·exact ih j (by omega)
theorem ixOf_at (F:Nat->Int)(x:Int)(n:Nat)(h:zfM F x n<n):F (zfM F x n)=x:=by
 induction n with
 | zero=>omega
 | succ n ih =>
  unfold zfM at h ⊢
  by_cases h1:zfM F x n<n
  ·rw[if_pos h1];exact ih h1
  ·rw[if_neg h1] at h ⊢
   by_cases h2:F n=x
   ·rw[if_pos h2];exact h2
   ·rw[if_neg h2] at h;omega
theorem ixOf_is {F:Nat->Int}{x:Int}{n r:Nat}(hr:r<n)(d:F r=x)(b:∀ j,j<r->F j≠x):zfM F x n=r:=by
 have a:=zgK F x n
 by_cases c:zfM F x n<r
 ·exact absurd (ixOf_at F x n (by omega)) (b _ c)
 ·by_cases c2:r<zfM F x n
  ·exact absurd d (a r c2)
  ·omega
theorem zgL {F:Nat->Int}{n:Nat}{x:Int}(h:∀ j,j<n->F j≠x):¬ Has F n x:=fun ⟨j,hj,e⟩=>h j hj e
end Go.Proofs.YtfallpinmhbemaaGreatDoor
