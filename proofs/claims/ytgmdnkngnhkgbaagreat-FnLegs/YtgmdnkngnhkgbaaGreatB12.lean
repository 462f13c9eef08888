/-
  OWN TEXT: SpecIn, SpecIn3, SpecName, SpecS, KitG.
-/
import Derived.Test.YtgmdnkngnhkgbaaGreatRows
import Derived.Deep.RegionHeld3
import Derived.Deep.LoopGhost
import Derived.Deep.DeepCutAuto
import Derived.BigQuiet
import Derived.Test.YtgmdnkngnhkgbaaGreatB06
namespace Go.Proofs.YtgmdnkngnhkgbaaGreat
open Go.RowKit
open Go.Value (int)
open Go.IntKind (i64)
set_option maxHeartbeats 64000000
set_option maxRecDepth 100000
theorem l1In_yes (x lo a:Int)(w:World)(b:lo<=x)(c:x<=a) :
  Calls Tryz.prog 45 #[int i64 x,int i64 lo,int i64 a] w fun e w'=>e=.returned (.bool true)/\w'=w:=by
 have e1:decide (lo<=x)=true:=by simpa using b
 have e2:decide (x<=a)=true:=by simpa using c
 go_enter Tryz.func45,Tryz.ntmps45;go_wp2;go_ret;exact⟨rfl,rfl⟩
theorem l1In_low (x lo b:Int)(w:World)(a:x<lo) :
  Calls Tryz.prog 45 #[int i64 x,int i64 lo,int i64 b] w fun e w'=>e=.returned (.bool false)/\w'=w:=by
 have e1:decide (lo<=x)=false:=by simpa using a
 go_enter Tryz.func45,Tryz.ntmps45;go_wp2;go_ret;exact⟨rfl,rfl⟩
theorem l1In_high (x lo a:Int)(w:World)(b:lo<=x)(c:a<x) :
  Calls Tryz.prog 45 #[int i64 x,int i64 lo,int i64 a] w fun e w'=>e=.returned (.bool false)/\w'=w:=by
 have e1:decide (lo<=x)=true:=by simpa using b
 have e2:decide (x<=a)=false:=by simpa using c
 go_enter Tryz.func45,Tryz.ntmps45;go_wp2;go_ret;exact⟨rfl,rfl⟩
theorem l1In_no (x lo a:Int)(w:World)(h:¬ (lo<=x/\x<=a)) :
  Calls Tryz.prog 45 #[int i64 x,int i64 lo,int i64 a] w fun e w'=>e=.returned (.bool false)/\w'=w:=by
 by_cases h1:lo<=x
 ·exact l1In_high x lo a w h1 (by omega)
 ·exact l1In_low x lo a w (by omega)
theorem zo (x lo a:Int)(w:World) :
  Calls Tryz.prog 45 #[int i64 x,int i64 lo,int i64 a] w fun e w'=>e=.returned (.bool (decide (In x lo a)))/\w'=w:=by
 by_cases h:In x lo a
 ·rw[decide_eq_true h];exact l1In_yes x lo a w h.1 h.2
 ·rw[decide_eq_false h];exact l1In_no x lo a w h
theorem zgH (s:ByteArray)(w:World)(hs:s.size<=1000000000000000) :
  Calls Tryz.prog 53 #[.string s] w fun e w'=>SaysIf (qr s) e/\w'=w:=by
 by_cases h0:In (s.size:Int) 1 12
 ·have d:=hI h0
  have t:decide (In (s.size:Int) 1 12)=true:=decide_eq_true h0;have z:s.size<=12:=by have:=h0.2;omega
  clear h0;go_enter Tryz.func53,Tryz.ntmps53;go_wp2_with (first|(go_at_call 45;refine sC (zo _ _ _ _) ?_))
  go_loop [3,4] (fun i _=>∃ k:Nat,k<=s.size/\i=int i64 k/\∀ j,j<k->QT (zaP s j)) (fun i _=>s.size - (intOf i).toNat)
  case atStart=>exact⟨0,Nat.zero_le _,rfl,fun j x=>by omega⟩
  case round =>
   obtain⟨k,hk,rfl,a⟩:=hrel;have o:=hI a;clear a
   by_cases hlt:k<s.size
   ·have l:=zcx s k hlt
    obtain⟨y,m⟩:∃ y,y=zaP s k:=⟨_,rfl⟩;rw[← m] at l;have p:=hI m;clear m;have c:QT y->(∃ n,n<=s.size/\Value.int .i64 ((k:Int)+1)=Value.int .i64 (n:Int)/\∀ j,j<n->QT (zaP s j)):=fun g=>⟨k+1,by omega,by simp,fun j x=>by
     by_cases e:j=k
     ·subst e;rw[← p.out];exact g
     ·exact o.out j (by omega)⟩
    have b:=hI c;have f:Hid (¬ QT y->¬ qr s):=fun g h=>g (by rw[p.out];exact h.2.2 k hlt)
    clear c
    by_cases h1:97<=y
    ·have u:decide (97<=y)=true:=by simpa using h1
     by_cases h2:y<=122
     ·have v:decide (y<=122)=true:=by simpa using h2
      go_wp2;go_round
      case rel=>exact b.out (.inl ⟨h1,h2⟩)
      case measure=>simp[intOf];omega
     ·have v:decide (y<=122)=false:=by simpa using h2
      have q:decide (65<=y)=true:=by simp;omega
      have r:decide (y<=90)=false:=by simp;omega
      go_wp2;go_ret;exact⟨zk (f.out (by rintro(h|h) <;> omega)),rfl⟩
    ·have u:decide (97<=y)=false:=by simpa using h1
     by_cases h3:65<=y
     ·have q:decide (65<=y)=true:=by simpa using h3
      by_cases h4:y<=90
      ·have r:decide (y<=90)=true:=by simpa using h4
       go_wp2;go_round
       case rel=>exact b.out (.inr ⟨h3,h4⟩)
       case measure=>simp[intOf];omega
      ·have r:decide (y<=90)=false:=by simpa using h4
       go_wp2;go_ret;exact⟨zk (f.out (by rintro(h|h) <;> omega)),rfl⟩
     ·have q:decide (65<=y)=false:=by simpa using h3
      go_wp2;go_ret;exact⟨zk (f.out (by rintro(h|h) <;> omega)),rfl⟩
   ·obtain rfl:k=s.size:=by omega
    go_wp2;go_ret;exact⟨zI ⟨by have:=d.out.1;omega,by have:=d.out.2;omega,o.out⟩,rfl⟩
 ·have d:=hI h0
  have t:decide (In (s.size:Int) 1 12)=false:=decide_eq_false h0;clear h0;go_enter Tryz.func53,Tryz.ntmps53;go_wp2_with (first|(go_at_call 45;refine sC (zo _ _ _ _) ?_))
  go_ret;exact⟨zk (fun h=>d.out ⟨by have:=h.1;omega,by have:=h.2.1;omega⟩),rfl⟩
theorem qe (s:ByteArray)(w:World)(a:s.size<=1000000000000000) :
  Calls Tryz.prog 53 #[.string s] w fun e w'=>e=.returned (.bool (decide (qr s)))/\w'=w:=by
 refine(zgH s w a).mono ?_;rintro e w' ⟨⟨b',rfl,h⟩,rfl⟩;rw[bool_eq h (decide_eq_true_iff (p:=qr s))];exact⟨rfl,rfl⟩
def zdX (x d a mo:Int)(fr tt:ByteArray)(n m:Nat):Prop :=
 In x 1 99/\qr fr/\qr tt/\fr≠tt/\In d 0 10000/\In a (d+1) 10000/\n<=4/\m<=6/\In mo 0 500
theorem zeS {x d a mo:Int}{fr tt:ByteArray}{n m:Nat}{e f:zP}(q:e.n=n)(r:f.n=m):qn ⟨x,fr,tt,d,a,e,f,mo⟩↔zdX x d a mo fr tt n m/\(∀ k,k<n->In (e.A k) 1 5000/\In (e.B k) 100 500)/\(∀ k,k<m->In (f.A k) 1 3/\In (f.B k) 1 4):=by
 subst q r;unfold qn zdX Qj In;simp only
 constructor
 ·rintro⟨g,i,j,l,o,p,h7,h8,c,b⟩
  exact⟨⟨g,i,j,l,⟨o,by omega⟩,⟨by omega,h7⟩,h8.1,c.1,b⟩,h8.2,c.2⟩
 ·rintro⟨⟨g,i,j,l,o,p,h7,h8,c⟩,b,h⟩
  exact⟨g,i,j,l,o.1,by omega,p.2,⟨h7,b⟩,⟨h8,h⟩,c⟩
theorem Zo (x d a mo:Int)(fr tt:ByteArray)(lo G:Option Addr)(n m A B:Nat)(f g:zP)(w:World)(C:f.n=n)(D:g.n=m)(l:fr.size<=1000000000000000)(o:tt.size<=1000000000000000)(hn:n<=1048576)(hm:m<=1048576)(hx:zT w lo f)(hy:zT w G g) :
  Calls Tryz.prog 42 #[.agg #[int i64 x,.string fr,.string tt,int i64 d,int i64 a,.slice lo n A,.slice G m B,int i64 mo]] w fun e w'=>SaysIf (qn ⟨x,fr,tt,d,a,f,g,mo⟩) e/\Below w.heap.size w w':=by
 have c:Below w.heap.size w (w.alloc (.cells #[int i64 x,.string fr,.string tt,int i64 d,int i64 a,.slice lo n A,.slice G m B,int i64 mo] 33)):=zl bZ _;have V:=heap_alloc_new w (.cells #[int i64 x,.string fr,.string tt,int i64 d,int i64 a,.slice lo n A,.slice G m B,int i64 mo] 33);have Z:=hI C;have E2:=hI D;have H:=zeS (x:=x) (d:=d) (a:=a) (mo:=mo) (fr:=fr) (tt:=tt) C D;have t:Hid _:=H;clear C D H
 by_cases g1:In x 1 99
 case neg =>
  have I:decide (In x 1 99)=false:=decide_eq_false g1;have r:Hid (¬ qn ⟨x,fr,tt,d,a,f,g,mo⟩):=fun h=>g1 ((fun h=>h.1) (t.out.1 h).1)
  clear g1;go_enter Tryz.func42,Tryz.ntmps42;go_wp2_with (first|(go_at_call 45;refine sC (zo _ _ _ _) ?_)|(go_at_call 53;refine sC (qe _ _ (by first|exact l|exact o)) ?_))
  go_ret;exact⟨zk r.out,c⟩
 have I:decide (In x 1 99)=true:=decide_eq_true g1
 by_cases g2:qr fr
 case neg =>
  have J:decide (qr fr)=false:=decide_eq_false g2;have r:Hid (¬ qn ⟨x,fr,tt,d,a,f,g,mo⟩):=fun h=>g2 ((fun h=>h.2.1) (t.out.1 h).1)
  clear g1 g2;go_enter Tryz.func42,Tryz.ntmps42;go_wp2_with (first|(go_at_call 45;refine sC (zo _ _ _ _) ?_)|(go_at_call 53;refine sC (qe _ _ (by first|exact l|exact o)) ?_))
  go_ret;exact⟨zk r.out,c⟩
 have J:decide (qr fr)=true:=decide_eq_true g2
 by_cases g3:qr tt
 case neg =>
  have K:decide (qr tt)=false:=decide_eq_false g3;have r:Hid (¬ qn ⟨x,fr,tt,d,a,f,g,mo⟩):=fun h=>g3 ((fun h=>h.2.2.1) (t.out.1 h).1)
  clear g1 g2 g3;go_enter Tryz.func42,Tryz.ntmps42;go_wp2_with (first|(go_at_call 45;refine sC (zo _ _ _ _) ?_)|(go_at_call 53;refine sC (qe _ _ (by first|exact l|exact o)) ?_))
  go_ret;exact⟨zk r.out,c⟩
 have K:decide (qr tt)=true:=decide_eq_true g3
 by_cases g4:fr≠tt
 case neg =>
  have L:(fr.toList == tt.toList)=true:=zbl.2 (by simpa using g4)
  have r:Hid (¬ qn ⟨x,fr,tt,d,a,f,g,mo⟩):=fun h=>g4 ((fun h=>h.2.2.2.1) (t.out.1 h).1)
  clear g1 g2 g3 g4;go_enter Tryz.func42,Tryz.ntmps42;go_wp2_with (first|(go_at_call 45;refine sC (zo _ _ _ _) ?_)|(go_at_call 53;refine sC (qe _ _ (by first|exact l|exact o)) ?_))
  go_ret;exact⟨zk r.out,c⟩
 have L:(fr.toList == tt.toList)=false:=zcp.2 g4
 by_cases g5:In d 0 10000
 case neg =>
  have M:decide (In d 0 10000)=false:=decide_eq_false g5;have r:Hid (¬ qn ⟨x,fr,tt,d,a,f,g,mo⟩):=fun h=>g5 ((fun h=>h.2.2.2.2.1) (t.out.1 h).1)
  clear g1 g2 g3 g4 g5;go_enter Tryz.func42,Tryz.ntmps42;go_wp2_with (first|(go_at_call 45;refine sC (zo _ _ _ _) ?_)|(go_at_call 53;refine sC (qe _ _ (by first|exact l|exact o)) ?_))
  go_ret;exact⟨zk r.out,c⟩
 have M:decide (In d 0 10000)=true:=decide_eq_true g5;have U:IntKind.i64.wrap (d+1)=d+1:=by have:=g5.1;have:=g5.2;rw[IntKind.wrap_i64];omega
 by_cases g6:In a (d+1) 10000
 case neg =>
  have N:decide (In a (d+1) 10000)=false:=decide_eq_false g6;have r:Hid (¬ qn ⟨x,fr,tt,d,a,f,g,mo⟩):=fun h=>g6 ((fun h=>h.2.2.2.2.2.1) (t.out.1 h).1)
  clear g1 g2 g3 g4 g5 g6;go_enter Tryz.func42,Tryz.ntmps42;go_wp2_with (first|(go_at_call 45;refine sC (zo _ _ _ _) ?_)|(go_at_call 53;refine sC (qe _ _ (by first|exact l|exact o)) ?_))
  go_ret;exact⟨zk r.out,c⟩
 have N:decide (In a (d+1) 10000)=true:=decide_eq_true g6
 by_cases g7:n<=4
 case neg =>
  have O:decide (4<n)=true:=by simp;omega
  have r:Hid (¬ qn ⟨x,fr,tt,d,a,f,g,mo⟩):=fun h=>g7 ((fun h=>h.2.2.2.2.2.2.1) (t.out.1 h).1)
  clear g1 g2 g3 g4 g5 g6;go_enter Tryz.func42,Tryz.ntmps42;go_wp2_with (first|(go_at_call 45;refine sC (zo _ _ _ _) ?_)|(go_at_call 53;refine sC (qe _ _ (by first|exact l|exact o)) ?_))
  go_ret;exact⟨zk r.out,c⟩
 have O:decide (4<n)=false:=by simp;omega
 by_cases g8:m<=6
 case neg =>
  have P:decide (6<m)=true:=by simp;omega
  have r:Hid (¬ qn ⟨x,fr,tt,d,a,f,g,mo⟩):=fun h=>g8 ((fun h=>h.2.2.2.2.2.2.2.1) (t.out.1 h).1)
  clear g1 g2 g3 g4 g5 g6;go_enter Tryz.func42,Tryz.ntmps42;go_wp2_with (first|(go_at_call 45;refine sC (zo _ _ _ _) ?_)|(go_at_call 53;refine sC (qe _ _ (by first|exact l|exact o)) ?_))
  go_ret;exact⟨zk r.out,c⟩
 have P:decide (6<m)=false:=by simp;omega
 by_cases g9:In mo 0 500
 case neg =>
  have Q:decide (In mo 0 500)=false:=decide_eq_false g9;have r:Hid (¬ qn ⟨x,fr,tt,d,a,f,g,mo⟩):=fun h=>g9 ((fun h=>h.2.2.2.2.2.2.2.2) (t.out.1 h).1)
  clear g1 g2 g3 g4 g5 g6 g9;go_enter Tryz.func42,Tryz.ntmps42;go_wp2_with (first|(go_at_call 45;refine sC (zo _ _ _ _) ?_)|(go_at_call 53;refine sC (qe _ _ (by first|exact l|exact o)) ?_))
  go_ret;exact⟨zk r.out,c⟩
 have Q:decide (In mo 0 500)=true:=decide_eq_true g9;have HH:Hid (zdX x d a mo fr tt n m):=⟨g1,g2,g3,g4,g5,g6,g7,g8,g9⟩;clear g1 g2 g3 g4 g5 g6 g9;go_enter Tryz.func42,Tryz.ntmps42;go_wp2_with (first|(go_at_call 45;refine sC (zo _ _ _ _) ?_)|(go_at_call 53;refine sC (qe _ _ (by first|exact l|exact o)) ?_))
 go_loopw [4,66] (fun _ i wr=>∃ k:Nat,k<=n/\i=int i64 k/\(∀ j,j<k->In (f.A j) 1 5000/\In (f.B j) 100 500)/\Below (w.alloc (.cells #[int i64 x,.string fr,.string tt,int i64 d,int i64 a,.slice lo n A,.slice G m B,int i64 mo] 33)).heap.size (w.alloc (.cells #[int i64 x,.string fr,.string tt,int i64 d,int i64 a,.slice lo n A,.slice G m B,int i64 mo] 33)) wr) (fun _ i _=>n - (intOf i).toNat)
 case atStart=>exact⟨0,Nat.zero_le _,rfl,fun j T=>by omega,bZ⟩
 case round =>
  obtain⟨k,hk,rfl,s,u⟩:=hrel;have X:=hI s;have W:=zb V u;have F:=u;have v:=zf c u;clear s I J K L M N O P Q U c V u
  by_cases hlt:k<n
  ·obtain⟨b,off,rfl,E,R⟩:=hx k (by rw[Z.out];omega)
   have S:=World.block_lt_of_cell? w _ E;have A:=(v.cell (p:=⟨b,off+k*2,none⟩) S).trans E;have B:=(v.cell (p:=⟨b,off+k*2+1,none⟩) S).trans R;clear E R
   by_cases g1:In (f.A k) 1 5000
   ·have C:decide (In (f.A k) 1 5000)=true:=decide_eq_true g1
    by_cases g2:In (f.B k) 100 500
    ·have D:decide (In (f.B k) 100 500)=true:=decide_eq_true g2
     have z:Hid (In (f.A k) 1 5000/\In (f.B k) 100 500):=⟨g1,g2⟩;clear g1 g2;go_wp2_with (first|(go_at_call 45;refine sC (zo _ _ _ _) ?_))
     go_roundw
     case rel=>exact⟨k+1,by omega,by go_num,fun j T=>by
      by_cases e:j=k
      ·subst e;exact z.out
      ·exact X.out j (by omega),zl F _⟩
     case measure=>simp[intOf];omega
    ·have D:decide (In (f.B k) 100 500)=false:=decide_eq_false g2
     have z:=hI g2;clear g1 g2;go_wp2_with (first|(go_at_call 45;refine sC (zo _ _ _ _) ?_))
     go_ret;exact⟨zk (fun h=>z.out ((t.out.1 h).2.1 k hlt).2),zl v _⟩
   ·have C:decide (In (f.A k) 1 5000)=false:=decide_eq_false g1
    have z:=hI g1;clear g1;go_wp2_with (first|(go_at_call 45;refine sC (zo _ _ _ _) ?_))
    go_ret;exact⟨zk (fun h=>z.out ((t.out.1 h).2.1 k hlt).1),zl v _⟩
  ·obtain rfl:k=n:=by omega
   have q6:=za W 6 _ rfl;go_wp2;go_loopw [6,84] (fun _ i wx=>∃ k:Nat,k<=m/\i=int i64 k/\(∀ j,j<k->In (g.A j) 1 3/\In (g.B j) 1 4)/\Below w.heap.size w wx) (fun _ i _=>m - (intOf i).toNat)
   case atStart=>exact⟨0,Nat.zero_le _,rfl,fun j T=>by omega,v⟩
   case round =>
    obtain⟨q,hq,rfl,s,y⟩:=hrel;have Y:=hI s;clear s q6 W v
    by_cases hlt2:q<m
    ·obtain⟨b,off,rfl,E,R⟩:=hy q (by rw[E2.out];omega)
     have S:=World.block_lt_of_cell? w _ E;have A:=(y.cell (p:=⟨b,off+q*2,none⟩) S).trans E;have B:=(y.cell (p:=⟨b,off+q*2+1,none⟩) S).trans R;clear E R
     by_cases g1:In (g.A q) 1 3
     ·have C:decide (In (g.A q) 1 3)=true:=decide_eq_true g1
      by_cases g2:In (g.B q) 1 4
      ·have D:decide (In (g.B q) 1 4)=true:=decide_eq_true g2
       have z:Hid (In (g.A q) 1 3/\In (g.B q) 1 4):=⟨g1,g2⟩;clear g1 g2;go_wp2_with (first|(go_at_call 45;refine sC (zo _ _ _ _) ?_))
       go_roundw
       case rel=>exact⟨q+1,by omega,by go_num,fun j T=>by
        by_cases e:j=q
        ·subst e;exact z.out
        ·exact Y.out j (by omega),zl y _⟩
       case measure=>simp[intOf];omega
      ·have D:decide (In (g.B q) 1 4)=false:=decide_eq_false g2
       have z:=hI g2;clear g1 g2;go_wp2_with (first|(go_at_call 45;refine sC (zo _ _ _ _) ?_))
       go_ret;exact⟨zk (fun h=>z.out ((t.out.1 h).2.2 q hlt2).2),zl y _⟩
     ·have C:decide (In (g.A q) 1 3)=false:=decide_eq_false g1
      have z:=hI g1;clear g1;go_wp2_with (first|(go_at_call 45;refine sC (zo _ _ _ _) ?_))
      go_ret;exact⟨zk (fun h=>z.out ((t.out.1 h).2.2 q hlt2).1),zl y _⟩
    ·obtain rfl:q=m:=by omega
     go_wp2;go_ret;exact⟨zI (t.out.2 ⟨HH.out,X.out,Y.out⟩),y⟩
structure zv (W:World) where
 val:World
 bel:Below W.heap.size W val
instance (W:World):Nonempty (zv W):=⟨⟨W,bZ⟩⟩
theorem zg {P:Program}{id:Nat}{Q:Exit->Act->World->Prop}{a:Act}{w:World}{l:List Oper}(d:P.follows .mixedOrders=true)(c:Region.lexB .any l.toArray=true)
  (h:wpQuiet P l.toArray (fun w'=>∃ g:zv w,w'=g.val) (fun b=>∀ w',(∃ g:zv w,w'=g.val)->Q .normal b w') l a):(Code.region id l.toArray true).wp P Q a w :=
 wp_region_quiet (C:=fun w'=>∃ g:zv w,w'=g.val) d c ⟨⟨_,(Below.refl _ w).drew⟩,rfl⟩ (by simpa using h)
theorem zh {P:Program}{f:FuncId}{args:Array Value}{W:World}{g:zv W}{v:Value}
  (h:Calls P f args g.val fun e w'=>e=.returned v/\Below g.val.heap.size g.val w'):Calls P f args g.val fun e a=>e=.returned v/\∃ g':zv W,a=g'.val :=
 h.mono fun _ w' ⟨he,hb⟩=>⟨he,⟨w',zf g.bel hb⟩,rfl⟩
end Go.Proofs.YtgmdnkngnhkgbaaGreat
