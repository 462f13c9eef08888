/-
  OWN TEXT: SpecO2, SpecS, SpecT, FitS0, SpecFt, KitDo, PlainDx.
-/
import Derived.Deep.LoopGhost
import Derived.Deep.DeepCutAuto
import Derived.Test.YtmdnjgihooflfaaGreatDoorB19
namespace Go.Proofs.YtmdnjgihooflfaaGreatDoor
open Go.RowKit
open Go.Value (int)
open Go.IntKind (i64)
set_option maxHeartbeats 64000000
set_option maxRecDepth 100000
theorem zlZ (kind:Int)(own:ByteArray)(name:Int)(a:Option Addr)(lgn b:Nat)(lg:Nat->Int)(pe len hei cl:Int)(all:Bool)(be unt now:Int)(w:World)(c:¬ In kind 1 9) :
  Calls Tryz.prog 159 #[.agg #[int i64 kind,.string own,int i64 name,.slice a lgn b,int i64 pe,int i64 len,int i64 hei,int i64 cl,.bool all,int i64 be,int i64 unt,int i64 now]] w fun e w'=>e=.returned (.bool (decide (zac ⟨kind,own,name,lgn,lg,pe,len,hei,cl,all,be,unt,now⟩)))/\Below w.heap.size w w':=by
 rw[decide_eq_false (show ¬ zac ⟨kind,own,name,lgn,lg,pe,len,hei,cl,all,be,unt,now⟩ from fun h=>c h.1)]
 have x9:decide (In kind 1 9)=false:=decide_eq_false c;clear c;go_enter Tryz.func159,Tryz.ntmps159;go_wp2_with (first|(go_at_call 148;refine sC (zt _ _ _ _) ?_))
 go_ret;exact⟨rfl,zk bZ _⟩
theorem znD (cs:List Value)(x:OpD)(w:World)(c:x.own.size<=1000000000000000)(h:OpD.Is w cs x) :
  Calls Tryz.prog 159 #[.agg cs.toArray] w fun e w'=>e=.returned (.bool (decide (zac x)))/\Below w.heap.size w w':=by
 obtain⟨a,b,rfl,_,_⟩:=h;obtain⟨kind,own,name,lgn,lg,pe,len,hei,cl,all,be,unt,now⟩:=x
 by_cases k9:In kind 1 9
 ·have h9:kind=1∨kind=2∨kind=3∨kind=4∨kind=5∨kind=6∨kind=7∨kind=8∨kind=9:=by unfold In at k9;omega
  rcases h9 with rfl|rfl|rfl|rfl|rfl|rfl|rfl|rfl|rfl
  ·exact specOp_1 own name a lgn b lg pe len hei cl all be unt now w c
  ·exact specOp_2 own name a lgn b lg pe len hei cl all be unt now w c
  ·exact specOp_3 own name a lgn b lg pe len hei cl all be unt now w c
  ·exact specOp_4 own name a lgn b lg pe len hei cl all be unt now w c
  ·exact specOp_5 own name a lgn b lg pe len hei cl all be unt now w c
  ·exact specOp_6 own name a lgn b lg pe len hei cl all be unt now w c
  ·exact specOp_7 own name a lgn b lg pe len hei cl all be unt now w c
  ·exact specOp_8 own name a lgn b lg pe len hei cl all be unt now w c
  ·exact specOp_9 own name a lgn b lg pe len hei cl all be unt now w c
 ·exact zlZ kind own name a lgn b lg pe len hei cl all be unt now w k9
def ziX (x d a mo:Int)(fr tt:ByteArray)(n m:Nat):Prop :=
 In x 1 99/\Zg fr/\Zg tt/\fr≠tt/\In d 0 10000/\In a (d+1) 10000/\n<=4/\m<=6/\In mo 0 500
theorem zkN {x d a mo:Int}{fr tt:ByteArray}{n m:Nat}{c l2:zH}(j:c.n=n)(l:l2.n=m):Zf ⟨x,fr,tt,d,a,c,l2,mo⟩↔ziX x d a mo fr tt n m/\(∀ k,k<n->In (c.A k) 1 5000/\In (c.B k) 100 500)/\(∀ k,k<m->In (l2.A k) 1 3/\In (l2.B k) 1 4):=by
 subst j l;unfold Zf ziX zaZ In;simp only
 constructor
 ·rintro⟨h1,h2,h3,f,g,i,h,h8,h9,b⟩
  exact⟨⟨h1,h2,h3,f,⟨g,by omega⟩,⟨by omega,h⟩,h8.1,h9.1,b⟩,h8.2,h9.2⟩
 ·rintro⟨⟨h1,h2,h3,f,g,i,h,h8,h9⟩,b,e⟩
  exact⟨h1,h2,h3,f,g.1,by omega,i.2,⟨h,b⟩,⟨h8,e⟩,h9⟩
theorem zaE (x d a mo:Int)(fr tt:ByteArray)(lo C:Option Addr)(n m c1 c2:Nat)(f l2:zH)(w:World)(z:f.n=n)(A:l2.n=m)(g:fr.size<=1000000000000000)(l:tt.size<=1000000000000000)(hn:n<=1048576)(hm:m<=1048576)(X:zG w lo f)(Y:zG w C l2) :
  Calls Tryz.prog 146 #[.agg #[int i64 x,.string fr,.string tt,int i64 d,int i64 a,.slice lo n c1,.slice C m c2,int i64 mo]] w fun e w'=>qX (Zf ⟨x,fr,tt,d,a,f,l2,mo⟩) e/\Below w.heap.size w w':=by
 have c:Below w.heap.size w (w.alloc (.cells #[int i64 x,.string fr,.string tt,int i64 d,int i64 a,.slice lo n c1,.slice C m c2,int i64 mo] 140)):=zk bZ _;have Q:=heap_alloc_new w (.cells #[int i64 x,.string fr,.string tt,int i64 d,int i64 a,.slice lo n c1,.slice C m c2,int i64 mo] 140);have U:=hI z;have V:=hI A;have D:=zkN (x:=x) (d:=d) (a:=a) (mo:=mo) (fr:=fr) (tt:=tt) z A;have s:Hid _:=D;clear z A D
 by_cases g1:In x 1 99
 case neg =>
  have E:decide (In x 1 99)=false:=decide_eq_false g1;have o:Hid (¬ Zf ⟨x,fr,tt,d,a,f,l2,mo⟩):=fun h=>g1 ((fun h=>h.1) (s.out.1 h).1)
  clear g1;go_enter Tryz.func146,Tryz.ntmps146;go_wp2_with (first|(go_at_call 148;refine sC (zt _ _ _ _) ?_)|(go_at_call 156;refine sC (qS _ _ (by first|exact g|exact l)) ?_))
  go_ret;exact⟨zl o.out,c⟩
 have E:decide (In x 1 99)=true:=decide_eq_true g1
 by_cases g2:Zg fr
 case neg =>
  have F:decide (Zg fr)=false:=decide_eq_false g2;have o:Hid (¬ Zf ⟨x,fr,tt,d,a,f,l2,mo⟩):=fun h=>g2 ((fun h=>h.2.1) (s.out.1 h).1)
  clear g1 g2;go_enter Tryz.func146,Tryz.ntmps146;go_wp2_with (first|(go_at_call 148;refine sC (zt _ _ _ _) ?_)|(go_at_call 156;refine sC (qS _ _ (by first|exact g|exact l)) ?_))
  go_ret;exact⟨zl o.out,c⟩
 have F:decide (Zg fr)=true:=decide_eq_true g2
 by_cases g3:Zg tt
 case neg =>
  have G:decide (Zg tt)=false:=decide_eq_false g3;have o:Hid (¬ Zf ⟨x,fr,tt,d,a,f,l2,mo⟩):=fun h=>g3 ((fun h=>h.2.2.1) (s.out.1 h).1)
  clear g1 g2 g3;go_enter Tryz.func146,Tryz.ntmps146;go_wp2_with (first|(go_at_call 148;refine sC (zt _ _ _ _) ?_)|(go_at_call 156;refine sC (qS _ _ (by first|exact g|exact l)) ?_))
  go_ret;exact⟨zl o.out,c⟩
 have G:decide (Zg tt)=true:=decide_eq_true g3
 by_cases g4:fr≠tt
 case neg =>
  have H:(fr.toList == tt.toList)=true:=zet.2 (by simpa using g4)
  have o:Hid (¬ Zf ⟨x,fr,tt,d,a,f,l2,mo⟩):=fun h=>g4 ((fun h=>h.2.2.2.1) (s.out.1 h).1)
  clear g1 g2 g3 g4;go_enter Tryz.func146,Tryz.ntmps146;go_wp2_with (first|(go_at_call 148;refine sC (zt _ _ _ _) ?_)|(go_at_call 156;refine sC (qS _ _ (by first|exact g|exact l)) ?_))
  go_ret;exact⟨zl o.out,c⟩
 have H:(fr.toList == tt.toList)=false:=zga.2 g4
 by_cases g5:In d 0 10000
 case neg =>
  have I:decide (In d 0 10000)=false:=decide_eq_false g5;have o:Hid (¬ Zf ⟨x,fr,tt,d,a,f,l2,mo⟩):=fun h=>g5 ((fun h=>h.2.2.2.2.1) (s.out.1 h).1)
  clear g1 g2 g3 g4 g5;go_enter Tryz.func146,Tryz.ntmps146;go_wp2_with (first|(go_at_call 148;refine sC (zt _ _ _ _) ?_)|(go_at_call 156;refine sC (qS _ _ (by first|exact g|exact l)) ?_))
  go_ret;exact⟨zl o.out,c⟩
 have I:decide (In d 0 10000)=true:=decide_eq_true g5;have P:IntKind.i64.wrap (d+1)=d+1:=by have:=g5.1;have:=g5.2;rw[IntKind.wrap_i64];omega
 by_cases g6:In a (d+1) 10000
 case neg =>
  have J:decide (In a (d+1) 10000)=false:=decide_eq_false g6;have o:Hid (¬ Zf ⟨x,fr,tt,d,a,f,l2,mo⟩):=fun h=>g6 ((fun h=>h.2.2.2.2.2.1) (s.out.1 h).1)
  clear g1 g2 g3 g4 g5 g6;go_enter Tryz.func146,Tryz.ntmps146;go_wp2_with (first|(go_at_call 148;refine sC (zt _ _ _ _) ?_)|(go_at_call 156;refine sC (qS _ _ (by first|exact g|exact l)) ?_))
  go_ret;exact⟨zl o.out,c⟩
 have J:decide (In a (d+1) 10000)=true:=decide_eq_true g6
 by_cases g7:n<=4
 case neg =>
  have K:decide (4<n)=true:=by simp;omega
  have o:Hid (¬ Zf ⟨x,fr,tt,d,a,f,l2,mo⟩):=fun h=>g7 ((fun h=>h.2.2.2.2.2.2.1) (s.out.1 h).1)
  clear g1 g2 g3 g4 g5 g6;go_enter Tryz.func146,Tryz.ntmps146;go_wp2_with (first|(go_at_call 148;refine sC (zt _ _ _ _) ?_)|(go_at_call 156;refine sC (qS _ _ (by first|exact g|exact l)) ?_))
  go_ret;exact⟨zl o.out,c⟩
 have K:decide (4<n)=false:=by simp;omega
 by_cases g8:m<=6
 case neg =>
  have L:decide (6<m)=true:=by simp;omega
  have o:Hid (¬ Zf ⟨x,fr,tt,d,a,f,l2,mo⟩):=fun h=>g8 ((fun h=>h.2.2.2.2.2.2.2.1) (s.out.1 h).1)
  clear g1 g2 g3 g4 g5 g6;go_enter Tryz.func146,Tryz.ntmps146;go_wp2_with (first|(go_at_call 148;refine sC (zt _ _ _ _) ?_)|(go_at_call 156;refine sC (qS _ _ (by first|exact g|exact l)) ?_))
  go_ret;exact⟨zl o.out,c⟩
 have L:decide (6<m)=false:=by simp;omega
 by_cases g9:In mo 0 500
 case neg =>
  have M:decide (In mo 0 500)=false:=decide_eq_false g9;have o:Hid (¬ Zf ⟨x,fr,tt,d,a,f,l2,mo⟩):=fun h=>g9 ((fun h=>h.2.2.2.2.2.2.2.2) (s.out.1 h).1)
  clear g1 g2 g3 g4 g5 g6 g9;go_enter Tryz.func146,Tryz.ntmps146;go_wp2_with (first|(go_at_call 148;refine sC (zt _ _ _ _) ?_)|(go_at_call 156;refine sC (qS _ _ (by first|exact g|exact l)) ?_))
  go_ret;exact⟨zl o.out,c⟩
 have M:decide (In mo 0 500)=true:=decide_eq_true g9;have W:Hid (ziX x d a mo fr tt n m):=⟨g1,g2,g3,g4,g5,g6,g7,g8,g9⟩;clear g1 g2 g3 g4 g5 g6 g9;go_enter Tryz.func146,Tryz.ntmps146;go_wp2_with (first|(go_at_call 148;refine sC (zt _ _ _ _) ?_)|(go_at_call 156;refine sC (qS _ _ (by first|exact g|exact l)) ?_))
 go_loopw [4,66] (fun _ i wr=>∃ k:Nat,k<=n/\i=int i64 k/\(∀ j,j<k->In (f.A j) 1 5000/\In (f.B j) 100 500)/\Below (w.alloc (.cells #[int i64 x,.string fr,.string tt,int i64 d,int i64 a,.slice lo n c1,.slice C m c2,int i64 mo] 140)).heap.size (w.alloc (.cells #[int i64 x,.string fr,.string tt,int i64 d,int i64 a,.slice lo n c1,.slice C m c2,int i64 mo] 140)) wr) (fun _ i _=>n - (intOf i).toNat)
 case atStart=>exact⟨0,Nat.zero_le _,rfl,fun j O=>by omega,bZ⟩
 case round =>
  obtain⟨k,hk,rfl,r,t⟩:=hrel;have S:=hI r;have R:=zb Q t;have B:=t;have u:=ze c t;clear r E F G H I J K L M P c Q t
  by_cases hlt:k<n
  ·obtain⟨b,off,rfl,h1,h2⟩:=X k (by rw[U.out];omega)
   have N:=World.block_lt_of_cell? w _ h1;have c1:=(u.cell (p:=⟨b,off+k*2,none⟩) N).trans h1;have c2:=(u.cell (p:=⟨b,off+k*2+1,none⟩) N).trans h2;clear h1 h2
   by_cases g1:In (f.A k) 1 5000
   ·have z:decide (In (f.A k) 1 5000)=true:=decide_eq_true g1
    by_cases g2:In (f.B k) 100 500
    ·have A:decide (In (f.B k) 100 500)=true:=decide_eq_true g2
     have y:Hid (In (f.A k) 1 5000/\In (f.B k) 100 500):=⟨g1,g2⟩;clear g1 g2;go_wp2_with (first|(go_at_call 148;refine sC (zt _ _ _ _) ?_))
     go_roundw
     case rel=>exact⟨k+1,by omega,by go_num,fun j O=>by
      by_cases e:j=k
      ·subst e;exact y.out
      ·exact S.out j (by omega),zk B _⟩
     case measure=>simp[intOf];omega
    ·have A:decide (In (f.B k) 100 500)=false:=decide_eq_false g2
     have y:=hI g2;clear g1 g2;go_wp2_with (first|(go_at_call 148;refine sC (zt _ _ _ _) ?_))
     go_ret;exact⟨zl (fun h=>y.out ((s.out.1 h).2.1 k hlt).2),zk u _⟩
   ·have z:decide (In (f.A k) 1 5000)=false:=decide_eq_false g1
    have y:=hI g1;clear g1;go_wp2_with (first|(go_at_call 148;refine sC (zt _ _ _ _) ?_))
    go_ret;exact⟨zl (fun h=>y.out ((s.out.1 h).2.1 k hlt).1),zk u _⟩
  ·obtain rfl:k=n:=by omega
   have Z:=za R 6 _ rfl;go_wp2;go_loopw [6,84] (fun _ i wx=>∃ k:Nat,k<=m/\i=int i64 k/\(∀ j,j<k->In (l2.A j) 1 3/\In (l2.B j) 1 4)/\Below w.heap.size w wx) (fun _ i _=>m - (intOf i).toNat)
   case atStart=>exact⟨0,Nat.zero_le _,rfl,fun j O=>by omega,u⟩
   case round =>
    obtain⟨q,hq,rfl,r,v⟩:=hrel;have T:=hI r;clear r Z R u
    by_cases hlt2:q<m
    ·obtain⟨b,off,rfl,h1,h2⟩:=Y q (by rw[V.out];omega)
     have N:=World.block_lt_of_cell? w _ h1;have c1:=(v.cell (p:=⟨b,off+q*2,none⟩) N).trans h1;have c2:=(v.cell (p:=⟨b,off+q*2+1,none⟩) N).trans h2;clear h1 h2
     by_cases g1:In (l2.A q) 1 3
     ·have z:decide (In (l2.A q) 1 3)=true:=decide_eq_true g1
      by_cases g2:In (l2.B q) 1 4
      ·have A:decide (In (l2.B q) 1 4)=true:=decide_eq_true g2
       have y:Hid (In (l2.A q) 1 3/\In (l2.B q) 1 4):=⟨g1,g2⟩;clear g1 g2;go_wp2_with (first|(go_at_call 148;refine sC (zt _ _ _ _) ?_))
       go_roundw
       case rel=>exact⟨q+1,by omega,by go_num,fun j O=>by
        by_cases e:j=q
        ·subst e;exact y.out
        ·exact T.out j (by omega),zk v _⟩
       case measure=>simp[intOf];omega
      ·have A:decide (In (l2.B q) 1 4)=false:=decide_eq_false g2
       have y:=hI g2;clear g1 g2;go_wp2_with (first|(go_at_call 148;refine sC (zt _ _ _ _) ?_))
       go_ret;exact⟨zl (fun h=>y.out ((s.out.1 h).2.2 q hlt2).2),zk v _⟩
     ·have z:decide (In (l2.A q) 1 3)=false:=decide_eq_false g1
      have y:=hI g1;clear g1;go_wp2_with (first|(go_at_call 148;refine sC (zt _ _ _ _) ?_))
      go_ret;exact⟨zl (fun h=>y.out ((s.out.1 h).2.2 q hlt2).1),zk v _⟩
    ·obtain rfl:q=m:=by omega
     go_wp2;go_ret;exact⟨zR (s.out.2 ⟨W.out,S.out,T.out⟩),v⟩
theorem zma (E:Option Addr)(N c:Nat)(S:Nat->Zj)(w:World)(hN:N<=1048576)(R:QL N S 1048576)(U:qB w E N S) :
  Calls Tryz.prog 81 #[.slice E N c] w fun e w'=>qX (QJ N S) e/\Below w.heap.size w w':=by
 have X:=hI R;clear R
 by_cases h6:N<=6
 ·have L:decide (6<N)=false:=by simp;omega
  go_enter Tryz.func81,Tryz.ntmps81;go_wp2;go_loopw [3,4,10] (fun _ _ i wr=>∃ k:Nat,k<=N/\i=int i64 k/\(∀ j,j<k->Zf (S j)/\(0<j->(S (j - 1)).id<(S j).id))/\Below w.heap.size w wr) (fun _ _ i _=>N - (intOf i).toNat)
  case atStart=>exact⟨0,Nat.zero_le _,rfl,fun j hj=>by omega,bZ⟩
  case round =>
   obtain⟨k,hk,rfl,s,d⟩:=hrel;have J:=hI s;clear s L
   by_cases hlt:k<N
   ·have K:Hid (0<k->∀ b off,E=some ⟨b,off,none⟩->w.cell? ⟨b,off+(k - 1)*8,none⟩=some (int i64 (S (k - 1)).id)):=by
     intro h b off e;obtain⟨b',V,_,_,_,_,G,g,_⟩:=U (k - 1) (by omega)
     rw[e] at G;simp only[Option.some.injEq,Addr.mk.injEq,and_true] at G;obtain⟨rfl,rfl⟩:=G;exact g
    obtain⟨b,off,la,H,ca,F,rfl,M,h1,h2,h3,O,P,y,Q,h8,h9,_,_⟩:=U k hlt;have C:Hid (0<k->w.cell? ⟨b,off+(k - 1)*8,none⟩=some (int i64 (S (k - 1)).id)):=fun h=>K.out h b off rfl
    clear K;have n:=World.block_lt_of_cell? w _ h1;have Y:=(d.cell (p:=⟨b,off+k*8,none⟩) n).trans M;have c1:=(d.cell (p:=⟨b,off+k*8+1,none⟩) n).trans h1;have c2:=(d.cell (p:=⟨b,off+k*8+2,none⟩) n).trans h2;have c3:=(d.cell (p:=⟨b,off+k*8+3,none⟩) n).trans h3;have c4:=(d.cell (p:=⟨b,off+k*8+4,none⟩) n).trans O;have c5:=(d.cell (p:=⟨b,off+k*8+5,none⟩) n).trans P;have c6:=(d.cell (p:=⟨b,off+k*8+6,none⟩) n).trans y;have c7:=(d.cell (p:=⟨b,off+k*8+7,none⟩) n).trans Q;obtain⟨s1,s2,z,A⟩:=X.out k hlt;have o:(S k).fr.size<=1000000000000000:=by omega
    have q:(S k).dst.size<=1000000000000000:=by omega
    clear s1 s2;have f:=zk d (.cells #[int i64 (S k).id,.string (S k).fr,.string (S k).dst,int i64 (S k).dep,int i64 (S k).arr,.slice la (S k).la.n H,.slice ca (S k).ca.n F,int i64 (S k).most] 140);have a:=heap_alloc_new wr (.cells #[int i64 (S k).id,.string (S k).fr,.string (S k).dst,int i64 (S k).dep,int i64 (S k).arr,.slice la (S k).la.n H,.slice ca (S k).ca.n F,int i64 (S k).most] 140);clear M h1 h2 h3 O P y Q;go_upto_region 6 with fail;generalize hW:wr.alloc (.cells #[int i64 (S k).id,.string (S k).fr,.string (S k).dst,int i64 (S k).dep,int i64 (S k).arr,.slice la (S k).la.n H,.slice ca (S k).ca.n F,int i64 (S k).most] 140)=W at f a ⊢;clear hW;have l:wr.heap.size<W.heap.size:=zM a;have z0:∀ g:zn W,g.val.cell? ⟨wr.heap.size,0,none⟩=_:=fun g=>(g.bel.cell l).trans (za a 0 _ rfl)
    have z1:∀ g:zn W,g.val.cell? ⟨wr.heap.size,1,none⟩=_:=fun g=>(g.bel.cell l).trans (za a 1 _ rfl)
    have z2:∀ g:zn W,g.val.cell? ⟨wr.heap.size,2,none⟩=_:=fun g=>(g.bel.cell l).trans (za a 2 _ rfl)
    have z3:∀ g:zn W,g.val.cell? ⟨wr.heap.size,3,none⟩=_:=fun g=>(g.bel.cell l).trans (za a 3 _ rfl)
    have z4:∀ g:zn W,g.val.cell? ⟨wr.heap.size,4,none⟩=_:=fun g=>(g.bel.cell l).trans (za a 4 _ rfl)
    have z5:∀ g:zn W,g.val.cell? ⟨wr.heap.size,5,none⟩=_:=fun g=>(g.bel.cell l).trans (za a 5 _ rfl)
    have z6:∀ g:zn W,g.val.cell? ⟨wr.heap.size,6,none⟩=_:=fun g=>(g.bel.cell l).trans (za a 6 _ rfl)
    have z7:∀ g:zn W,g.val.cell? ⟨wr.heap.size,7,none⟩=_:=fun g=>(g.bel.cell l).trans (za a 7 _ rfl)
    have a0:b<W.heap.size:=Nat.lt_of_lt_of_le n f.size;clear Y c1 c2 c3 c4 c5 c6 c7 a;go_cut [10,32] (fun i c wx=>i=int i64 k/\zll (Zf (S k)/\(0<k->(S (k - 1)).id<(S k).id)) c/\Below w.heap.size w wx)
    case first =>
     by_cases hg:Zf (S k)
     ·have r:=hI hg
      clear hg
      by_cases k0:k=0
      ·subst k0
       refine zh (by kernel_rfl) (by kernel_rfl) ?_
       repeat(first|go_big_quiet_skip|(go_big_quiet_want;go_big_quiet_op;first|go_big_quiet_on|(apply Exists.intro;refine⟨fun g=>?_,?_⟩;(focus(go_at_call 146;refine zf (v:=.bool true) ((zaE _ _ _ _ _ _ _ _ _ _ _ _ (S 0).la (S 0).ca _ rfl rfl o q z A (h8.below (ze f g.bel)) (h9.below (ze f g.bel))).mono ?_);rintro e I ⟨⟨bb,rfl,x⟩,m⟩;obtain rfl:=x.2 r.out;exact⟨rfl,m⟩));go_big_quiet_on)))
       refine wpQuiet_nil ?_;rintro _ ⟨g,rfl⟩;go_wp2;go_meet;exact⟨rfl,Q5 ⟨r.out,fun h=>by omega⟩,ze f g.bel⟩
      ·have d0:decide (0<k)=true:=by simp;omega
       have a1:((k:Int) - 1).toNat=k - 1:=by omega
       have a2:(k:Int) - 1<(N:Int):=by omega
       have a3:(0:Int)<=(k:Int) - 1:=by omega
       have a4:IntKind.i64.wrap ((k:Int) - 1)=(k:Int) - 1:=by rw[IntKind.wrap_i64];omega
       have y0:∀ g:zn W,g.val.cell? ⟨b,off+(k - 1)*8,none⟩=_:=fun g=>((ze f g.bel).cell (p:=⟨b,off+(k - 1)*8,none⟩) n).trans (C.out (by omega))
       by_cases hle:(S k).id<=(S (k - 1)).id
       ·have Z:decide ((S k).id<=(S (k - 1)).id)=true:=by simpa using hle
        refine zh (by kernel_rfl) (by kernel_rfl) ?_
        repeat(first|go_big_quiet_skip|(go_big_quiet_want;go_big_quiet_op;first|go_big_quiet_on|(apply Exists.intro;refine⟨fun g=>?_,?_⟩;(focus(go_at_call 146;refine zf (v:=.bool true) ((zaE _ _ _ _ _ _ _ _ _ _ _ _ (S k).la (S k).ca _ rfl rfl o q z A (h8.below (ze f g.bel)) (h9.below (ze f g.bel))).mono ?_);rintro e I ⟨⟨bb,rfl,x⟩,m⟩;obtain rfl:=x.2 r.out;exact⟨rfl,m⟩));go_big_quiet_on)))
        refine wpQuiet_nil ?_;rintro _ ⟨g,rfl⟩;go_wp2;go_meet;exact⟨rfl,QP (fun h=>by have:=h.2 (by omega);omega),ze f g.bel⟩
       ·have Z:decide ((S k).id<=(S (k - 1)).id)=false:=by simpa using hle
        refine zh (by kernel_rfl) (by kernel_rfl) ?_
        repeat(first|go_big_quiet_skip|(go_big_quiet_want;go_big_quiet_op;first|go_big_quiet_on|(apply Exists.intro;refine⟨fun g=>?_,?_⟩;(focus(go_at_call 146;refine zf (v:=.bool true) ((zaE _ _ _ _ _ _ _ _ _ _ _ _ (S k).la (S k).ca _ rfl rfl o q z A (h8.below (ze f g.bel)) (h9.below (ze f g.bel))).mono ?_);rintro e I ⟨⟨bb,rfl,x⟩,m⟩;obtain rfl:=x.2 r.out;exact⟨rfl,m⟩));go_big_quiet_on)))
        refine wpQuiet_nil ?_;rintro _ ⟨g,rfl⟩;go_wp2;go_meet;exact⟨rfl,Q5 ⟨r.out,fun _=>by omega⟩,ze f g.bel⟩
     ·have r:=hI hg
      clear hg;refine zh (by kernel_rfl) (by kernel_rfl) ?_
      repeat(first|go_big_quiet_skip|(go_big_quiet_want;go_big_quiet_op;first|go_big_quiet_on|(apply Exists.intro;refine⟨fun g=>?_,?_⟩;(focus(go_at_call 146;refine zf (v:=.bool false) ((zaE _ _ _ _ _ _ _ _ _ _ _ _ (S k).la (S k).ca _ rfl rfl o q z A (h8.below (ze f g.bel)) (h9.below (ze f g.bel))).mono ?_);rintro e I ⟨⟨bb,rfl,x⟩,m⟩;obtain rfl:=Bool.eq_false_iff.2 (fun e=>r.out (x.1 e));exact⟨rfl,m⟩));go_big_quiet_on)))
      refine wpQuiet_nil ?_;rintro _ ⟨g,rfl⟩;go_wp2;go_meet;exact⟨rfl,QP (fun h=>r.out h.1),ze f g.bel⟩
    case rest =>
     obtain⟨rfl,⟨t,rfl,T⟩,u⟩:=hcut;have D:=hI T;clear T z0 z1 z2 z3 z4 z5 z6 z7
     cases t with
     | true =>
      go_wp2;go_ret;exact⟨zl (fun h=>by have:=D.out.2 (h.2 k hlt);cases this),u⟩
     | false =>
      have B:=D.out.1 rfl;have B:Hid _:=B;clear D;go_wp2;go_roundw
      case rel=>exact⟨k+1,by omega,by go_num,fun j hj=>by
       by_cases e:j=k
       ·subst e;exact B.out
       ·exact J.out j (by omega),u⟩
      case measure=>simp[intOf];omega
   ·obtain rfl:k=N:=by omega
    go_wp2;go_ret;exact⟨zR ⟨h6,J.out⟩,d⟩
 ·have L:decide (6<N)=true:=by simp;omega
  go_enter Tryz.func81,Tryz.ntmps81;go_wp2;go_ret;exact⟨zl (fun h=>h6 h.1),bZ⟩
theorem Q9 (l:Option Addr)(N c:Nat)(S:Nat->Zj)(x:Int)(w:World)(hN:N<=1048576)(v:qB w l N S) :
  Calls Tryz.prog 161 #[.slice l N c,int i64 x] w fun e w'=>((zW S x N<N/\e=.returned (int i64 (zW S x N)))∨(zW S x N=N/\e=.returned (int i64 (-1))))/\Below w.heap.size w w':=by
 go_enter Tryz.func161,Tryz.ntmps161;go_wp2;go_loopw [5,6,9] (fun _ _ i wr=>∃ k:Nat,k<=N/\i=int i64 k/\(∀ j,j<k->(S j).id≠x)/\Below w.heap.size w wr) (fun _ _ i _=>N - (intOf i).toNat)
 case atStart=>exact⟨0,Nat.zero_le _,rfl,fun j u=>by omega,bZ⟩
 case round =>
  obtain⟨k,hk,rfl,d,a⟩:=hrel;have h:=hI d;clear d
  by_cases hlt:k<N
  ·obtain⟨b,off,la,lc,ca,cc,rfl,m,h1,h2,h3,n,o,q,r,_,_,_,_⟩:=v k hlt
   have f:=World.block_lt_of_cell? w _ h1;have c0:=(a.cell (p:=⟨b,off+k*8,none⟩) f).trans m;have c1:=(a.cell (p:=⟨b,off+k*8+1,none⟩) f).trans h1;have c2:=(a.cell (p:=⟨b,off+k*8+2,none⟩) f).trans h2;have c3:=(a.cell (p:=⟨b,off+k*8+3,none⟩) f).trans h3;have c4:=(a.cell (p:=⟨b,off+k*8+4,none⟩) f).trans n;have c5:=(a.cell (p:=⟨b,off+k*8+5,none⟩) f).trans o;have c6:=(a.cell (p:=⟨b,off+k*8+6,none⟩) f).trans q;have c7:=(a.cell (p:=⟨b,off+k*8+7,none⟩) f).trans r;clear m h1 h2 h3 n o q r
   by_cases he:(S k).id=x
   ·have t:((S k).id == x)=true:=by simpa using he
    have g:=hI (zkg hlt he h.out);clear he;go_wp2;go_ret;exact⟨.inl ⟨by rw[g.out];exact hlt,by rw[g.out];rfl⟩,zk a _⟩
   ·have t:((S k).id == x)=false:=by simpa using he
    have s:=hI he;clear he;go_wp2;go_roundw
    case rel=>exact⟨k+1,by omega,by go_num,fun j u=>by
     by_cases e:j=k
     ·subst e;exact s.out
     ·exact h.out j (by omega),zk a _⟩
    case measure=>simp[intOf];omega
  ·obtain rfl:k=N:=by omega
   have g:=hI (zgD h.out);go_wp2;go_ret;exact⟨.inr ⟨g.out,rfl⟩,a⟩
theorem zkO (F bo:Option Addr)(N n c c':Nat)(S:Nat->Zj)(G:Nat->Int)(w:World)(hN:N<=1048576)(hn:n<=1048576)(H:qB w F N S)(hy:zT w bo n G) :
  Calls Tryz.prog 157 #[.slice F N c,.slice bo n c'] w fun e w'=>qX (zad N S n G) e/\Below w.heap.size w w':=by
 by_cases o:In (n:Int) 1 3
 case neg =>
  have U:decide (In (n:Int) 1 3)=false:=decide_eq_false o;have HN:Hid (¬ zad N S n G):=fun h=>o ⟨by have:=h.1;omega,by have:=h.2.1;omega⟩
  clear o;go_enter Tryz.func157,Tryz.ntmps157;go_wp2_with (first|(go_at_call 148;refine sC (zt _ _ _ _) ?_))
  go_ret;exact⟨zl HN.out,bZ⟩
 have U:decide (In (n:Int) 1 3)=true:=decide_eq_true o;have J:Hid (1<=n/\n<=3):=⟨by have:=o.1;omega,by have:=o.2;omega⟩
 have a4:n<=3:=J.out.2;clear o;go_enter Tryz.func157,Tryz.ntmps157;go_wp2_with (first|(go_at_call 148;refine sC (zt _ _ _ _) ?_))
 go_loopw [5,6,7,8,15] (fun _ _ _ _ i wr=>∃ k:Nat,k<=n/\i=int i64 k/\(∀ j,j<k->zkh N S G j)/\Below w.heap.size w wr) (fun _ _ _ _ i _=>n - (intOf i).toNat)
 case atStart=>exact⟨0,Nat.zero_le _,rfl,fun j hj=>by omega,bZ⟩
 case round =>
  obtain⟨k,hk,rfl,r,f⟩:=hrel;have K:=hI r;clear r U
  by_cases hlt:k<n
  ·have R:Hid (0<k->∀ b off,bo=some ⟨b,off,none⟩->w.cell? ⟨b,off+(k - 1),none⟩=some (int i64 (G (k - 1)))):=by
    intro h b off e;obtain⟨b',E,A,g⟩:=hy (k - 1) (by omega)
    rw[e] at A;simp only[Option.some.injEq,Addr.mk.injEq,and_true] at A;obtain⟨rfl,rfl⟩:=A;exact g
   obtain⟨I,l,rfl,Q⟩:=hy k hlt;have L:Hid (0<k->w.cell? ⟨I,l+(k - 1),none⟩=some (int i64 (G (k - 1)))):=fun h=>R.out h I l rfl
   clear R;have D:=World.block_lt_of_cell? w _ Q;have p0:=(f.cell (p:=⟨I,l+k,none⟩) D).trans Q;clear Q;go_wp2_with fail;refine(Q9 F N c S (G k) _ hN (H.below f)).mono ?_;rintro e w2 ⟨hr,B⟩;have d:=ze f B;clear B f p0
   rcases hr with⟨t,rfl⟩|⟨t,rfl⟩
   ·obtain⟨x,v⟩:∃ x,x=zW S (G k) N:=⟨_,rfl⟩
    rw[← v] at t ⊢;have T:=hI v;clear v
    by_cases k0:k=0
    ·subst k0
     have P:decide ((x:Int)<0)=false:=by simp
     go_wp2;go_roundw
     case rel=>exact⟨1,by omega,by go_num,fun j hj=>by
      obtain rfl:j=0:=by omega
      exact⟨by rw[← T.out];exact t,fun h=>by omega⟩,d⟩
     case measure=>simp[intOf];omega
    ·have P:decide ((x:Int)<0)=false:=by simp
     have d0:decide (0<k)=true:=by simp;omega
     have a0:((k:Int) - 1).toNat=k - 1:=by omega
     have a1:(k:Int) - 1<(n:Int):=by omega
     have a2:(0:Int)<=(k:Int) - 1:=by omega
     have a3:IntKind.i64.wrap ((k:Int) - 1)=(k:Int) - 1:=by rw[IntKind.wrap_i64];omega
     have y0:=(d.cell (p:=⟨I,l+(k - 1),none⟩) D).trans (L.out (by omega))
     go_wp2_with fail;refine(Q9 F N c S (G (k - 1)) _ hN (H.below d)).mono ?_;rintro e w3 ⟨hr,C⟩;have a:=ze d C;have HP:Hid (zW S (G (k - 1)) N<N):=(K.out (k - 1) (by omega)).1
     clear C d y0 P d0
     rcases hr with⟨u,rfl⟩|⟨u,rfl⟩
     ·obtain⟨y,z⟩:∃ y,y=zW S (G (k - 1)) N:=⟨_,rfl⟩
      rw[← z] at u ⊢;have HY:=hI z;clear z;have x1:(x:Int)<(N:Int):=by omega
      have x0:(0:Int)<=(x:Int):=by omega
      have y1:(y:Int)<(N:Int):=by omega
      have y0:(0:Int)<=(y:Int):=by omega
      have M:=H x t;obtain⟨b,off,la,lc,ca,cc,rfl,W,h1,h2,h3,X,Y,Z,h7,_,_,_,_⟩:=H y u;obtain⟨b',E,_,_,_,_,A,g0,V,g2,o,_⟩:=M;simp only[Option.some.injEq,Addr.mk.injEq,and_true] at A;obtain⟨rfl,rfl⟩:=A;have q:=World.block_lt_of_cell? w _ h1;have c0:=(a.cell (p:=⟨b,off+y*8,none⟩) q).trans W;have c1:=(a.cell (p:=⟨b,off+y*8+1,none⟩) q).trans h1;have c2:=(a.cell (p:=⟨b,off+y*8+2,none⟩) q).trans h2;have c3:=(a.cell (p:=⟨b,off+y*8+3,none⟩) q).trans h3;have c4:=(a.cell (p:=⟨b,off+y*8+4,none⟩) q).trans X;have c5:=(a.cell (p:=⟨b,off+y*8+5,none⟩) q).trans Y;have c6:=(a.cell (p:=⟨b,off+y*8+6,none⟩) q).trans Z;have c7:=(a.cell (p:=⟨b,off+y*8+7,none⟩) q).trans h7;have m:=zk a (.cells #[int i64 (S y).id,.string (S y).fr,.string (S y).dst,int i64 (S y).dep,int i64 (S y).arr,.slice la (S y).la.n lc,.slice ca (S y).ca.n cc,int i64 (S y).most] 140);have q1:=(m.cell (p:=⟨b,off+x*8+1,none⟩) q).trans V;have q3:=(m.cell (p:=⟨b,off+x*8+3,none⟩) q).trans o;clear W h1 h2 h3 X Y Z h7 g0 V g2 o;have s:Hid (((S y).dst=(S x).fr/\(S y).arr<=(S x).dep)↔zkh N S G k):=by
       unfold zkh;rw[← T.out,← HY.out];exact⟨fun h=>⟨t,fun _=>h⟩,fun h=>h.2 (by omega)⟩
      by_cases m1:(S y).dst=(S x).fr
      ·have e1:((S y).dst.toList == (S x).fr.toList)=true:=zet.2 m1
       have O:=hI m1;clear m1
       by_cases m2:(S y).arr<=(S x).dep
       ·have e2:decide ((S x).dep<(S y).arr)=false:=by simpa using m2
        go_wp2;go_quiet (fail);go_wp2;go_roundw
        case rel=>exact⟨k+1,by omega,by go_num,fun j hj=>by
         by_cases e:j=k
         ·subst e;exact s.out.1 ⟨O.out,m2⟩
         ·exact K.out j (by omega),dN m _⟩
        case measure=>simp[intOf];omega
       ·have e2:decide ((S x).dep<(S y).arr)=true:=by simpa using m2
        go_wp2;go_quiet (fail);go_wp2;go_ret;exact⟨zl (fun h=>by have:=(s.out.2 (h.2.2 k hlt)).2;omega),dN m _⟩
      ·have e1:((S y).dst.toList == (S x).fr.toList)=false:=zga.2 m1
       have O:=hI m1;clear m1;go_wp2;go_quiet (fail);go_wp2;go_ret;exact⟨zl (fun h=>O.out (s.out.2 (h.2.2 k hlt)).1),dN m _⟩
     ·exfalso
      have:=HP.out
      omega
   ·have P:decide ((-1:Int)<0)=true:=rfl
    have HF:=hI t;clear t;go_wp2;go_ret;exact⟨zl (fun h=>by have:=(h.2.2 k hlt).1;have:=HF.out;omega),d⟩
  ·obtain rfl:k=n:=by omega
   go_wp2;go_ret;exact⟨zR ⟨J.out.1,J.out.2,K.out⟩,f⟩
def Qk (N:Nat)(x:Off)(y:OpD):Prop:=(zJ y.kind/\¬ zad N x.sa y.lgn y.lg)∨(y.kind=9/\zW x.sa (y.lg 0) N=N)
def ZT (N R m:Nat)(x:Off)(y:OpD)(code:Int):Prop :=
 (¬ zac y->code=1)/\(zac y->Qk N x y->code=2)/\(zac y->¬ Qk N x y->In y.kind 4 8->zcV R m x y code)/\(zac y->¬ Qk N x y->¬ In y.kind 4 8->code=0)
theorem zmb (b t s k:Option Addr)(N M R d A z j m:Nat)(x:Off)(y:OpD)(w:World)(hN:N<=1048576)(hR:R<=1048576)(hl:y.lgn<=1048576)(ho:y.own.size<=1000000000000000)(hz:qB w b N x.sa)(a4:qO w s R x.bk)(a2:OpD.Is w [int i64 y.kind,.string y.own,int i64 y.name,.slice k y.lgn j,int i64 y.pe,int i64 y.len,int i64 y.hei,int i64 y.cl,.bool y.all,int i64 y.be,int i64 y.unt,int i64 y.now] y)(hm:zac y->In y.kind 4 8->y.name=(m:Int)+1/\m<=1048576) :
  Calls Tryz.prog 90 #[.agg #[.slice b N d,.slice t M A,.slice s R z],.agg #[int i64 y.kind,.string y.own,int i64 y.name,.slice k y.lgn j,int i64 y.pe,int i64 y.len,int i64 y.hei,int i64 y.cl,.bool y.all,int i64 y.be,int i64 y.unt,int i64 y.now]] w fun e w'=>(∃ code:Int,e=.returned (int i64 code)/\ZT N R m x y code)/\Below w.heap.size w w':=by
 have HM:=hI hm;clear hm;have Y:=hI a4;have HZ:=hI hz;have a9:=hI a2;have a3:Hid (zT w k y.lgn y.lg):=by
  obtain⟨a,c,e,h,_⟩:=a2;simp only[List.cons.injEq,Value.slice.injEq] at e;obtain⟨_,_,_,⟨rfl,_,_⟩,_⟩:=e;exact h
 clear a4 hz a2;have S:Below w.heap.size w ((w.alloc (.cells #[.slice b N d,.slice t M A,.slice s R z] 38)).alloc (.cells #[int i64 y.kind,.string y.own,int i64 y.name,.slice k y.lgn j,int i64 y.pe,int i64 y.len,int i64 y.hei,int i64 y.cl,.bool y.all,int i64 y.be,int i64 y.unt,int i64 y.now] 47)):=zk (zk bZ _) _;have bF:((w.alloc (.cells #[.slice b N d,.slice t M A,.slice s R z] 38)).alloc (.cells #[int i64 y.kind,.string y.own,int i64 y.name,.slice k y.lgn j,int i64 y.pe,int i64 y.len,int i64 y.hei,int i64 y.cl,.bool y.all,int i64 y.be,int i64 y.unt,int i64 y.now] 47)).heap[w.heap.size]?=some (.cells #[.slice b N d,.slice t M A,.slice s R z] 38 (0,0)):=zd (heap_alloc_new w _) _;have bO:((w.alloc (.cells #[.slice b N d,.slice t M A,.slice s R z] 38)).alloc (.cells #[int i64 y.kind,.string y.own,int i64 y.name,.slice k y.lgn j,int i64 y.pe,int i64 y.len,int i64 y.hei,int i64 y.cl,.bool y.all,int i64 y.be,int i64 y.unt,int i64 y.now] 47)).heap[w.heap.size+1]?=some (.cells #[int i64 y.kind,.string y.own,int i64 y.name,.slice k y.lgn j,int i64 y.pe,int i64 y.len,int i64 y.hei,int i64 y.cl,.bool y.all,int i64 y.be,int i64 y.unt,int i64 y.now] 47 (0,0)):=by simpa using heap_alloc_new (w.alloc (.cells #[.slice b N d,.slice t M A,.slice s R z] 38)) _
 go_enter Tryz.func90,Tryz.ntmps90;go_upto_region 1 with fail;generalize (w.alloc (.cells #[.slice b N d,.slice t M A,.slice s R z] 38)).alloc (.cells #[int i64 y.kind,.string y.own,int i64 y.name,.slice k y.lgn j,int i64 y.pe,int i64 y.len,int i64 y.hei,int i64 y.cl,.bool y.all,int i64 y.be,int i64 y.unt,int i64 y.now] 47)=V at S bF bO ⊢;obtain⟨o0,o1,o2,o3,o4,o5,o6,o7,o8,o9,b1,b2⟩:=zeW bO;obtain⟨q,hq⟩:∃ q:Bool,q=decide (zac y):=⟨_,rfl⟩;have cg:=znD [int i64 y.kind,.string y.own,int i64 y.name,.slice k y.lgn j,int i64 y.pe,int i64 y.len,int i64 y.hei,int i64 y.cl,.bool y.all,int i64 y.be,int i64 y.unt,int i64 y.now] y V ho (a9.out.below S);rw[← hq] at cg;have HQ:Hid (q=true↔zac y):=by rw[hq];exact decide_eq_true_iff
 clear hq;go_wp2_with fail;refine cg.mono ?_;clear cg;rintro e H ⟨rfl,T⟩;have G:=zb bO T;have I:=zb bF T;have B:=hI (ze S T);clear o0 o1 o2 o3 o4 o5 o6 o7 o8 o9 b1 b2 bO bF S T
 cases q with
 | false =>
  have W:¬ zac y:=fun h=>by have:=HQ.out.2 h;cases this
  have C:Hid (ZT N R m x y 1):=⟨fun _=>rfl,fun h=>absurd h W,fun h=>absurd h W,fun h=>absurd h W⟩
  clear W;go_wp2;go_ret;exact⟨⟨1,rfl,C.out⟩,B.out⟩
 | true =>
  have p:Hid (zac y):=by first|exact HQ.out.1 rfl|exact HQ.out.1 trivial
  have o0:=za G 0 _ rfl;have o3:=za G 3 _ rfl;have f0:=za I 0 _ rfl
  by_cases hL:zJ y.kind
  ·have dL:decide (zJ y.kind)=true:=decide_eq_true hL
   have k9:(y.kind == 9)=false:=by rw[beq_eq_false_iff_ne];unfold zJ at hL;omega
   go_wp2_with (go_at_call 160;refine sC (zV _ _) ?_);refine(zkO b k N y.lgn d j x.sa y.lg _ hN hl (HZ.out.below B.out) (a3.out.below B.out)).mono ?_;rintro e w2 ⟨⟨r,rfl,hr⟩,U⟩;have i:=zb G U;have l:=zb I U;have o:=hI (ze B.out U);have Z:=hI hr;clear o0 o3 f0 G I B U hr dL
   cases r with
   | false =>
    have C:Hid (ZT N R m x y 2):=by
     have Q:Qk N x y:=.inl ⟨hL,fun h=>by have:=Z.out.2 h;cases this⟩
     exact⟨fun h=>absurd p.out h,fun _ _=>rfl,fun _ h=>absurd Q h,fun _ h=>absurd Q h⟩
    clear hL;go_wp2;go_ret;exact⟨⟨2,rfl,C.out⟩,o.out⟩
   | true =>
    have D:Hid (¬ Qk N x y):=by
     rintro(⟨_,h⟩|⟨h,_⟩)
     ·exact h (by first|exact Z.out.1 rfl|exact Z.out.1 trivial)
     ·unfold zJ at hL;omega
    clear hL;have u0:∀ h:zn w2,h.val.cell? ⟨w.heap.size+1,0,none⟩=some (int i64 y.kind):=fun h=>za (zb i h.bel) 0 _ rfl
    have u3:∀ h:zn w2,h.val.cell? ⟨w.heap.size+1,3,none⟩=some (.slice k y.lgn j):=fun h=>za (zb i h.bel) 3 _ rfl
    have v0:∀ h:zn w2,h.val.cell? ⟨w.heap.size,0,none⟩=some (.slice b N d):=fun h=>za (zb l h.bel) 0 _ rfl
    go_upto_region 5 with fail;refine zh (by kernel_rfl) (by kernel_rfl) ?_
    repeat(first|go_big_quiet_skip|(go_big_quiet_want;go_big_quiet_op;first|go_big_quiet_on))
    refine wpQuiet_nil ?_;rintro _ ⟨g,rfl⟩;have n:=zb i g.bel;have u:=zb l g.bel;have f:=hI (ze o.out g.bel);generalize g.val=w3 at n u f ⊢;clear u0 u3 v0 i l o
    by_cases hn:In y.kind 4 8
    ·have K:decide (In y.kind 4 8)=true:=decide_eq_true hn
     obtain⟨p0,p1,p2,p3,p4,p5,p6,p7,p8,p9,a6,a7⟩:=zeW n;obtain⟨s0,s1,s2⟩:=ce3 u;have E:=hI (HM.out p.out hn);go_wp2_with (go_at_call 162;refine sC (zO _ _) ?_);refine(zbH b t s k N M R d A z j m x y w3 hR E.out.2 E.out.1 (Y.out.below f.out)).mono ?_;rintro e w4 ⟨⟨code,rfl,F⟩,L⟩;have C:Hid (ZT N R m x y code):=⟨fun h=>absurd p.out h,fun _ h=>absurd h D.out,fun _ _ _=>F,fun _ _ h=>absurd hn h⟩
     have J:=hI (ze f.out L);clear F;go_wp2;go_ret;exact⟨⟨code,rfl,C.out⟩,J.out⟩
    ·have K:decide (In y.kind 4 8)=false:=decide_eq_false hn
     have p0:=za n 0 _ rfl;have C:Hid (ZT N R m x y 0):=⟨fun h=>absurd p.out h,fun _ h=>absurd h D.out,fun _ _ h=>absurd h hn,fun _ _ _=>rfl⟩
     go_wp2_with (go_at_call 162;refine sC (zO _ _) ?_);go_ret;exact⟨⟨0,rfl,C.out⟩,f.out⟩
  ·have dL:decide (zJ y.kind)=false:=decide_eq_false hL
   have i:=G;have l:=I;have o:=hI B
   by_cases h9:y.kind=9
   ·have a5:y.lgn=1:=by
     have h:=p.out.2.2.2.1;unfold qi at h;rw[if_neg hL,if_pos h9] at h;exact h
    have k9:(y.kind == 9)=true:=by rw[beq_iff_eq];exact h9
    have H9:=hI h9;obtain⟨gb,go,b0,a1⟩:=a3.out 0 (by omega)
    subst b0;have i0:(0:Int)<(y.lgn:Int):=by omega
    have b4:0<y.lgn:=by omega
    have z0:∀ h:zn H,h.val.cell? ⟨gb,go,none⟩=some (int i64 (y.lg 0)):=fun h=>((ze B.out h.bel).cell (World.block_lt_of_cell? w _ a1)).trans a1
    clear G I B a1;have a8:=hI hL;have b3:=hI a5;clear hL h9 a5;obtain⟨fi,a0⟩:∃ fi,fi=zW x.sa (y.lg 0) N:=⟨_,rfl⟩;have P:=hI a0
    by_cases hfx:fi<N
    ·have D:Hid (¬ Qk N x y):=by
      rintro(⟨h,_⟩|⟨_,h⟩)
      ·exact a8.out h
      ·have e:=P.out;omega
     have X:Hid (∀ g:zn H,Calls Tryz.prog 161 #[.slice b N d,int i64 (y.lg 0)] g.val fun e O=>e=.returned (int i64 (fi:Int))/\∃ g':zn H,O=g'.val):=fun g=>zf (v:=int i64 (fi:Int)) ((Q9 b N d x.sa (y.lg 0) g.val hN (HZ.out.below (ze o.out g.bel))).mono fun e O ⟨h,Q⟩=>by
      rw[← P.out] at h
      rcases h with⟨_,h⟩|⟨h,_⟩
      ·exact⟨h,Q⟩
      ·omega)
     have d9:decide ((fi:Int)<0)=false:=decide_eq_false (by omega)
     clear a0;go_upto_region 5 with(go_at_call 160;refine sC (zV _ _) ?_);clear o0 o3 f0 dL;have u0:∀ h:zn H,h.val.cell? ⟨w.heap.size+1,0,none⟩=some (int i64 y.kind):=fun h=>za (zb i h.bel) 0 _ rfl
     have u3:∀ h:zn H,h.val.cell? ⟨w.heap.size+1,3,none⟩=some (.slice (some ⟨gb,go,none⟩) y.lgn j):=fun h=>za (zb i h.bel) 3 _ rfl
     have v0:∀ h:zn H,h.val.cell? ⟨w.heap.size,0,none⟩=some (.slice b N d):=fun h=>za (zb l h.bel) 0 _ rfl
     refine zh (by kernel_rfl) (by kernel_rfl) ?_
     repeat(first|go_big_quiet_skip|(go_big_quiet_want;go_big_quiet_op;first|go_big_quiet_on|(apply Exists.intro;refine⟨fun g=>?_,?_⟩;(focus(go_at_call 161;exact X.out g));go_big_quiet_on)))
     refine wpQuiet_nil ?_;rintro _ ⟨g,rfl⟩;have n:=zb i g.bel;have u:=zb l g.bel;have f:=hI (ze o.out g.bel);generalize g.val=w3 at n u f ⊢;clear u0 u3 v0 z0 i l o
     by_cases hn:In y.kind 4 8
     ·have K:decide (In y.kind 4 8)=true:=decide_eq_true hn
      obtain⟨p0,p1,p2,p3,p4,p5,p6,p7,p8,p9,a6,a7⟩:=zeW n;obtain⟨s0,s1,s2⟩:=ce3 u;have E:=hI (HM.out p.out hn);go_wp2_with (go_at_call 162;refine sC (zO _ _) ?_);refine(zbH b t s (some ⟨gb,go,none⟩) N M R d A z j m x y w3 hR E.out.2 E.out.1 (Y.out.below f.out)).mono ?_;rintro e w4 ⟨⟨code,rfl,F⟩,L⟩;have C:Hid (ZT N R m x y code):=⟨fun h=>absurd p.out h,fun _ h=>absurd h D.out,fun _ _ _=>F,fun _ _ h=>absurd hn h⟩
      have J:=hI (ze f.out L);clear F;go_wp2;go_ret;exact⟨⟨code,rfl,C.out⟩,J.out⟩
     ·have K:decide (In y.kind 4 8)=false:=decide_eq_false hn
      have p0:=za n 0 _ rfl;have C:Hid (ZT N R m x y 0):=⟨fun h=>absurd p.out h,fun _ h=>absurd h D.out,fun _ _ h=>absurd h hn,fun _ _ _=>rfl⟩
      go_wp2_with (go_at_call 162;refine sC (zO _ _) ?_);go_ret;exact⟨⟨0,rfl,C.out⟩,f.out⟩
    ·have C:Hid (ZT N R m x y 2):=by
      have Q:Qk N x y:=.inr ⟨H9.out,by
       have e:=P.out;have h2:=zcm x.sa (y.lg 0) N
       omega⟩
      exact⟨fun h=>absurd p.out h,fun _ _=>rfl,fun _ h=>absurd Q h,fun _ h=>absurd Q h⟩
     have X:Hid (∀ g:zn H,Calls Tryz.prog 161 #[.slice b N d,int i64 (y.lg 0)] g.val fun e O=>e=.returned (int i64 (-1))/\∃ g':zn H,O=g'.val):=fun g=>zf (v:=int i64 (-1)) ((Q9 b N d x.sa (y.lg 0) g.val hN (HZ.out.below (ze o.out g.bel))).mono fun e O ⟨h,Q⟩=>by
      rw[← P.out] at h
      rcases h with⟨h,_⟩|⟨_,h⟩
      ·omega
      ·exact⟨h,Q⟩)
     clear a0;go_upto_region 5 with(go_at_call 160;refine sC (zV _ _) ?_);clear o0 o3 f0 dL;have u0:∀ h:zn H,h.val.cell? ⟨w.heap.size+1,0,none⟩=some (int i64 y.kind):=fun h=>za (zb i h.bel) 0 _ rfl
     have u3:∀ h:zn H,h.val.cell? ⟨w.heap.size+1,3,none⟩=some (.slice (some ⟨gb,go,none⟩) y.lgn j):=fun h=>za (zb i h.bel) 3 _ rfl
     have v0:∀ h:zn H,h.val.cell? ⟨w.heap.size,0,none⟩=some (.slice b N d):=fun h=>za (zb l h.bel) 0 _ rfl
     refine zh (by kernel_rfl) (by kernel_rfl) ?_
     repeat(first|go_big_quiet_skip|(go_big_quiet_want;go_big_quiet_op;first|go_big_quiet_on|(apply Exists.intro;refine⟨fun g=>?_,?_⟩;(focus(go_at_call 161;exact X.out g));go_big_quiet_on)))
     refine wpQuiet_nil ?_;rintro _ ⟨g,rfl⟩;have n:=zb i g.bel;have u:=zb l g.bel;have f:=hI (ze o.out g.bel);generalize g.val=w3 at n u f ⊢;clear u0 u3 v0 z0 i l o;go_wp2;go_ret;exact⟨⟨2,rfl,C.out⟩,f.out⟩
   ·have k9:(y.kind == 9)=false:=by rw[beq_eq_false_iff_ne];exact h9
    have D:Hid (¬ Qk N x y):=by
     rintro(⟨h,_⟩|⟨h,_⟩)
     ·exact hL h
     ·exact h9 h
    clear hL h9 G I B;go_upto_region 5 with(go_at_call 160;refine sC (zV _ _) ?_);clear o0 o3 f0 dL;have u0:∀ h:zn H,h.val.cell? ⟨w.heap.size+1,0,none⟩=some (int i64 y.kind):=fun h=>za (zb i h.bel) 0 _ rfl
    have u3:∀ h:zn H,h.val.cell? ⟨w.heap.size+1,3,none⟩=some (.slice k y.lgn j):=fun h=>za (zb i h.bel) 3 _ rfl
    have v0:∀ h:zn H,h.val.cell? ⟨w.heap.size,0,none⟩=some (.slice b N d):=fun h=>za (zb l h.bel) 0 _ rfl
    refine zh (by kernel_rfl) (by kernel_rfl) ?_
    repeat(first|go_big_quiet_skip|(go_big_quiet_want;go_big_quiet_op;first|go_big_quiet_on))
    refine wpQuiet_nil ?_;rintro _ ⟨g,rfl⟩;have n:=zb i g.bel;have u:=zb l g.bel;have f:=hI (ze o.out g.bel);generalize g.val=w3 at n u f ⊢;clear u0 u3 v0 i l o
    by_cases hn:In y.kind 4 8
    ·have K:decide (In y.kind 4 8)=true:=decide_eq_true hn
     obtain⟨p0,p1,p2,p3,p4,p5,p6,p7,p8,p9,a6,a7⟩:=zeW n;obtain⟨s0,s1,s2⟩:=ce3 u;have E:=hI (HM.out p.out hn);go_wp2_with (go_at_call 162;refine sC (zO _ _) ?_);refine(zbH b t s k N M R d A z j m x y w3 hR E.out.2 E.out.1 (Y.out.below f.out)).mono ?_;rintro e w4 ⟨⟨code,rfl,F⟩,L⟩;have C:Hid (ZT N R m x y code):=⟨fun h=>absurd p.out h,fun _ h=>absurd h D.out,fun _ _ _=>F,fun _ _ h=>absurd hn h⟩
     have J:=hI (ze f.out L);clear F;go_wp2;go_ret;exact⟨⟨code,rfl,C.out⟩,J.out⟩
    ·have K:decide (In y.kind 4 8)=false:=decide_eq_false hn
     have p0:=za n 0 _ rfl;have C:Hid (ZT N R m x y 0):=⟨fun h=>absurd p.out h,fun _ h=>absurd h D.out,fun _ _ h=>absurd h hn,fun _ _ _=>rfl⟩
     go_wp2_with (go_at_call 162;refine sC (zO _ _) ?_);go_ret;exact⟨⟨0,rfl,C.out⟩,f.out⟩
section
open Go.RowKit
theorem zbi (L:Nat->zY)(k:Nat)(x:zY):zht L k x k=x:=if_pos rfl
theorem zbj (L:Nat->zY)(k:Nat)(x:zY){j:Nat}(h:j≠k):zht L k x j=L j:=if_neg h
theorem setL_same (L:Nat->zY)(k:Nat):zht L k (L k)=L:=by
 funext j
 unfold zht
 by_cases c:j=k
 ·subst c;rw[if_pos rfl]
 ·rw[if_neg c]
theorem zog.put {A:Nat->Value}{N k lim:Nat}{a:Value}(h:zog N A)(h1:∀ i,i<N->∀ b,(A i).ownBlock=some b->b<lim)(h2:∀ b,a.ownBlock=some b->lim<=b):zog N (atV A k a):=fun i j f g e b d c=>by
 by_cases ei:i=k
 ·subst ei
  rw[qu] at d;rw[qf _ _ _ _ (fun h=>e h.symm)] at c
  have:=h1 j g b c;have:=h2 b d
  omega
 ·rw[qf _ _ _ _ ei] at d
  by_cases ej:j=k
  ·subst ej
   rw[qu] at c;have:=h1 i f b d;have:=h2 b c
   omega
  ·rw[qf _ _ _ _ ej] at c
   exact h i j f g e b d c
section
variable {w w' : World} {base g c k N n lim : Nat} {S : Nat -> zY} {A B C : Nat -> Value} {u : Value}
theorem znE (h:w.ownsRow base 145 3 (.slice (some ⟨g,0,none⟩) N c) N (zdZ A B C N)):(w.setCell ⟨g,k*3+0,none⟩ u).ownsRow base 145 3 (.slice (some ⟨g,0,none⟩) N c) N (zdZ (atV A k u) B C N):=by
 refine qR (zL h (k*3+0) u) (fun j hj=>?_)
 by_cases h2:j=k*3+0
 ·subst h2
  rw[if_pos rfl,zC 3 _ k 0 (by decide)]
  unfold ldC;rw[qu]
  rfl
 ·rw[if_neg h2]
  unfold zZ ldC
  by_cases e:j / 3=k
  ·have a:j % 3=1∨j % 3=2:=by omega
   rcases a with a|a <;> rw[a] <;> rfl
  ·rw[qf _ _ _ _ e]
theorem znF (h:w.ownsRow base 145 3 (.slice (some ⟨g,0,none⟩) N c) N (zdZ A B C N)):(w.setCell ⟨g,k*3+1,none⟩ u).ownsRow base 145 3 (.slice (some ⟨g,0,none⟩) N c) N (zdZ A (atV B k u) C N):=by
 refine qR (zL h (k*3+1) u) (fun j hj=>?_)
 by_cases h2:j=k*3+1
 ·subst h2
  rw[if_pos rfl,zC 3 _ k 1 (by decide)]
  unfold ldC;rw[qu]
  rfl
 ·rw[if_neg h2]
  unfold zZ ldC
  by_cases e:j / 3=k
  ·have a:j % 3=0∨j % 3=2:=by omega
   rcases a with a|a <;> rw[a] <;> rfl
  ·rw[qf _ _ _ _ e]
theorem znG (h:w.ownsRow base 145 3 (.slice (some ⟨g,0,none⟩) N c) N (zdZ A B C N)):(w.setCell ⟨g,k*3+2,none⟩ u).ownsRow base 145 3 (.slice (some ⟨g,0,none⟩) N c) N (zdZ A B (atV C k u) N):=by
 refine qR (zL h (k*3+2) u) (fun j hj=>?_)
 by_cases h2:j=k*3+2
 ·subst h2
  rw[if_pos rfl,zC 3 _ k 2 (by decide)]
  unfold ldC;rw[qu]
  rfl
 ·rw[if_neg h2]
  unfold zZ ldC
  by_cases e:j / 3=k
  ·have a:j % 3=0∨j % 3=1:=by omega
   rcases a with a|a <;> rw[a] <;> rfl
  ·rw[qf _ _ _ _ e]
theorem qC.putSt {T:Nat->Zp}(h:qC w base (.slice (some ⟨g,0,none⟩) N c) N S A B C)(f:∀ i,i<N->∀ b,(A i).ownBlock=some b->b<lim)(o:w.ownsRow lim 220 4 u n (zy T n))(j:base<=lim) :
  qC (w.setCell ⟨g,k*3+0,none⟩ u) base (.slice (some ⟨g,0,none⟩) N c) N (zht S k { S k with stn:=n,st:=T }) (atV A k u) B C:=by
 have s:zx w (w.setCell ⟨g,k*3+0,none⟩ u) (fun x=>x=g):=(zx.refl w (fun x=>x=g)).set (a:=⟨g,k*3+0,none⟩) rfl _
 have far:∀ {t sz n:Nat} {v:Value} {r:List Value},w.ownsRow base t sz v n r->145≠t->(w.setCell ⟨g,k*3+0,none⟩ u).ownsRow base t sz v n r:=fun p y=>s.own p (fun q l m=>zI h.row p y q (by rw[m];rfl) l)
 refine⟨znE h.row,fun i d=>?_,fun i d=>?_,fun i d=>?_,h.far.1.put f (fun b e=>(o.lt b e).1),h.far.2.1,h.far.2.2⟩
 ·by_cases e:i=k
  ·subst e;rw[qu,zbi];exact far (zu o j) (by decide)
  ·rw[qf _ _ _ _ e,zbj _ _ _ e];exact far (h.st i d) (by decide)
 ·by_cases e:i=k
  ·subst e;rw[zbi];exact far (h.ro i d) (by decide)
  ·rw[zbj _ _ _ e];exact far (h.ro i d) (by decide)
 ·by_cases e:i=k
  ·subst e;rw[zbi];exact far (h.se i d) (by decide)
  ·rw[zbj _ _ _ e];exact far (h.se i d) (by decide)
theorem qC.putRo {T:Nat->qN}(h:qC w base (.slice (some ⟨g,0,none⟩) N c) N S A B C)(f:∀ i,i<N->∀ b,(B i).ownBlock=some b->b<lim)(o:w.ownsRow lim 228 4 u n (zw T n))(j:base<=lim) :
  qC (w.setCell ⟨g,k*3+1,none⟩ u) base (.slice (some ⟨g,0,none⟩) N c) N (zht S k { S k with ron:=n,ro:=T }) A (atV B k u) C:=by
 have s:zx w (w.setCell ⟨g,k*3+1,none⟩ u) (fun x=>x=g):=(zx.refl w (fun x=>x=g)).set (a:=⟨g,k*3+1,none⟩) rfl _
 have far:∀ {t sz n:Nat} {v:Value} {r:List Value},w.ownsRow base t sz v n r->145≠t->(w.setCell ⟨g,k*3+1,none⟩ u).ownsRow base t sz v n r:=fun p y=>s.own p (fun q l m=>zI h.row p y q (by rw[m];rfl) l)
 refine⟨znF h.row,fun i d=>?_,fun i d=>?_,fun i d=>?_,h.far.1,h.far.2.1.put f (fun b e=>(o.lt b e).1),h.far.2.2⟩
 ·by_cases e:i=k
  ·subst e;rw[zbi];exact far (h.st i d) (by decide)
  ·rw[zbj _ _ _ e];exact far (h.st i d) (by decide)
 ·by_cases e:i=k
  ·subst e;rw[qu,zbi];exact far (zu o j) (by decide)
  ·rw[qf _ _ _ _ e,zbj _ _ _ e];exact far (h.ro i d) (by decide)
 ·by_cases e:i=k
  ·subst e;rw[zbi];exact far (h.se i d) (by decide)
  ·rw[zbj _ _ _ e];exact far (h.se i d) (by decide)
theorem qC.putSe {T:Nat->Qe}(h:qC w base (.slice (some ⟨g,0,none⟩) N c) N S A B C)(f:∀ i,i<N->∀ b,(C i).ownBlock=some b->b<lim)(o:w.ownsRow lim 234 2 u n (zB T n))(j:base<=lim) :
  qC (w.setCell ⟨g,k*3+2,none⟩ u) base (.slice (some ⟨g,0,none⟩) N c) N (zht S k { S k with sen:=n,se:=T }) A B (atV C k u):=by
 have s:zx w (w.setCell ⟨g,k*3+2,none⟩ u) (fun x=>x=g):=(zx.refl w (fun x=>x=g)).set (a:=⟨g,k*3+2,none⟩) rfl _
 have far:∀ {t sz n:Nat} {v:Value} {r:List Value},w.ownsRow base t sz v n r->145≠t->(w.setCell ⟨g,k*3+2,none⟩ u).ownsRow base t sz v n r:=fun p y=>s.own p (fun q l m=>zI h.row p y q (by rw[m];rfl) l)
 refine⟨znG h.row,fun i d=>?_,fun i d=>?_,fun i d=>?_,h.far.1,h.far.2.1,h.far.2.2.put f (fun b e=>(o.lt b e).1)⟩
 ·by_cases e:i=k
  ·subst e;rw[zbi];exact far (h.st i d) (by decide)
  ·rw[zbj _ _ _ e];exact far (h.st i d) (by decide)
 ·by_cases e:i=k
  ·subst e;rw[zbi];exact far (h.ro i d) (by decide)
  ·rw[zbj _ _ _ e];exact far (h.ro i d) (by decide)
 ·by_cases e:i=k
  ·subst e;rw[qu,zbi];exact far (zu o j) (by decide)
  ·rw[qf _ _ _ _ e,zbj _ _ _ e];exact far (h.se i d) (by decide)
end
section
variable {w w' : World} {base g c k lim n n1 n2 n3 : Nat} {v1 v3 u : Value} {x : Off} {L C A B D E : Nat -> Value}
theorem zF.putSt {T:Nat->Zp}(h:zF w base v1 (.slice (some ⟨g,0,none⟩) n2 c) v3 n1 n2 n3 x L C A B D E)(d:∀ i,i<n2->∀ b,(A i).ownBlock=some b->b<lim)(m:w.ownsRow lim 220 4 u n (zy T n))(j:base<=lim) :
  zF (w.setCell ⟨g,k*3+0,none⟩ u) base v1 (.slice (some ⟨g,0,none⟩) n2 c) v3 n1 n2 n3 { x with ld:=zht x.ld k { x.ld k with stn:=n,st:=T } } L C (atV A k u) B D E:=by
 have l:zx w (w.setCell ⟨g,k*3+0,none⟩ u) (fun x=>x=g):=(zx.refl w (fun x=>x=g)).set (a:=⟨g,k*3+0,none⟩) rfl _
 exact⟨h.sa.other l (fun q e=>by obtain⟨cs,f⟩:=zA h.ld.row q (by rw[show q=g from e];rfl);exact⟨cs,_,f,by decide,by decide,by decide⟩),h.ld.putSt d m j,h.bk.other l (fun q e=>by obtain⟨cs,f⟩:=zA h.ld.row q (by rw[show q=g from e];rfl);exact⟨cs,_,f,by decide,by decide⟩)⟩
theorem zF.putRo {T:Nat->qN}(h:zF w base v1 (.slice (some ⟨g,0,none⟩) n2 c) v3 n1 n2 n3 x L C A B D E)(d:∀ i,i<n2->∀ b,(B i).ownBlock=some b->b<lim)(m:w.ownsRow lim 228 4 u n (zw T n))(j:base<=lim) :
  zF (w.setCell ⟨g,k*3+1,none⟩ u) base v1 (.slice (some ⟨g,0,none⟩) n2 c) v3 n1 n2 n3 { x with ld:=zht x.ld k { x.ld k with ron:=n,ro:=T } } L C A (atV B k u) D E:=by
 have l:zx w (w.setCell ⟨g,k*3+1,none⟩ u) (fun x=>x=g):=(zx.refl w (fun x=>x=g)).set (a:=⟨g,k*3+1,none⟩) rfl _
 exact⟨h.sa.other l (fun q e=>by obtain⟨cs,f⟩:=zA h.ld.row q (by rw[show q=g from e];rfl);exact⟨cs,_,f,by decide,by decide,by decide⟩),h.ld.putRo d m j,h.bk.other l (fun q e=>by obtain⟨cs,f⟩:=zA h.ld.row q (by rw[show q=g from e];rfl);exact⟨cs,_,f,by decide,by decide⟩)⟩
theorem zF.putSe {T:Nat->Qe}(h:zF w base v1 (.slice (some ⟨g,0,none⟩) n2 c) v3 n1 n2 n3 x L C A B D E)(d:∀ i,i<n2->∀ b,(D i).ownBlock=some b->b<lim)(m:w.ownsRow lim 234 2 u n (zB T n))(j:base<=lim) :
  zF (w.setCell ⟨g,k*3+2,none⟩ u) base v1 (.slice (some ⟨g,0,none⟩) n2 c) v3 n1 n2 n3 { x with ld:=zht x.ld k { x.ld k with sen:=n,se:=T } } L C A B (atV D k u) E:=by
 have l:zx w (w.setCell ⟨g,k*3+2,none⟩ u) (fun x=>x=g):=(zx.refl w (fun x=>x=g)).set (a:=⟨g,k*3+2,none⟩) rfl _
 exact⟨h.sa.other l (fun q e=>by obtain⟨cs,f⟩:=zA h.ld.row q (by rw[show q=g from e];rfl);exact⟨cs,_,f,by decide,by decide,by decide⟩),h.ld.putSe d m j,h.bk.other l (fun q e=>by obtain⟨cs,f⟩:=zA h.ld.row q (by rw[show q=g from e];rfl);exact⟨cs,_,f,by decide,by decide⟩)⟩
end
end
theorem znH {N n:Nat}{S:Nat->Zj}{G:Nat->Int}(a:QJ N S)(h:zad N S n G):∀ d j,j+d+1<n->(S (zW S (G j) N)).arr<=(S (zW S (G (j+d+1)) N)).dep:=by
 intro d
 induction d with
 | zero =>
  intro j b;have:=(h.2.2 (j+1) (by omega)).2 (by omega)
  simpa using this.2
 | succ d ih =>
  intro j b;have h1:=ih j (by omega)
  have h2:=((h.2.2 (j+(d+1)+1) (by omega)).2 (by omega)).2
  have h3:=(a.2 _ (h.2.2 (j+d+1) (by omega)).1).1
  have e:j+(d+1)+1 - 1=j+d+1:=by omega
  rw[e] at h2;have h4:(S (zW S (G (j+d+1)) N)).dep<(S (zW S (G (j+d+1)) N)).arr:=h3.2.2.2.2.2.1
  omega
theorem zcW {N n:Nat}{S:Nat->Zj}{G:Nat->Int}(a:QJ N S)(h:zad N S n G):∀ i,i<n->∀ j,j<i->G j≠G i:=fun i b j hj e=>by
 obtain⟨d,rfl⟩:∃ d,i=j+d+1:=⟨i - j - 1,by omega⟩
 have h1:=znH a h d j b;rw[← e] at h1;have h3:=(a.2 _ (h.2.2 j (by omega)).1).1
 have h4:(S (zW S (G j) N)).dep<(S (zW S (G j) N)).arr:=h3.2.2.2.2.2.1
 omega
def WkOk (x:Off)(v:Wk):Prop:=v.res<3/\zW x.sa v.leg x.san<x.san/\(v.goes=false->In v.who 1 9999/\qI v.p/\zaI v.p.len v.p.cl v.res=true)
def ZZ (x:Off)(y:OpD)(m:Nat):Prop:=zac y/\¬ Qk x.san x y/\(In y.kind 4 8->y.name=(m:Int)+1/\m<x.bkn/\¬ zbG (x.bk m) y)
theorem ZZ.legs {x:Off}{y:OpD}{m:Nat}(h:ZZ x y m)(a:zJ y.kind):zad x.san x.sa y.lgn y.lg:=by
 by_cases c:zad x.san x.sa y.lgn y.lg
 ·exact c
 ·exact absurd (.inl ⟨a,c⟩) h.2.1
theorem ZZ.party {x:Off}{y:OpD}{m:Nat}(h:ZZ x y m)(a:zJ y.kind):qI ⟨y.pe,y.len,y.hei,y.cl,y.all,y.be⟩:=by
 have:=h.1.2.2.2.2.1;unfold qA at this;rw[if_pos a] at this;exact this
theorem zaR {k:Int}(h:Qt k):In k 4 8:=by
 unfold Qt at h;unfold In
 omega
theorem zeK {x:Off}{y:OpD}{m:Nat}{b:Int}(h:Zk x)(g:ZZ x y m)(q:In b 1 9999)(p:∀ i,i<x.bkn->(x.bk i).who≠b) :
  (qk x b y m).Pairwise zdu/\∀ v ∈ qk x b y m,Apt x x.ld v/\WkOk x v:=by
 have j:=h.1;have f:Qt y.kind->m<x.bkn/\zez (x.bk m)/\zad x.san x.sa (x.bk m).lgn (x.bk m).lg:=fun r=>by
  obtain⟨_,h2,h3⟩:=g.2.2 (zaR r);refine⟨h2,?_,(h.2.2.2.2.1 m h2).2.2.2.1⟩
  by_cases c:zez (x.bk m)
  ·exact c
  ·exact absurd (.inl c) h3
 constructor
 ·unfold qk
  by_cases h1:Qt y.kind
  ·obtain⟨l,o,d⟩:=f h1
   rw[if_pos h1]
   by_cases h2:zJ y.kind
   ·rw[if_pos h2]
    exact zkt (zcW j d) (zcW j (g.legs h2)) (p m l)
   ·rw[if_neg h2,List.append_nil]
    exact zbc _ _ _ _ _ (zcW j d)
  ·rw[if_neg h1,List.nil_append]
   by_cases h2:zJ y.kind
   ·rw[if_pos h2]
    exact zbc _ _ _ _ _ (zcW j (g.legs h2))
   ·rw[if_neg h2]
    exact List.Pairwise.nil
 ·intro v a
  unfold qk at a
  rcases List.mem_append.1 a with a|a
  ·by_cases h1:Qt y.kind
   ·rw[if_pos h1] at a
    obtain⟨l,o,d⟩:=f h1;refine⟨h.apt_goes l o rfl rfl a,?_⟩;obtain⟨⟨i,k,e⟩,hr,n,_⟩:=zbb a;exact⟨hr,by rw[e];exact(d.2.2 i k).1,fun c=>by rw[n] at c;cases c⟩
   ·rw[if_neg h1] at a
    cases a
  ·by_cases h2:zJ y.kind
   ·rw[if_pos h2] at a
    refine⟨h.apt_comes p a,?_⟩;obtain⟨⟨i,k,e⟩,hr,n,u,s,t⟩:=zbb a;refine⟨hr,by rw[e];exact((g.legs h2).2.2 i k).1,fun _=>?_⟩
    rw[u,s];exact⟨q,g.party h2,t⟩
   ·rw[if_neg h2] at a
    cases a
inductive zjA (x:Off):List Wk->(Nat->zY)->(Nat->zY)->Prop
 | nil (L:Nat->zY):zjA x [] L L
 | snoc (l:List Wk) (L M:Nat->zY) (v:Wk) (k:Nat) (z:zY) (h:zjA x l L M) (hk:zW x.sa v.leg x.san=k) (hl:k<x.san) (hw:qV (x.sa k) v (M k) 0 z):zjA x (l++[v]) L (zht M k z)
structure zav (x:Off)(l:List Wk)(j:Nat)(M:Nat->zY):Prop where
 done:zjA x (l.take j) x.ld M
 good:∀ i,i<x.san->qm (x.sa i) (M i)
 apt:∀ v ∈ l.drop j,Apt x M v
theorem zav.start {x:Off}{l:List Wk}(a:Zk x)(b:∀ v ∈ l,Apt x x.ld v):zav x l 0 x.ld :=
 ⟨by rw[List.take_zero];exact .nil _,a.2.2.2.1,by rw[List.drop_zero];exact b⟩
theorem zav.comes {x:Off}{l:List Wk}{j:Nat}{M:Nat->zY}{v:Wk}{k:Nat}(h:zav x l j M)(d:l[j]?=some v)(b:zW x.sa v.leg x.san=k)(c:k<x.san)(f:WkOk x v):ComesOk v (M k):=fun a=>by
 obtain⟨h1,h2,h3⟩:=f.2.2 a;refine⟨h1,h2,h3,?_⟩;have e:v ∈ l.drop j:=by
  rw[List.mem_iff_getElem?];exact⟨0,by rw[List.getElem?_drop];simpa using d⟩
 have:=(h.apt v e).2 k c (by rw[← b];exact zcn _ _ _ (by rw[b];exact c))
 rw[if_neg (by rw[a];decide)] at this
 exact this
theorem zav.there {x:Off}{l:List Wk}{j:Nat}{M:Nat->zY}{v:Wk}{k:Nat}(h:zav x l j M)(d:l[j]?=some v)(a:zW x.sa v.leg x.san=k)(b:k<x.san)(c:v.goes=true):zfn (M k) v.res v.who:=by
 have e:v ∈ l.drop j:=by
  rw[List.mem_iff_getElem?];exact⟨0,by rw[List.getElem?_drop];simpa using d⟩
 have:=(h.apt v e).2 k b (by rw[← a];exact zcn _ _ _ (by rw[a];exact b))
 rw[if_pos c] at this;exact this
theorem zav.next {x:Off}{l:List Wk}{j:Nat}{M:Nat->zY}{v:Wk}{k:Nat}{z:zY}(h:zav x l j M)(o:l.Pairwise zdu)(c:l[j]?=some v)(d:zW x.sa v.leg x.san=k)(f:k<x.san)(p:WkOk x v)(n:qV (x.sa k) v (M k) 0 z):zav x l (j+1) (zht M k z):=by
 have b:zbO (x.sa k) v (M k) z:=by
  rcases n.on (h.good k f) (h.comes c d f p) with⟨_,h⟩|⟨h,_⟩
  ·exact h
  ·unfold In at h;omega
 have g:(x.sa k).id=v.leg:=by rw[← d];exact zcn _ _ _ (by rw[d];exact f)
 have i:j<l.length:=(List.getElem?_eq_some_iff.1 c).1;have a:l.drop j=v :: l.drop (j+1):=by
  rw[List.drop_eq_getElem_cons i]
  congr 1
  exact(List.getElem?_eq_some_iff.1 c).2
 refine⟨?_,znp h.good b,fun u m=>?_⟩
 ·rw[List.take_add_one,c]
  exact .snoc _ _ _ _ k z h.done d f n
 ·refine(h.apt u (by rw[a];exact List.mem_cons_of_mem _ m)).after g b ?_
  have h2:(l.drop j).Pairwise zdu:=o.sublist (List.drop_sublist _ _);rw[a,List.pairwise_cons] at h2;have h3:=h2.1 u m
  rcases h3 with h3|h3|h3
  ·exact .inl (fun e=>h3 e.symm)
  ·exact .inr (.inl (fun e=>h3 e.symm))
  ·exact .inr (.inr (fun e=>h3 e.symm))
end Go.Proofs.YtmdnjgihooflfaaGreatDoor
