import Derived.Test.YtgmdnkngnhkgbaaGreatB18
import Derived.Test.YtgmdnkngnhkgbaaGreatB29
import Derived.Test.YtgmdnkngnhkgbaaGreatB28
namespace Go.Proofs.YtgmdnkngnhkgbaaGreat
open Go.RowKit
open Go.Value (int)
open Go.IntKind (i64)
set_option maxHeartbeats 64000000
set_option maxRecDepth 1000000
section
open Go.RowKit
theorem zcS (x:Off)(b7 g0 f9:Option Addr)(g1 d5 b9:Nat)(w:World)(hs:Off.Short x 1048576)(k4:SailsAt w b7 x.san x.sa)(P:Zw w g0 x.ldn x.ld)(k0:qK w f9 x.bkn x.bk)(m9:x.bkn<=b9) :
  Calls Tryz.prog 6 #[.agg #[.slice b7 x.san g1,.slice g0 x.ldn d5,.slice f9 x.bkn b9]] w fun e w'=>SaysIf (ql x) e/\Below w.heap.size w w':=by
 have h4:=hI k4;have j6:=hI P;have j3:=hI k0;have a7:=hI hs;have n1:x.san<=1048576:=hs.1.1;have n2:x.ldn<=1048576:=hs.2.1.1;have n3:x.bkn<=1048576:=hs.2.2.1;clear k4 P k0 hs;have h6:Below w.heap.size w (w.alloc (.cells #[.slice b7 x.san g1,.slice g0 x.ldn d5,.slice f9 x.bkn b9] 27)):=zl bZ _;have bO:=heap_alloc_new w (.cells #[.slice b7 x.san g1,.slice g0 x.ldn d5,.slice f9 x.bkn b9] 27);go_enter Tryz.func6,Tryz.ntmps6;go_wp2_with fail;generalize w.alloc (.cells #[.slice b7 x.san g1,.slice g0 x.ldn d5,.slice f9 x.bkn b9] 27)=V0 at h6 bO ⊢;refine(zcz b7 x.san g1 x.sa _ n1 a7.out.1.2 (h4.out.below h6)).mono ?_;rintro e V ⟨⟨t0,rfl,k5⟩,i8⟩;have i7:=hI k5;have b8:=zb bO i8;have y:=zf h6 i8;clear k5 h6 bO i8 V0;obtain⟨z0,z1,z2⟩:=ce3 b8
 cases t0 with
 | false =>
  have D:Hid (¬ ql x):=fun h=>by have:=i7.out.2 h.1;cases this
  go_wp2;go_ret;exact⟨zk D.out,y⟩
 | true =>
 have j8:Hid (Z2 x.san x.sa):=i7.out.1 rfl;clear i7
 by_cases m1:x.ldn=x.san
 case neg =>
  have e1:((x.ldn:Int) != (x.san:Int))=true:=by simp;omega
  have D:Hid (¬ ql x):=fun h=>m1 h.2.1
  clear m1;go_wp2;go_ret;exact⟨zk D.out,y⟩
 have e1:((x.ldn:Int) != (x.san:Int))=false:=by simp;omega
 by_cases m2:x.bkn<=30
 case neg =>
  have e2:decide ((30:Int)<(x.bkn:Int))=true:=by simp;omega
  have D:Hid (¬ ql x):=fun h=>m2 h.2.2.1
  clear m1 m2;go_wp2;go_ret;exact⟨zk D.out,y⟩
 have e2:decide ((30:Int)<(x.bkn:Int))=false:=by simp;omega
 have f:=hI m1;have U:=hI m2;clear m1;go_wp2;clear e1 e2 z0 z1 z2;go_loopw [3,4,5,37] (fun _ _ _ q wr=>∃ k:Nat,k<=x.san/\q=int i64 k/\(∀ j,j<k->zV (x.sa j) (x.ld j))/\Below V.heap.size V wr) (fun _ _ _ q _=>x.san - (intOf q).toNat)
 case atStart=>exact⟨0,Nat.zero_le _,rfl,fun j hj=>by omega,bZ⟩
 case round =>
  obtain⟨k,hk,rfl,v,c⟩:=hrel;have HA:=hI v;clear v;have a:=zf y c
  by_cases hlt:k<x.san
  ·obtain⟨A,B,la,lc,ca,cc,rfl,f0,f1,f2,f3,f4,f5,f6,f7,d9,d8,h0,g9⟩:=h4.out k hlt
   obtain⟨s,Z⟩:∃ s,s=x.sa k:=⟨_,rfl⟩;rw[← Z] at f0 f1 f2 f3 f4 f5 f6 f7 d9 d8 h0 g9;have Q:=hI Z;have i5:Hid (ShortS s 1048576):=by rw[Z];exact a7.out.1.2 k hlt
   have z:=World.block_lt_of_cell? w _ f0;have c0:wr.cell? ⟨A,B+k*8,none⟩=some (int i64 s.id):=(a.cell (p:=⟨A,B+k*8,none⟩) z).trans f0;have c1:wr.cell? ⟨A,B+k*8+1,none⟩=some (.string s.fr):=(a.cell (p:=⟨A,B+k*8+1,none⟩) z).trans f1;have c2:wr.cell? ⟨A,B+k*8+2,none⟩=some (.string s.dst):=(a.cell (p:=⟨A,B+k*8+2,none⟩) z).trans f2;have c3:wr.cell? ⟨A,B+k*8+3,none⟩=some (int i64 s.dep):=(a.cell (p:=⟨A,B+k*8+3,none⟩) z).trans f3;have c4:wr.cell? ⟨A,B+k*8+4,none⟩=some (int i64 s.arr):=(a.cell (p:=⟨A,B+k*8+4,none⟩) z).trans f4;have c5:wr.cell? ⟨A,B+k*8+5,none⟩=some (.slice la s.la.n lc):=(a.cell (p:=⟨A,B+k*8+5,none⟩) z).trans f5;have c6:wr.cell? ⟨A,B+k*8+6,none⟩=some (.slice ca s.ca.n cc):=(a.cell (p:=⟨A,B+k*8+6,none⟩) z).trans f6;have c7:wr.cell? ⟨A,B+k*8+7,none⟩=some (int i64 s.most):=(a.cell (p:=⟨A,B+k*8+7,none⟩) z).trans f7;obtain⟨C,hC,T⟩:=j6.out;obtain⟨lb,lo,rfl,M⟩:=hC k (by have:=f.out;omega)
   obtain⟨l,P⟩:∃ l,l=x.ld k:=⟨_,rfl⟩;obtain⟨G,u,E,n,F,r,L,e5,e9,e0,e7,e4,e8⟩:=T k (by have:=f.out;omega)
   rw[← P] at L e5 e9 e0 e7 e4 e8;have a0:=hI P;have a6:Hid (qm.Short l 1048576):=by rw[P];exact a7.out.2.1.2 k (by have:=f.out;omega)
   have e6:lb<w.heap.size:=World.block_lt_of_cell? w _ (M 0 (by decide))
   have d0:∀ o,(wr.alloc o).cell? ⟨lb,lo+k*3,none⟩=some (.slice G l.stn u):=fun o=>((a.alloc a.size o).cell (p:=⟨lb,lo+k*3,none⟩) e6).trans (by have:=M 0 (by decide);rw[L] at this;exact this)
   have d1:∀ o,(wr.alloc o).cell? ⟨lb,lo+k*3+1,none⟩=some (.slice E l.ron n):=fun o=>((a.alloc a.size o).cell (p:=⟨lb,lo+k*3+1,none⟩) e6).trans (by have:=M 1 (by decide);rw[L] at this;exact this)
   have d2:∀ o,(wr.alloc o).cell? ⟨lb,lo+k*3+2,none⟩=some (.slice F l.sen r):=fun o=>((a.alloc a.size o).cell (p:=⟨lb,lo+k*3+2,none⟩) e6).trans (by have:=M 2 (by decide);rw[L] at this;exact this)
   have j5:=hI d9;have i2:=hI d8;have i6:=hI e5;have i3:=hI e0;have i4:=hI e4;have q1:l.stn<=u:=e9.1;have q2:l.ron<=n:=e7.1;have q3:l.sen<=r:=e8.1;clear hC T M L Z P f0 f1 f2 f3 f4 f5 f6 f7 d9 d8 h0 g9 e5 e9 e0 e7 e4 e8;have n0:(0:Int)<=(k:Int):=by omega
   have n4:(k:Int)<(x.ldn:Int):=by have:=f.out;omega
   have z1:∀ o,(wr.alloc o).cell? ⟨w.heap.size,1,none⟩=some (.slice (some ⟨lb,lo,none⟩) x.ldn d5):=fun o=>za (zc (zb b8 c) o) 1 _ rfl
   go_wp2_with fail;have d:Below V.heap.size V ((wr.alloc (.cells #[int i64 s.id,.string s.fr,.string s.dst,int i64 s.dep,int i64 s.arr,.slice la s.la.n lc,.slice ca s.ca.n cc,int i64 s.most] 33)).alloc (.cells #[.slice G l.stn u,.slice E l.ron n,.slice F l.sen r] 55)):=(c.alloc c.size _).alloc (by have:=c.size;simp;omega) _
   have S:((wr.alloc (.cells #[int i64 s.id,.string s.fr,.string s.dst,int i64 s.dep,int i64 s.arr,.slice la s.la.n lc,.slice ca s.ca.n cc,int i64 s.most] 33)).alloc (.cells #[.slice G l.stn u,.slice E l.ron n,.slice F l.sen r] 55)).heap[wr.heap.size]?=some (.cells #[int i64 s.id,.string s.fr,.string s.dst,int i64 s.dep,int i64 s.arr,.slice la s.la.n lc,.slice ca s.ca.n cc,int i64 s.most] 33 (0,0)):=zc (heap_alloc_new wr _) _;have R:((wr.alloc (.cells #[int i64 s.id,.string s.fr,.string s.dst,int i64 s.dep,int i64 s.arr,.slice la s.la.n lc,.slice ca s.ca.n cc,int i64 s.most] 33)).alloc (.cells #[.slice G l.stn u,.slice E l.ron n,.slice F l.sen r] 55)).heap[wr.heap.size+1]?=some (.cells #[.slice G l.stn u,.slice E l.ron n,.slice F l.sen r] 55 (0,0)):=by simpa using heap_alloc_new (wr.alloc _) _
   generalize ((wr.alloc (.cells #[int i64 s.id,.string s.fr,.string s.dst,int i64 s.dep,int i64 s.arr,.slice la s.la.n lc,.slice ca s.ca.n cc,int i64 s.most] 33)).alloc (.cells #[.slice G l.stn u,.slice E l.ron n,.slice F l.sen r] 55))=X at d S R ⊢;clear c0 c1 c2 c3 c4 c5 c6 c7 d0 d1 d2 z1 a;have a:=zf y d;have s6:=za S 6 _ rfl;have s7:=za S 7 _ rfl;have l1:=za R 1 _ rfl;have l2:=za R 2 _ rfl;refine(zfl la G s.la.n lc l.stn u s.la l.st _ rfl i5.out.2.2.1 a6.out.1 q1 (j5.out.below a) (i6.out.below a)).mono ?_;rintro e X1 ⟨⟨t1,rfl,g2⟩,g⟩;have a8:=hI g2;clear g2;have a3:=zb S g;have a2:=zb R g;have O:=zf d g;clear s6 s7 l1 l2 S R d a g;have S:=a3;have R:=a2;have d:=O;clear a3 a2 O;have a:=zf y d;have s6:=za S 6 _ rfl;have s7:=za S 7 _ rfl;have l1:=za R 1 _ rfl;have l2:=za R 2 _ rfl
   cases t1 with
   | false =>
    have D:Hid (¬ ql x):=fun h=>by have h:=h.2.2.2.1 k hlt;rw[← Q.out,← a0.out] at h;have:=a8.out.2 h.1;cases this
    go_wp2;go_ret;exact⟨zk D.out,a⟩
   | true =>
   have l7:Hid (DeckS s.la l.stn l.st):=a8.out.1 rfl;clear a8;go_wp2_with fail;refine(zek ca E s.ca.n cc l.ron n s.ca l.ro _ rfl i5.out.2.2.2 a6.out.2.1 q2 (i2.out.below a) (i3.out.below a)).mono ?_;rintro e X2 ⟨⟨t2,rfl,g7⟩,g⟩;have a9:=hI g7;clear g7;have a3:=zb S g;have a2:=zb R g;have O:=zf d g;clear s6 s7 l1 l2 S R d a g;have S:=a3;have R:=a2;have d:=O;clear a3 a2 O;have a:=zf y d;have s6:=za S 6 _ rfl;have s7:=za S 7 _ rfl;have l1:=za R 1 _ rfl;have l2:=za R 2 _ rfl
   cases t2 with
   | false =>
    have D:Hid (¬ ql x):=fun h=>by have h:=h.2.2.2.1 k hlt;rw[← Q.out,← a0.out] at h;have:=a9.out.2 h.2.1;cases this
    go_wp2;go_ret;exact⟨zk D.out,a⟩
   | true =>
   have l8:Hid (qX s.ca l.ron l.ro):=a9.out.1 rfl;clear a9;go_wp2_with fail;refine(zes s.most F l.sen r l.se _ (by have:=a6.out.2.2;omega) q3 (i4.out.below a)).mono ?_
   rintro e X3 ⟨⟨t3,rfl,g8⟩,g⟩;have b0:=hI g8;clear g8;have a3:=zb S g;have a2:=zb R g;have O:=zf d g;clear s6 s7 l1 l2 S R d a g;have S:=a3;have R:=a2;have d:=O;clear a3 a2 O;have a:=zf y d;have s6:=za S 6 _ rfl;have s7:=za S 7 _ rfl;have l1:=za R 1 _ rfl;have l2:=za R 2 _ rfl
   cases t3 with
   | false =>
    have D:Hid (¬ ql x):=fun h=>by have h:=h.2.2.2.1 k hlt;rw[← Q.out,← a0.out] at h;have:=b0.out.2 h.2.2;cases this
    go_wp2;go_ret;exact⟨zk D.out,a⟩
   | true =>
   have l9:Hid (Z4 s.most l.sen l.se):=b0.out.1 rfl;clear b0;have g3:Hid (zV (x.sa k) (x.ld k)):=by show zV (x.sa k) (x.ld k);rw[← Q.out,← a0.out];exact⟨l7.out,l8.out,l9.out⟩
   clear s6 s7 l1 l2;go_wp2;go_roundw
   case rel=>exact⟨k+1,by omega,by go_num,fun j hj=>by
    by_cases e:j=k
    ·subst e;exact g3.out
    ·exact HA.out j (by omega),d⟩
   case measure=>simp[intOf];omega
  ·obtain rfl:k=x.san:=by omega
   have j4:=hI HA.out;have j2:=hI c;have z2:=za (zb b8 c) 2 _ rfl;clear HA c a hk hlt;go_wp2;clear z2;go_loopw [6,73] (fun _ q wr=>∃ k:Nat,k<=x.bkn/\q=int i64 k/\(∀ j,j<k->qv x j)/\Below V.heap.size V wr) (fun _ q _=>x.bkn - (intOf q).toNat)
   case atStart=>exact⟨0,Nat.zero_le _,rfl,fun j hj=>by omega,j2.out⟩
   case round =>
    obtain⟨k,hk,rfl,v,c⟩:=hrel;have HA:=hI v;clear v;have a:=zf y c
    by_cases hlt:k<x.bkn
    ·obtain⟨C,hC,T⟩:=j3.out
     obtain⟨H,J,rfl,_⟩:=hC k hlt;have l3:=hI (hC.below a);have l4:Hid (∀ k,k<x.bkn->qi.Is wr (C k) (x.bk k)):=fun k hk=>(T k hk).below a
     obtain⟨z0,z1,z2⟩:=ce3 (zb b8 c);clear hC T;go_wp2_with fail;refine(zet x b7 g0 H J g1 d5 b9 k C _ hlt a7.out (h4.out.below a) l3.out l4.out m9).mono ?_;rintro e X ⟨⟨t,rfl,ht⟩,d⟩;have HT:=hI ht;clear ht z0 z1 z2
     cases t with
     | false =>
      have D:Hid (¬ ql x):=fun h=>by have:=HT.out.2 (h.2.2.2.2.1 k hlt);cases this
      go_wp2;go_ret;exact⟨zk D.out,zf a d⟩
     | true =>
      have HP:Hid (qv x k):=HT.out.1 rfl;clear HT;go_wp2;go_roundw
      case rel=>exact⟨k+1,by omega,by go_num,fun j hj=>by
       by_cases e:j=k
       ·subst e;exact HP.out
       ·exact HA.out j (by omega),zf c d⟩
      case measure=>simp[intOf];omega
    ·obtain rfl:k=x.bkn:=by omega
     have l5:=hI HA.out;have k7:=hI c;have z0:=za (zb b8 c) 0 _ rfl;clear HA c a hk hlt j2;go_wp2;clear z0;go_loopw [7,8,9,10,11,12,14,84,95,96,97] (fun _ _ _ _ _ _ _ q _ _ _ wr=>∃ k:Nat,k<=x.san/\q=int i64 k/\(∀ j,j<k->Z5 x j)/\Below V.heap.size V wr) (fun _ _ _ _ _ _ _ q _ _ _ _=>x.san - (intOf q).toNat)
     case atStart=>exact⟨0,Nat.zero_le _,rfl,fun j hj=>by omega,k7.out⟩
     case round =>
      obtain⟨k,hk,rfl,v,c⟩:=hrel;have HA:=hI v;clear v;have a:=zf y c
      by_cases hlt:k<x.san
      ·obtain⟨A,B,la,lc,ca,cc,rfl,f0,f1,f2,f3,f4,f5,f6,f7,d9,d8,h0,g9⟩:=h4.out k hlt
       obtain⟨s,Z⟩:∃ s,s=x.sa k:=⟨_,rfl⟩;rw[← Z] at f0 f1 f2 f3 f4 f5 f6 f7 d9 d8 h0 g9;have Q:=hI Z;have i5:Hid (ShortS s 1048576):=by rw[Z];exact a7.out.1.2 k hlt
       have z:=World.block_lt_of_cell? w _ f0;have c0:wr.cell? ⟨A,B+k*8,none⟩=some (int i64 s.id):=(a.cell (p:=⟨A,B+k*8,none⟩) z).trans f0;have c1:wr.cell? ⟨A,B+k*8+1,none⟩=some (.string s.fr):=(a.cell (p:=⟨A,B+k*8+1,none⟩) z).trans f1;have c2:wr.cell? ⟨A,B+k*8+2,none⟩=some (.string s.dst):=(a.cell (p:=⟨A,B+k*8+2,none⟩) z).trans f2;have c3:wr.cell? ⟨A,B+k*8+3,none⟩=some (int i64 s.dep):=(a.cell (p:=⟨A,B+k*8+3,none⟩) z).trans f3;have c4:wr.cell? ⟨A,B+k*8+4,none⟩=some (int i64 s.arr):=(a.cell (p:=⟨A,B+k*8+4,none⟩) z).trans f4;have c5:wr.cell? ⟨A,B+k*8+5,none⟩=some (.slice la s.la.n lc):=(a.cell (p:=⟨A,B+k*8+5,none⟩) z).trans f5;have c6:wr.cell? ⟨A,B+k*8+6,none⟩=some (.slice ca s.ca.n cc):=(a.cell (p:=⟨A,B+k*8+6,none⟩) z).trans f6;have c7:wr.cell? ⟨A,B+k*8+7,none⟩=some (int i64 s.most):=(a.cell (p:=⟨A,B+k*8+7,none⟩) z).trans f7;obtain⟨C,hC,T⟩:=j6.out;obtain⟨lb,lo,rfl,M⟩:=hC k (by have:=f.out;omega)
       obtain⟨l,P⟩:∃ l,l=x.ld k:=⟨_,rfl⟩;obtain⟨G,u,E,n,F,r,L,e5,e9,e0,e7,e4,e8⟩:=T k (by have:=f.out;omega)
       rw[← P] at L e5 e9 e0 e7 e4 e8;have a0:=hI P;have a6:Hid (qm.Short l 1048576):=by rw[P];exact a7.out.2.1.2 k (by have:=f.out;omega)
       have e6:lb<w.heap.size:=World.block_lt_of_cell? w _ (M 0 (by decide))
       have d0:∀ o,(wr.alloc o).cell? ⟨lb,lo+k*3,none⟩=some (.slice G l.stn u):=fun o=>((a.alloc a.size o).cell (p:=⟨lb,lo+k*3,none⟩) e6).trans (by have:=M 0 (by decide);rw[L] at this;exact this)
       have d1:∀ o,(wr.alloc o).cell? ⟨lb,lo+k*3+1,none⟩=some (.slice E l.ron n):=fun o=>((a.alloc a.size o).cell (p:=⟨lb,lo+k*3+1,none⟩) e6).trans (by have:=M 1 (by decide);rw[L] at this;exact this)
       have d2:∀ o,(wr.alloc o).cell? ⟨lb,lo+k*3+2,none⟩=some (.slice F l.sen r):=fun o=>((a.alloc a.size o).cell (p:=⟨lb,lo+k*3+2,none⟩) e6).trans (by have:=M 2 (by decide);rw[L] at this;exact this)
       have j5:=hI d9;have i2:=hI d8;have i6:=hI e5;have i3:=hI e0;have i4:=hI e4;have q1:l.stn<=u:=e9.1;have q2:l.ron<=n:=e7.1;have q3:l.sen<=r:=e8.1;clear hC T M L Z P f0 f1 f2 f3 f4 f5 f6 f7 d9 d8 h0 g9 e5 e9 e0 e7 e4 e8;have g3:=j4.out k hlt;rw[← Q.out,← a0.out] at g3;have k9:Hid (∀ j,j<l.ron->0<=(l.ro j).cab/\(l.ro j).cab<s.ca.n):=fun j hj=>zeZ g3.2.1 j hj
       clear g3;have n0:(0:Int)<=(k:Int):=by omega
       have n4:(k:Int)<(x.ldn:Int):=by have:=f.out;omega
       have z1:∀ o,(wr.alloc o).cell? ⟨w.heap.size,1,none⟩=some (.slice (some ⟨lb,lo,none⟩) x.ldn d5):=fun o=>za (zc (zb b8 c) o) 1 _ rfl
       have z2:∀ o p,((wr.alloc o).alloc p).cell? ⟨w.heap.size,2,none⟩=some (.slice f9 x.bkn b9):=fun o p=>za (zc (zc (zb b8 c) o) p) 2 _ rfl
       go_wp2;have d:Below V.heap.size V ((wr.alloc (.cells #[int i64 s.id,.string s.fr,.string s.dst,int i64 s.dep,int i64 s.arr,.slice la s.la.n lc,.slice ca s.ca.n cc,int i64 s.most] 33)).alloc (.cells #[.slice G l.stn u,.slice E l.ron n,.slice F l.sen r] 55)):=(c.alloc c.size _).alloc (by have:=c.size;simp;omega) _
       have S:((wr.alloc (.cells #[int i64 s.id,.string s.fr,.string s.dst,int i64 s.dep,int i64 s.arr,.slice la s.la.n lc,.slice ca s.ca.n cc,int i64 s.most] 33)).alloc (.cells #[.slice G l.stn u,.slice E l.ron n,.slice F l.sen r] 55)).heap[wr.heap.size]?=some (.cells #[int i64 s.id,.string s.fr,.string s.dst,int i64 s.dep,int i64 s.arr,.slice la s.la.n lc,.slice ca s.ca.n cc,int i64 s.most] 33 (0,0)):=zc (heap_alloc_new wr _) _;have R:((wr.alloc (.cells #[int i64 s.id,.string s.fr,.string s.dst,int i64 s.dep,int i64 s.arr,.slice la s.la.n lc,.slice ca s.ca.n cc,int i64 s.most] 33)).alloc (.cells #[.slice G l.stn u,.slice E l.ron n,.slice F l.sen r] 55)).heap[wr.heap.size+1]?=some (.cells #[.slice G l.stn u,.slice E l.ron n,.slice F l.sen r] 55 (0,0)):=by simpa using heap_alloc_new (wr.alloc _) _
       generalize ((wr.alloc (.cells #[int i64 s.id,.string s.fr,.string s.dst,int i64 s.dep,int i64 s.arr,.slice la s.la.n lc,.slice ca s.ca.n cc,int i64 s.most] 33)).alloc (.cells #[.slice G l.stn u,.slice E l.ron n,.slice F l.sen r] 55))=X at d S R ⊢;generalize wr.heap.size=o9 at S R ⊢;clear c0 c1 c2 c3 c4 c5 c6 c7 d0 d1 d2 z1 z2 a c;go_loopw [10,11,12,14,97] (fun n6 n7 n8 _ q wq=>∃ (i:Nat),i<=x.bkn/\q=int i64 i/\n6=int i64 (cnt (fun i=>On x k i/\0<(x.bk i).len) i:Nat)/\n7=int i64 (cnt (fun i=>On x k i/\0<(x.bk i).cl) i:Nat)/\n8=int i64 (cnt (On x k) i:Nat)/\(∀ j,j<i->On x k j->QP s l (x.bk j))/\Below X.heap.size X wq) (fun _ _ _ _ q _=>x.bkn - (intOf q).toNat)
       case atStart=>exact⟨0,Nat.zero_le _,rfl,rfl,rfl,rfl,fun j hj=>by omega,bZ⟩
       case round =>
        obtain⟨i,hi,rfl,rfl,rfl,rfl,v,c⟩:=hrel;have HW:=hI v;clear v;have a:=zf (zf y d) c;obtain⟨m0,h9⟩:∃ m,m=cnt (fun i=>On x k i/\0<(x.bk i).len) i:=⟨_,rfl⟩
        have o2:m0<=i:=by rw[h9];exact zdB _ _
        have a1:=hI h9;rw[← h9];clear h9;obtain⟨m1,i0⟩:∃ m,m=cnt (fun i=>On x k i/\0<(x.bk i).cl) i:=⟨_,rfl⟩
        have o3:m1<=i:=by rw[i0];exact zdB _ _
        have f:=hI i0;rw[← i0];clear i0;obtain⟨m2,i1⟩:∃ m,m=cnt (On x k) i:=⟨_,rfl⟩;have o4:m2<=i:=by rw[i1];exact zdB _ _
        have U:=hI i1;rw[← i1];clear i1
        by_cases hlt2:i<x.bkn
        ·obtain⟨C,hC,T⟩:=j3.out
         obtain⟨H,J,rfl,M⟩:=hC i hlt2;obtain⟨b6,d6,L,i9,k6⟩:=T i hlt2;obtain⟨b,hb⟩:∃ b,b=x.bk i:=⟨_,rfl⟩;rw[← hb] at L i9 k6;have K:=hI hb;have l6:=hI i9;have k8:Hid (qi.Short b 1048576):=by rw[hb];exact a7.out.2.2.2 i hlt2
         have N:H<w.heap.size:=World.block_lt_of_cell? w _ (M 0 (by decide))
         have c0:wr.cell? ⟨H,J+i*13,none⟩=some (int i64 b.name):=(a.cell (p:=⟨H,J+i*13,none⟩) N).trans (by have:=M 0 (by decide);rw[L] at this;exact this)
         have c1:wr.cell? ⟨H,J+i*13+1,none⟩=some (int i64 b.who):=(a.cell (p:=⟨H,J+i*13+1,none⟩) N).trans (by have:=M 1 (by decide);rw[L] at this;exact this)
         have c2:wr.cell? ⟨H,J+i*13+2,none⟩=some (.string b.own):=(a.cell (p:=⟨H,J+i*13+2,none⟩) N).trans (by have:=M 2 (by decide);rw[L] at this;exact this)
         have c3:wr.cell? ⟨H,J+i*13+3,none⟩=some (.slice b6 b.lgn d6):=(a.cell (p:=⟨H,J+i*13+3,none⟩) N).trans (by have:=M 3 (by decide);rw[L] at this;exact this)
         have c4:wr.cell? ⟨H,J+i*13+4,none⟩=some (int i64 b.pe):=(a.cell (p:=⟨H,J+i*13+4,none⟩) N).trans (by have:=M 4 (by decide);rw[L] at this;exact this)
         have c5:wr.cell? ⟨H,J+i*13+5,none⟩=some (int i64 b.len):=(a.cell (p:=⟨H,J+i*13+5,none⟩) N).trans (by have:=M 5 (by decide);rw[L] at this;exact this)
         have c6:wr.cell? ⟨H,J+i*13+6,none⟩=some (int i64 b.hei):=(a.cell (p:=⟨H,J+i*13+6,none⟩) N).trans (by have:=M 6 (by decide);rw[L] at this;exact this)
         have c7:wr.cell? ⟨H,J+i*13+7,none⟩=some (int i64 b.cl):=(a.cell (p:=⟨H,J+i*13+7,none⟩) N).trans (by have:=M 7 (by decide);rw[L] at this;exact this)
         have c8:wr.cell? ⟨H,J+i*13+8,none⟩=some (.bool b.all):=(a.cell (p:=⟨H,J+i*13+8,none⟩) N).trans (by have:=M 8 (by decide);rw[L] at this;exact this)
         have c9:wr.cell? ⟨H,J+i*13+9,none⟩=some (int i64 b.be):=(a.cell (p:=⟨H,J+i*13+9,none⟩) N).trans (by have:=M 9 (by decide);rw[L] at this;exact this)
         have m6:wr.cell? ⟨H,J+i*13+10,none⟩=some (int i64 b.state):=(a.cell (p:=⟨H,J+i*13+10,none⟩) N).trans (by have:=M 10 (by decide);rw[L] at this;exact this)
         have m7:wr.cell? ⟨H,J+i*13+11,none⟩=some (int i64 b.unt):=(a.cell (p:=⟨H,J+i*13+11,none⟩) N).trans (by have:=M 11 (by decide);rw[L] at this;exact this)
         have m8:wr.cell? ⟨H,J+i*13+12,none⟩=some (int i64 b.price):=(a.cell (p:=⟨H,J+i*13+12,none⟩) N).trans (by have:=M 12 (by decide);rw[L] at this;exact this)
         clear hC T M L hb i9 k6;go_wp2_with fail;have bB:=heap_alloc_new wr (.cells #[int i64 b.name,int i64 b.who,.string b.own,.slice b6 b.lgn d6,int i64 b.pe,int i64 b.len,int i64 b.hei,int i64 b.cl,.bool b.all,int i64 b.be,int i64 b.state,int i64 b.unt,int i64 b.price] 43);have g:Below X.heap.size X (wr.alloc (.cells #[int i64 b.name,int i64 b.who,.string b.own,.slice b6 b.lgn d6,int i64 b.pe,int i64 b.len,int i64 b.hei,int i64 b.cl,.bool b.all,int i64 b.be,int i64 b.state,int i64 b.unt,int i64 b.price] 43)):=zl c _;generalize wr.alloc (.cells #[int i64 b.name,int i64 b.who,.string b.own,.slice b6 b.lgn d6,int i64 b.pe,int i64 b.len,int i64 b.hei,int i64 b.cl,.bool b.all,int i64 b.be,int i64 b.state,int i64 b.unt,int i64 b.price] 43)=Y at bB g ⊢;generalize wr.heap.size=o8 at bB ⊢;clear c0 c1 c2 c3 c4 c5 c6 c7 c8 c9 m6 m7 m8 c a;refine(zbQ b b6 d6 _).mono ?_;rintro e Y1 ⟨rfl,d7⟩;have h5:=zb bB d7;have I:=zf g d7;clear bB g d7;obtain⟨t1,g2⟩:∃ t,t=decide (zaZ b):=⟨_,rfl⟩;rw[← g2];have a8:Hid (t1=true↔zaZ b):=by show t1=true↔zaZ b;rw[g2,decide_eq_true_eq]
         clear g2
         cases t1 with
         | false =>
          have D:Hid (¬ On x k i):=fun h=>by unfold On at h;rw[← K.out,← Q.out] at h;have:=a8.out.2 h.1;cases this
          go_wp2;go_roundw
          case rel=>exact⟨i+1,by omega,by go_num,by rw[Zu (fun h=>D.out h.1),← a1.out],by rw[Zu (fun h=>D.out h.1),← f.out],by rw[Zu D.out,← U.out],fun j hj ho=>by
           by_cases e:j=i
           ·subst e;exact absurd ho D.out
           ·exact HW.out j (by omega) ho,I⟩
          case measure=>simp[intOf];omega
         | true =>
          have j7:Hid (zaZ b):=a8.out.1 rfl;clear a8;have y3:=za h5 3 _ rfl;have s0:=za (zb S I) 0 _ rfl;go_wp2_with fail;refine(zfv b6 b.lgn d6 b.lg s.id _ k8.out.2 (l6.out.below (zf (zf y d) I))).mono ?_;rintro e Y2 ⟨⟨t2,rfl,g7⟩,j0⟩;have j0:=j0.symm;subst j0;have a9:=hI g7;clear g7 y3 s0
          cases t2 with
          | false =>
           have D:Hid (¬ On x k i):=fun h=>by unfold On at h;rw[← K.out,← Q.out] at h;have:=a9.out.2 h.2;cases this
           go_wp2;go_roundw
           case rel=>exact⟨i+1,by omega,by go_num,by rw[Zu (fun h=>D.out h.1),← a1.out],by rw[Zu (fun h=>D.out h.1),← f.out],by rw[Zu D.out,← U.out],fun j hj ho=>by
            by_cases e:j=i
            ·subst e;exact absurd ho D.out
            ·exact HW.out j (by omega) ho,I⟩
           case measure=>simp[intOf];omega
          | true =>
           have W:Hid (On x k i):=by show On x k i;unfold On;rw[← K.out,← Q.out];exact⟨j7.out,a9.out.1 rfl⟩
           clear a9 j7;obtain⟨y0,y1,y2,y3,y4,y5,y6,y7,y8,y9,n9,o0,o1⟩:=ce13 h5;obtain⟨s0,s1,s2,s3,s4,s5,s6,s7⟩:=ce8 (zb S I);obtain⟨l0,l1,l2⟩:=ce3 (zb R I);have g6:=zf (zf y d) I;go_wp2_with fail;refine(zfo s la ca lc cc l G E F u n r b b6 d6 _ a6.out.1 a6.out.2.1 a6.out.2.2 (i2.out.below g6) (i6.out.below g6) (i3.out.below g6) (i4.out.below g6) k9.out).mono ?_;rintro e Y3 ⟨⟨t3,rfl,g8⟩,d7⟩;have b0:=hI g8;have j9:=zb h5 d7;have a5:=zf I d7;clear g8 y0 y1 y2 y3 y4 y5 y6 y7 y8 y9 n9 o0 o1 s0 s1 s2 s3 s4 s5 s6 s7 l0 l1 l2 h5 I d7 g6
           cases t3 with
           | false =>
            have D:Hid (¬ ql x):=fun h=>by have h:=(h.2.2.2.2.2 k hlt).1 i hlt2 W.out;rw[← K.out,← Q.out,← a0.out] at h;have:=b0.out.2 h;cases this
            go_wp2;go_ret;exact⟨zk D.out,zf (zf y d) a5⟩
           | true =>
            have f8:Hid (QP s l (x.bk i)):=by show QP s l (x.bk i);rw[← K.out];exact b0.out.1 rfl
            clear b0;have y5:=za j9 5 _ rfl;have y7:=za j9 7 _ rfl;have o5:IntKind.i64.wrap ((m0:Int)+1)=(m0:Int)+1:=by rw[IntKind.wrap_i64];omega
            have o6:IntKind.i64.wrap ((m1:Int)+1)=(m1:Int)+1:=by rw[IntKind.wrap_i64];omega
            have o7:IntKind.i64.wrap ((m2:Int)+1)=(m2:Int)+1:=by rw[IntKind.wrap_i64];omega
            by_cases u1:0<b.len
            ·have n5:decide (0<b.len)=true:=decide_eq_true u1
             have g5:=hI u1;clear u1
             by_cases u2:0<b.cl
             ·have j1:decide (0<b.cl)=true:=decide_eq_true u2
              have b5:=hI u2;clear u2;go_wp2;go_roundw
              case rel=>exact⟨i+1,by omega,by go_num,by rw[Ze ⟨W.out,by rw[← K.out];exact g5.out⟩,← a1.out];simp,by rw[Ze ⟨W.out,by rw[← K.out];exact b5.out⟩,← f.out];simp,by rw[Ze W.out,← U.out];simp,fun j hj ho=>by
               by_cases e:j=i
               ·subst e;exact f8.out
               ·exact HW.out j (by omega) ho,a5⟩
              case measure=>simp[intOf];omega
             ·have j1:decide (0<b.cl)=false:=decide_eq_false u2
              have b5:=hI u2;clear u2;go_wp2;go_roundw
              case rel=>exact⟨i+1,by omega,by go_num,by rw[Ze ⟨W.out,by rw[← K.out];exact g5.out⟩,← a1.out];simp,by rw[Zu (fun h=>by have h1:=h.2;rw[← K.out] at h1;have h2:=b5.out;omega),← f.out],by rw[Ze W.out,← U.out];simp,fun j hj ho=>by
               by_cases e:j=i
               ·subst e;exact f8.out
               ·exact HW.out j (by omega) ho,a5⟩
              case measure=>simp[intOf];omega
            ·have n5:decide (0<b.len)=false:=decide_eq_false u1
             have g5:=hI u1;clear u1
             by_cases u2:0<b.cl
             ·have j1:decide (0<b.cl)=true:=decide_eq_true u2
              have b5:=hI u2;clear u2;go_wp2;go_roundw
              case rel=>exact⟨i+1,by omega,by go_num,by rw[Zu (fun h=>by have h1:=h.2;rw[← K.out] at h1;have h2:=g5.out;omega),← a1.out],by rw[Ze ⟨W.out,by rw[← K.out];exact b5.out⟩,← f.out];simp,by rw[Ze W.out,← U.out];simp,fun j hj ho=>by
               by_cases e:j=i
               ·subst e;exact f8.out
               ·exact HW.out j (by omega) ho,a5⟩
              case measure=>simp[intOf];omega
             ·have j1:decide (0<b.cl)=false:=decide_eq_false u2
              have b5:=hI u2;clear u2;go_wp2;go_roundw
              case rel=>exact⟨i+1,by omega,by go_num,by rw[Zu (fun h=>by have h1:=h.2;rw[← K.out] at h1;have h2:=g5.out;omega),← a1.out],by rw[Zu (fun h=>by have h1:=h.2;rw[← K.out] at h1;have h2:=b5.out;omega),← f.out],by rw[Ze W.out,← U.out];simp,fun j hj ho=>by
               by_cases e:j=i
               ·subst e;exact f8.out
               ·exact HW.out j (by omega) ho,a5⟩
              case measure=>simp[intOf];omega
        ·obtain rfl:i=x.bkn:=by omega
         obtain⟨l0,l1,l2⟩:=ce3 (zb R c);have g4:Hid (Z5 x k↔l.stn=m0/\l.ron=m1/\l.sen=m2):=by
          show Z5 x k↔l.stn=m0/\l.ron=m1/\l.sen=m2
          unfold Z5;rw[← Q.out,← a0.out,a1.out,f.out,U.out];exact⟨fun h=>h.2,fun h=>⟨HW.out,h⟩⟩
         have h3:=hI (zf d c);clear c a1 f U HW
         by_cases v1:l.stn=m0
         case neg =>
          have e1:((l.stn:Int) != (m0:Int))=true:=by simp;omega
          have D:Hid (¬ ql x):=fun h=>v1 (g4.out.1 (h.2.2.2.2.2 k hlt)).1
          clear v1;go_wp2;go_ret;exact⟨zk D.out,zf y h3.out⟩
         have e1:((l.stn:Int) != (m0:Int))=false:=by simp;omega
         by_cases v2:l.ron=m1
         case neg =>
          have e2:((l.ron:Int) != (m1:Int))=true:=by simp;omega
          have D:Hid (¬ ql x):=fun h=>v2 (g4.out.1 (h.2.2.2.2.2 k hlt)).2.1
          clear v1 v2;go_wp2;go_ret;exact⟨zk D.out,zf y h3.out⟩
         have e2:((l.ron:Int) != (m1:Int))=false:=by simp;omega
         by_cases v3:l.sen=m2
         case neg =>
          have e3:((l.sen:Int) != (m2:Int))=true:=by simp;omega
          have D:Hid (¬ ql x):=fun h=>v3 (g4.out.1 (h.2.2.2.2.2 k hlt)).2.2
          clear v1 v2 v3;go_wp2;go_ret;exact⟨zk D.out,zf y h3.out⟩
         have e3:((l.sen:Int) != (m2:Int))=false:=by simp;omega
         have m5:Hid (Z5 x k):=g4.out.2 ⟨v1,v2,v3⟩;clear v1 v2 v3 g4;go_wp2;go_roundw
         case rel=>exact⟨k+1,by omega,by go_num,fun j hj=>by
          by_cases e:j=k
          ·subst e;exact m5.out
          ·exact HA.out j (by omega),h3.out⟩
         case measure=>simp[intOf];omega
      ·obtain rfl:k=x.san:=by omega
       have HY:Hid (ql x):=⟨j8.out,f.out,U.out,j4.out,l5.out,HA.out⟩;clear HA;go_wp2;go_ret;exact⟨zI HY.out,a⟩
open Classical in
noncomputable instance (x:Off):Decidable (ql x):=propDecidable _
theorem zcT {P:Prop} [Decidable P] {e:Ending}(h:SaysIf P e):e=.returned (.bool (decide P)):=by
 obtain⟨b,rfl,a⟩:=h
 congr 2
 rw[Bool.eq_iff_iff,a,decide_eq_true_eq]
theorem zaS (cs:List Value)(x:Off)(w:World)(n:Off.Short x 1048576)(h:Off.Is w cs x) :
  Calls Tryz.prog 6 #[.agg cs.toArray] w fun e w'=>e=.returned (.bool (decide (ql x)))/\Below w.heap.size w w':=by
 obtain⟨f,j,d,i,c,g,rfl,k,s1,l,s2,m,o⟩:=h;exact(zcS x f d c j i g w n k l m o.1).mono fun _ _ ⟨a,b⟩=>⟨zcT a,b⟩
end
end Go.Proofs.YtgmdnkngnhkgbaaGreat
