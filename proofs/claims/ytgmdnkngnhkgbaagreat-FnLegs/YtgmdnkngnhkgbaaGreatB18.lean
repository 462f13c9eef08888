import Derived.Test.YtgmdnkngnhkgbaaGreatB14
namespace Go.Proofs.YtgmdnkngnhkgbaaGreat
open Go.RowKit
open Go.Value (int)
open Go.IntKind (i64)
set_option maxHeartbeats 64000000
set_option maxRecDepth 1000000
theorem zbQ (b:qi)(f:Option Addr)(g:Nat)(w:World) :
  Calls Tryz.prog 20 #[.agg #[int i64 b.name,int i64 b.who,.string b.own,.slice f b.lgn g,int i64 b.pe,int i64 b.len,int i64 b.hei,int i64 b.cl,.bool b.all,int i64 b.be,int i64 b.state,int i64 b.unt,int i64 b.price]] w fun e w'=>e=.returned (.bool (decide (zaZ b)))/\Below w.heap.size w w':=by
 obtain⟨c,i⟩:∃ c,c=decide (zaZ b):=⟨_,rfl⟩;rw[← i];have d:=hI i;clear i
 by_cases h1:b.state=1
 ·have j:(b.state == 1)=true:=by simpa using h1
  have a:Hid (c=true):=by rw[d.out];exact decide_eq_true (.inl h1)
  clear h1;go_enter Tryz.func20,Tryz.ntmps20;go_wp2;go_ret;exact⟨by rw[a.out];rfl,zl bZ _⟩
 ·have j:(b.state == 1)=false:=by simpa using h1
  by_cases h2:b.state=2
  ·have k:(b.state == 2)=true:=by simpa using h2
   have a:Hid (c=true):=by rw[d.out];exact decide_eq_true (.inr h2)
   clear h1 h2;go_enter Tryz.func20,Tryz.ntmps20;go_wp2;go_ret;exact⟨by rw[a.out];rfl,zl bZ _⟩
  ·have k:(b.state == 2)=false:=by simpa using h2
   have a:Hid (c=false):=by rw[d.out];exact decide_eq_false (fun h=>by rcases h with h|h;exact h1 h;exact h2 h)
   clear h1 h2;go_enter Tryz.func20,Tryz.ntmps20;go_wp2;go_ret;exact⟨by rw[a.out];rfl,zl bZ _⟩
theorem zaj {x:qm}{b:qi}{k:Nat}:zbs x b (k+1)↔zbs x b k∨((x.se k).who=b.who/\(x.se k).many=b.pe) :=
 ⟨fun ⟨j,a,h⟩=>if e:j=k then .inr (by subst e;exact h) else .inl ⟨j,by omega,h⟩,fun h=>by rcases h with⟨j,a,h⟩|h;exact⟨j,by omega,h⟩;exact⟨k,by omega,h⟩⟩
theorem QC {x:qm}{b:qi}{k:Nat}:zbt x b (k+1)↔zbt x b k∨((x.st k).who=b.who/\(x.st k).len=b.len/\(x.st k).hei=b.hei) :=
 ⟨fun ⟨j,a,h⟩=>if e:j=k then .inr (by subst e;exact h) else .inl ⟨j,by omega,h⟩,fun h=>by rcases h with⟨j,a,h⟩|h;exact⟨j,by omega,h⟩;exact⟨k,by omega,h⟩⟩
theorem ZH {s:Sail}{x:qm}{b:qi}{k:Nat}:zaC s x b (k+1)↔zaC s x b k∨zgu s b (x.ro k) :=
 ⟨fun ⟨j,a,h⟩=>if e:j=k then .inr (by subst e;exact h) else .inl ⟨j,by omega,h⟩,fun h=>by rcases h with⟨j,a,h⟩|h;exact⟨j,by omega,h⟩;exact⟨k,by omega,h⟩⟩
theorem zfo (s:Sail)(la ca:Option Addr)(lc cc:Nat)(x:qm)(G E F:Option Addr)(U S T:Nat)(b:qi)(P:Option Addr)(R:Nat)(w:World)
  (d6:x.stn<=1048576) (d7:x.ron<=1048576) (d8:x.sen<=1048576) (a2:zT w ca s.ca) (a6:qp w G x.stn x.st) (a3:qo w E x.ron x.ro) (a5:qx w F x.sen x.se)
  (L:∀ j,j<x.ron->0<=(x.ro j).cab/\(x.ro j).cab<s.ca.n) :
  Calls Tryz.prog 22 #[.agg #[int i64 s.id,.string s.fr,.string s.dst,int i64 s.dep,int i64 s.arr,.slice la s.la.n lc,.slice ca s.ca.n cc,int i64 s.most],.agg #[.slice G x.stn U,.slice E x.ron S,.slice F x.sen T],.agg #[int i64 b.name,int i64 b.who,.string b.own,.slice P b.lgn R,int i64 b.pe,int i64 b.len,int i64 b.hei,int i64 b.cl,.bool b.all,int i64 b.be,int i64 b.state,int i64 b.unt,int i64 b.price]] w fun e w'=>SaysIf (QP s x b) e/\Below w.heap.size w w':=by
 have a9:=hI a2;have b7:=hI a6;have b5:=hI a3;have b6:=hI a5;have b0:=hI L;clear a2 a6 a3 a5 L;go_enter Tryz.func22,Tryz.ntmps22;go_wp2;obtain⟨W,Z⟩:∃ W,W=(((w.alloc (.cells #[int i64 s.id,.string s.fr,.string s.dst,int i64 s.dep,int i64 s.arr,.slice la s.la.n lc,.slice ca s.ca.n cc,int i64 s.most] 33)).alloc (.cells #[.slice G x.stn U,.slice E x.ron S,.slice F x.sen T] 55)).alloc (.cells #[int i64 b.name,int i64 b.who,.string b.own,.slice P b.lgn R,int i64 b.pe,int i64 b.len,int i64 b.hei,int i64 b.cl,.bool b.all,int i64 b.be,int i64 b.state,int i64 b.unt,int i64 b.price] 43)).alloc (.cells #[int i64 b.pe,int i64 b.len,int i64 b.hei,int i64 b.cl,.bool b.all,int i64 b.be] 41):=⟨_,rfl⟩;have bS:W.heap[w.heap.size]?=some (.cells #[int i64 s.id,.string s.fr,.string s.dst,int i64 s.dep,int i64 s.arr,.slice la s.la.n lc,.slice ca s.ca.n cc,int i64 s.most] 33 (0,0)):=by rw[Z];exact zc (zc (zc (heap_alloc_new w _) _) _) _
 have bL:W.heap[w.heap.size+1]?=some (.cells #[.slice G x.stn U,.slice E x.ron S,.slice F x.sen T] 55 (0,0)):=by rw[Z];exact zc (zc (by simpa using heap_alloc_new (w.alloc _) _) _) _
 have bB:W.heap[w.heap.size+1+1]?=some (.cells #[int i64 b.name,int i64 b.who,.string b.own,.slice P b.lgn R,int i64 b.pe,int i64 b.len,int i64 b.hei,int i64 b.cl,.bool b.all,int i64 b.be,int i64 b.state,int i64 b.unt,int i64 b.price] 43 (0,0)):=by rw[Z];exact zc (by simpa using heap_alloc_new ((w.alloc _).alloc _) _) _
 have J:W.heap[w.heap.size+1+1+1]?=some (.cells #[int i64 b.pe,int i64 b.len,int i64 b.hei,int i64 b.cl,.bool b.all,int i64 b.be] 41 (0,0)):=by rw[Z];simpa using heap_alloc_new (((w.alloc _).alloc _).alloc _) _
 have H:Below w.heap.size w W:=by rw[Z];exact zl (zl (zl (zl bZ _) _) _) _
 rw[← Z];clear Z;have M:∀ y:qm,¬ zbs y b 0:=fun y ⟨j,hj,_⟩=>absurd hj (Nat.not_lt_zero _)
 go_loopw [8,10,22] (fun v _ i wr=>∃ (k:Nat) (c:Bool),k<=x.sen/\i=int i64 k/\v=.bool c/\(c=true↔zbs x b k)/\Below W.heap.size W wr) (fun _ _ i _=>x.sen - (intOf i).toNat)
 case atStart=>exact⟨0,false,Nat.zero_le _,rfl,rfl,⟨fun h=>(by cases h),fun h=>absurd h (M x)⟩,bZ⟩
 case round =>
  obtain⟨k,c,hk,rfl,rfl,m,a⟩:=hrel;have HC:=hI m;clear m;have Q:∀ o,(wr.alloc o).cell? ⟨w.heap.size+1+1,1,none⟩=some (int i64 b.who):=fun o=>za (zc (zb bB a) o) 1 _ rfl
  have c0:∀ o,(wr.alloc o).cell? ⟨w.heap.size+1+1+1,0,none⟩=some (int i64 b.pe):=fun o=>za (zc (zb J a) o) 0 _ rfl
  by_cases hlt:k<x.sen
  ·obtain⟨u,A,rfl,D,K⟩:=b6.out k hlt
   have g:=World.block_lt_of_cell? w _ D;have d1:=((zf H a).cell (p:=⟨u,A+k*2,none⟩) g).trans D;have d2:=((zf H a).cell (p:=⟨u,A+k*2+1,none⟩) g).trans K;clear D K
   cases c with
   | true =>
    go_wp2;go_roundw
    case rel=>exact⟨k+1,true,by omega,by go_num,rfl,⟨fun _=>zaj.2 (.inl (HC.out.1 rfl)),fun _=>rfl⟩,zl a _⟩
    case measure=>simp[intOf];omega
   | false =>
    have l:Hid (¬ zbs x b k):=fun h=>by have:=HC.out.2 h;cases this
    clear HC
    by_cases e1:(x.se k).who=b.who
    ·by_cases e2:(x.se k).many=b.pe
     ·have O:Hid (zbs x b (k+1)):=zaj.2 (.inr ⟨e1,e2⟩)
      go_wp2;go_roundw
      case rel=>exact⟨k+1,true,by omega,by go_num,rfl,⟨fun _=>O.out,fun _=>rfl⟩,zl a _⟩
      case measure=>simp[intOf];omega
     ·have d:Hid (¬ zbs x b (k+1)):=fun h=>by rcases zaj.1 h with h|h;exact l.out h;exact e2 h.2
      go_wp2;go_roundw
      case rel=>exact⟨k+1,false,by omega,by go_num,rfl,⟨fun h=>(by cases h),fun h=>absurd h d.out⟩,zl a _⟩
      case measure=>simp[intOf];omega
    ·have d:Hid (¬ zbs x b (k+1)):=fun h=>by rcases zaj.1 h with h|h;exact l.out h;exact e1 h.1
     go_wp2;go_roundw
     case rel=>exact⟨k+1,false,by omega,by go_num,rfl,⟨fun h=>(by cases h),fun h=>absurd h d.out⟩,zl a _⟩
     case measure=>simp[intOf];omega
  ·obtain rfl:k=x.sen:=by omega
   clear Q c0;have a7:=hI a;have N:=hI H;have b8:=za (zb bL a) 0 _ rfl;have a0:=za (zb J a) 1 _ rfl;clear a H hk hlt M;obtain⟨I,r⟩:∃ z,z=(b.len == 0):=⟨_,rfl⟩;have Y:(b.len == 0)=I:=r.symm;have n:Hid (I=true↔b.len=0):=by show I=true↔b.len=0;rw[r,beq_iff_eq]
   clear r;go_wp2;go_loopw [11,13,43] (fun v _ i wq=>∃ (k:Nat) (c:Bool),k<=x.stn/\i=int i64 k/\v=.bool c/\(c=true↔b.len=0∨zbt x b k)/\Below W.heap.size W wq) (fun _ _ i _=>x.stn - (intOf i).toNat)
   case atStart=>exact⟨0,I,Nat.zero_le _,rfl,rfl,⟨fun h=>.inl (n.out.1 h),fun h=>by rcases h with h|⟨j,hj,_⟩;exact n.out.2 h;exact absurd hj (Nat.not_lt_zero _)⟩,a7.out⟩
   case round =>
    obtain⟨k,c2,hk,rfl,rfl,m,a⟩:=hrel;have B:=hI m;clear m b8 a0 Y n
    by_cases hlt:k<x.stn
    ·obtain⟨u,A,rfl,D,K,g3,g4⟩:=b7.out k hlt
     have g:=World.block_lt_of_cell? w _ D;have f:=zf N.out a;have d1:=(f.cell (p:=⟨u,A+k*4,none⟩) g).trans D;have d2:=(f.cell (p:=⟨u,A+k*4+1,none⟩) g).trans K;have d3:=(f.cell (p:=⟨u,A+k*4+2,none⟩) g).trans g3;have d4:=(f.cell (p:=⟨u,A+k*4+3,none⟩) g).trans g4;have Q:∀ o,(wr.alloc o).cell? ⟨w.heap.size+1+1,1,none⟩=some (int i64 b.who):=fun o=>za (zc (zb bB a) o) 1 _ rfl
     have a0:∀ o,(wr.alloc o).cell? ⟨w.heap.size+1+1+1,1,none⟩=some (int i64 b.len):=fun o=>za (zc (zb J a) o) 1 _ rfl
     have c8:∀ o,(wr.alloc o).cell? ⟨w.heap.size+1+1+1,2,none⟩=some (int i64 b.hei):=fun o=>za (zc (zb J a) o) 2 _ rfl
     clear D K g3 g4 f
     cases c2 with
     | true =>
      go_wp2;go_roundw
      case rel=>exact⟨k+1,true,by omega,by go_num,rfl,⟨fun _=>(B.out.1 rfl).imp id (fun h=>QC.2 (.inl h)),fun _=>rfl⟩,zl a _⟩
      case measure=>simp[intOf];omega
     | false =>
      have l:Hid (¬ (b.len=0∨zbt x b k)):=fun h=>by have:=B.out.2 h;cases this
      clear B
      by_cases e1:(x.st k).who=b.who
      ·have V:((x.st k).who == b.who)=true:=by simpa using e1
       by_cases e2:(x.st k).len=b.len
       ·have t:((x.st k).len == b.len)=true:=by simpa using e2
        by_cases e3:(x.st k).hei=b.hei
        ·have X:((x.st k).hei == b.hei)=true:=by simpa using e3
         have O:Hid (b.len=0∨zbt x b (k+1)):=.inr (QC.2 (.inr ⟨e1,e2,e3⟩));clear e1 e2 e3;go_wp2;go_roundw
         case rel=>exact⟨k+1,true,by omega,by go_num,rfl,⟨fun _=>O.out,fun _=>rfl⟩,zl a _⟩
         case measure=>simp[intOf];omega
        ·have X:((x.st k).hei == b.hei)=false:=by simpa using e3
         have d:Hid (¬ (b.len=0∨zbt x b (k+1))):=fun h=>by rcases h with h|h;exact l.out (.inl h);rcases QC.1 h with h|h;exact l.out (.inr h);exact e3 h.2.2
         clear e1 e2 e3;go_wp2;go_roundw
         case rel=>exact⟨k+1,false,by omega,by go_num,rfl,⟨fun h=>(by cases h),fun h=>absurd h d.out⟩,zl a _⟩
         case measure=>simp[intOf];omega
       ·have t:((x.st k).len == b.len)=false:=by simpa using e2
        have d:Hid (¬ (b.len=0∨zbt x b (k+1))):=fun h=>by rcases h with h|h;exact l.out (.inl h);rcases QC.1 h with h|h;exact l.out (.inr h);exact e2 h.2.1
        clear e1 e2;go_wp2;go_roundw
        case rel=>exact⟨k+1,false,by omega,by go_num,rfl,⟨fun h=>(by cases h),fun h=>absurd h d.out⟩,zl a _⟩
        case measure=>simp[intOf];omega
      ·have V:((x.st k).who == b.who)=false:=by simpa using e1
       have d:Hid (¬ (b.len=0∨zbt x b (k+1))):=fun h=>by rcases h with h|h;exact l.out (.inl h);rcases QC.1 h with h|h;exact l.out (.inr h);exact e1 h.1
       clear e1;go_wp2;go_roundw
       case rel=>exact⟨k+1,false,by omega,by go_num,rfl,⟨fun h=>(by cases h),fun h=>absurd h d.out⟩,zl a _⟩
       case measure=>simp[intOf];omega
    ·obtain rfl:k=x.stn:=by omega
     have a8:=hI a;have b9:=za (zb bL a) 1 _ rfl;have a1:=za (zb J a) 3 _ rfl;clear a hk hlt;obtain⟨I,r⟩:∃ z,z=(b.cl == 0):=⟨_,rfl⟩;have Y:(b.cl == 0)=I:=r.symm;have n:Hid (I=true↔b.cl=0):=by show I=true↔b.cl=0;rw[r,beq_iff_eq]
     clear r;go_wp2;go_loopw [14,16,76] (fun v _ i wq=>∃ (k:Nat) (c:Bool),k<=x.ron/\i=int i64 k/\v=.bool c/\(c=true↔b.cl=0∨zaC s x b k)/\Below W.heap.size W wq) (fun _ _ i _=>x.ron - (intOf i).toNat)
     case atStart=>exact⟨0,I,Nat.zero_le _,rfl,rfl,⟨fun h=>.inl (n.out.1 h),fun h=>by rcases h with h|⟨j,hj,_⟩;exact n.out.2 h;exact absurd hj (Nat.not_lt_zero _)⟩,a8.out⟩
     case round =>
      obtain⟨k,c3,hk,rfl,rfl,m,a⟩:=hrel;have C:=hI m;clear m b9 a1 Y n
      by_cases hlt:k<x.ron
      ·obtain⟨u,A,rfl,D,K,g3,g4⟩:=b5.out k hlt
       have g:=World.block_lt_of_cell? w _ D;have f:=zf N.out a;have d1:=(f.cell (p:=⟨u,A+k*4,none⟩) g).trans D;have d2:=(f.cell (p:=⟨u,A+k*4+1,none⟩) g).trans K;have d3:=(f.cell (p:=⟨u,A+k*4+2,none⟩) g).trans g3;have d4:=(f.cell (p:=⟨u,A+k*4+3,none⟩) g).trans g4;obtain⟨i0,i1⟩:=b0.out k hlt;obtain⟨cb,co,rfl,k1,k2⟩:=a9.out (x.ro k).cab.toNat (by omega)
       have c7:=World.block_lt_of_cell? w _ k1;have c1:∀ o,(wr.alloc o).cell? ⟨cb,co+(x.ro k).cab.toNat*2,none⟩=some (int i64 (s.ca.A (x.ro k).cab.toNat)):=fun o=>(((f.alloc f.size o).cell (p:=⟨cb,co+(x.ro k).cab.toNat*2,none⟩) c7)).trans k1
       have Q:∀ o,(wr.alloc o).cell? ⟨w.heap.size+1+1,1,none⟩=some (int i64 b.who):=fun o=>za (zc (zb bB a) o) 1 _ rfl
       have a1:∀ o,(wr.alloc o).cell? ⟨w.heap.size+1+1+1,3,none⟩=some (int i64 b.cl):=fun o=>za (zc (zb J a) o) 3 _ rfl
       obtain⟨q,hq⟩:∃ q,q=b.all:=⟨_,rfl⟩;have HQ:=hI hq;have c9:∀ o,(wr.alloc o).cell? ⟨w.heap.size+1+1+1,4,none⟩=some (.bool q):=fun o=>by rw[hq];exact za (zc (zb J a) o) 4 _ rfl
       clear hq;have d0:∀ o,(wr.alloc o).cell? ⟨w.heap.size+1+1+1,5,none⟩=some (int i64 b.be):=fun o=>za (zc (zb J a) o) 5 _ rfl
       have d5:∀ o,(wr.alloc o).cell? ⟨w.heap.size,6,none⟩=some (.slice (some ⟨cb,co,none⟩) s.ca.n cc):=fun o=>za (zc (zb bS a) o) 6 _ rfl
       clear D K g3 g4 k1 k2 f
       cases c3 with
       | true =>
        go_wp2;go_quiet (fail);go_wp2;go_roundw
        case rel=>exact⟨k+1,true,by omega,by go_num,rfl,⟨fun _=>(C.out.1 (by simp)).imp id (fun h=>ZH.2 (.inl h)),fun _=>rfl⟩,dN (zl a _) _⟩
        case measure=>simp[intOf];omega
       | false =>
        have l:Hid (¬ (b.cl=0∨zaC s x b k)):=fun h=>by have:=C.out.2 h;cases this
        clear C
        by_cases e1:(x.ro k).who=b.who
        ·have V:((x.ro k).who == b.who)=true:=by simpa using e1
         by_cases e2:(x.ro k).all=q
         ·have t:((x.ro k).all == q)=true:=by simpa using e2
          by_cases e3:s.ca.A (x.ro k).cab.toNat=b.cl
          ·have X:(s.ca.A (x.ro k).cab.toNat == b.cl)=true:=by simpa using e3
           by_cases e4:q=true
           ·have c4:(x.ro k).all=true:=e2.trans e4
            have O:Hid (b.cl=0∨zaC s x b (k+1)):=.inr (ZH.2 (.inr ⟨e1,e2.trans HQ.out,e3,.inl (HQ.out.symm.trans e4)⟩));clear e1 e2 e3 t;go_wp2;go_quiet (fail);go_wp2;go_roundw
            case rel=>exact⟨k+1,true,by omega,by go_num,rfl,⟨fun _=>O.out,fun _=>rfl⟩,dN (zl a _) _⟩
            case measure=>simp[intOf];omega
           ·have c5:q=false:=by cases h:q;rfl;exact absurd h e4
            have c4:(x.ro k).all=false:=e2.trans c5
            by_cases e5:(x.ro k).many=b.be
            ·have c6:((x.ro k).many == b.be)=true:=by simpa using e5
             have O:Hid (b.cl=0∨zaC s x b (k+1)):=.inr (ZH.2 (.inr ⟨e1,e2.trans HQ.out,e3,.inr e5⟩));clear e1 e2 e3 e4 e5 t;go_wp2;go_quiet (fail);go_wp2;go_roundw
             case rel=>exact⟨k+1,true,by omega,by go_num,rfl,⟨fun _=>O.out,fun _=>rfl⟩,dN (zl a _) _⟩
             case measure=>simp[intOf];omega
            ·have c6:((x.ro k).many == b.be)=false:=by simpa using e5
             have d:Hid (¬ (b.cl=0∨zaC s x b (k+1))):=fun h=>by rcases h with h|h;exact l.out (.inl h);rcases ZH.1 h with h|h;exact l.out (.inr h);exact(by rcases h.2.2.2 with h|h;exact e4 (HQ.out.trans h);exact e5 h)
             clear e1 e2 e3 e4 e5 t;go_wp2;go_quiet (fail);go_wp2;go_roundw
             case rel=>exact⟨k+1,false,by omega,by go_num,rfl,⟨fun h=>(by cases h),fun h=>absurd h d.out⟩,dN (zl a _) _⟩
             case measure=>simp[intOf];omega
          ·have X:(s.ca.A (x.ro k).cab.toNat == b.cl)=false:=by simpa using e3
           have d:Hid (¬ (b.cl=0∨zaC s x b (k+1))):=fun h=>by rcases h with h|h;exact l.out (.inl h);rcases ZH.1 h with h|h;exact l.out (.inr h);exact e3 h.2.2.1
           clear e1 e2 e3;go_wp2;go_quiet (fail);go_wp2;go_roundw
           case rel=>exact⟨k+1,false,by omega,by go_num,rfl,⟨fun h=>(by cases h),fun h=>absurd h d.out⟩,dN (zl a _) _⟩
           case measure=>simp[intOf];omega
         ·have t:((x.ro k).all == q)=false:=by simpa using e2
          have d:Hid (¬ (b.cl=0∨zaC s x b (k+1))):=fun h=>by rcases h with h|h;exact l.out (.inl h);rcases ZH.1 h with h|h;exact l.out (.inr h);exact e2 (h.2.1.trans HQ.out.symm)
          clear e1 e2;go_wp2;go_quiet (fail);go_wp2;go_roundw
          case rel=>exact⟨k+1,false,by omega,by go_num,rfl,⟨fun h=>(by cases h),fun h=>absurd h d.out⟩,dN (zl a _) _⟩
          case measure=>simp[intOf];omega
        ·have V:((x.ro k).who == b.who)=false:=by simpa using e1
         have d:Hid (¬ (b.cl=0∨zaC s x b (k+1))):=fun h=>by rcases h with h|h;exact l.out (.inl h);rcases ZH.1 h with h|h;exact l.out (.inr h);exact e1 h.1
         clear e1;go_wp2;go_quiet (fail);go_wp2;go_roundw
         case rel=>exact⟨k+1,false,by omega,by go_num,rfl,⟨fun h=>(by cases h),fun h=>absurd h d.out⟩,dN (zl a _) _⟩
         case measure=>simp[intOf];omega
      ·obtain rfl:k=x.ron:=by omega
       have HF:=hI (zf N.out a);have HS:Hid (QP s x b↔c=true/\c2=true/\c3=true):=by
        show QP s x b↔c=true/\c2=true/\c3=true
        unfold QP;rw[HC.out,B.out,C.out]
       clear a hk hlt HC B C
       cases c with
       | false =>
        go_wp2;go_ret;exact⟨zk (fun h=>by have h:=HS.out.1 h;simp at h),HF.out⟩
       | true =>
        cases c2 with
        | false =>
         go_wp2;go_ret;exact⟨zk (fun h=>by have h:=HS.out.1 h;simp at h),HF.out⟩
        | true =>
         cases c3 with
         | false =>
          go_wp2;go_ret;exact⟨zk (fun h=>by have h:=HS.out.1 h;simp at h),HF.out⟩
         | true =>
          go_wp2;go_ret;exact⟨zI (HS.out.2 (by simp)),HF.out⟩
end Go.Proofs.YtgmdnkngnhkgbaaGreat
