import Derived.Test.YtfallpinmhbemaaGreatDoorB28
import Derived.Test.YtfallpinmhbemaaGreatDoorB19
import Derived.Test.YtfallpinmhbemaaGreatDoorB35
namespace Go.Proofs.YtfallpinmhbemaaGreatDoor
open Go.RowKit
open Go.Value (int)
open Go.IntKind (i64)
set_option maxHeartbeats 64000000
set_option maxRecDepth 1000000
def RIx (n m:Nat)(P:Nat->Prop)(r:Int):Prop:=(∃ k:Nat,r=(k:Int)/\n≠60/\zaC m P k)∨(r=-1/\(n=60∨∀ k,¬ zaC m P k))
theorem zcG (y z:Option Addr)(m N n c:Nat)(p:qi)(S:Nat->ZF)(cl q:Int)(w:World)(hl:p.n=m)(hd:QL p n S)(L:qd w y p)(M:Zm w z n S) :
  Calls Tryz.prog 141 #[.slice y m N,.slice z n c,int i64 cl,int i64 q] w fun e w'=>(∃ r:Int,e=.returned (int i64 r)/\RIx n p.n (zbM p n S cl q) r)/\Below w.heap.size w w':=by
 have x:=hI hl;have G:=hI hd;have H:=hI L;have P:=hI M;have T:m<=6:=by rw[← hl];exact hd.1.1
 have t:n<=60:=hd.2.1;clear hl hd L M
 by_cases h60:n=60
 ·have A:(n == 60)=true:=by simpa using h60
  have B:((n:Int) == 60)=true:=by simp;omega
  have o:=hI h60;clear h60;go_enter Tryz.func141,Tryz.ntmps141;go_wp2;go_ret;exact⟨⟨_,rfl,.inr ⟨rfl,.inl o.out⟩⟩,bZ⟩
 ·have A:(n == 60)=false:=by simpa using h60
  have B:((n:Int) == 60)=false:=by simp;omega
  have o:=hI h60;clear h60;go_enter Tryz.func141,Tryz.ntmps141;go_wp2_with fail;refine(zcp y z m N n c p S _ x.out G.out.1 t G.out.manys H.out P.out).mono ?_;rintro e F ⟨⟨v,rfl,d⟩,f⟩;obtain⟨aw,cw,rfl,_⟩:=zt d;have O:=hI (own_ints d);clear d;go_wp2;go_loopw [10,11,20] (fun _ _ i wr=>∃ k:Nat,k<=m/\i=int i64 k/\(∀ j:Nat,j<k->¬ zbM p n S cl q j)/\Below F.heap.size F wr) (fun _ _ i _=>m - (intOf i).toNat)
  case atStart=>exact⟨0,Nat.zero_le _,rfl,fun j K=>by omega,bZ⟩
  case round =>
   obtain⟨k,hk,rfl,g,a⟩:=hrel;have u:=hI g;clear g
   by_cases hlt:k<m
   ·obtain⟨b,off,rfl,C,I⟩:=H.out k (by rw[x.out];exact hlt)
    have J:=World.block_lt_of_cell? w _ C;have c1:=((zj f a).cell (p:=⟨b,off+k*2,none⟩) J).trans C;have c2:=((zj f a).cell (p:=⟨b,off+k*2+1,none⟩) J).trans I;obtain⟨b3,l,rfl,D⟩:=O.out k hlt;have E:=World.block_lt_of_cell? F _ D;have c3:(wr.alloc (.cells #[int i64 (p.A k),int i64 (p.B k)] 110)).cell? ⟨b3,l+k,none⟩=some (int i64 (qW p S n k)):=((zr a _).cell (p:=⟨b3,l+k,none⟩) E).trans D;have i1:(0:Int)<=(k:Int):=by omega
    have i2:(k:Int)<(m:Int):=by omega
    clear C I D
    by_cases g1:p.A k=cl
    ·have Q:(p.A k == cl)=true:=by simpa using g1
     by_cases g2:q<=qW p S n k
     ·have R:decide (q<=qW p S n k)=true:=decide_eq_true g2
      have s:Hid (zaC p.n (zbM p n S cl q) k):=⟨by rw[x.out];exact hlt,⟨g1,g2⟩,u.out⟩
      clear g1 g2;go_wp2;go_ret;exact⟨⟨_,rfl,.inl ⟨k,rfl,o.out,s.out⟩⟩,zj f (zr a _)⟩
     ·have R:decide (q<=qW p S n k)=false:=decide_eq_false g2
      have s:Hid (¬ zbM p n S cl q k):=fun h=>g2 h.2
      clear g1 g2;go_wp2;go_roundw
      case rel=>exact⟨k+1,by omega,by go_num,fun j K=>by
       by_cases e:j=k
       ·subst e;exact s.out
       ·exact u.out j (by omega),zr a _⟩
      case measure=>simp[intOf];omega
    ·have Q:(p.A k == cl)=false:=by simpa using g1
     have s:Hid (¬ zbM p n S cl q k):=fun h=>g1 h.1
     clear g1;go_wp2;go_roundw
     case rel=>exact⟨k+1,by omega,by go_num,fun j K=>by
      by_cases e:j=k
      ·subst e;exact s.out
      ·exact u.out j (by omega),zr a _⟩
     case measure=>simp[intOf];omega
   ·obtain rfl:k=m:=by omega
    go_wp2;go_ret;exact⟨⟨_,rfl,.inr ⟨rfl,.inr (fun j h=>u.out j (by have:=h.1;rw[x.out] at this;exact this) h.2.1)⟩⟩,zj f a⟩
theorem zhc (O P:Option Addr)(m mc n c:Nat)(p:qi)(S:Nat->ZF)(cl q:Int)(w:World)(hl:p.n=m)(hd:QL p n S)(hx:qd w O p)(hz:Zm w P n S) :
  Calls Tryz.prog 142 #[.slice O m mc,.slice P n c,int i64 cl,int i64 q] w fun e w'=>(∃ r:Int,e=.returned (int i64 r)/\RIx n p.n (zbt p n S cl q) r)/\Below w.heap.size w w':=by
 have B:=hI hl;have Z:=hI hd;have N:=hI hx;have HZ:=hI hz;have a0:m<=6:=by rw[← hl];exact hd.1.1
 have J:n<=60:=hd.2.1;clear hl hd hx hz
 by_cases h60:n=60
 ·have T:(n == 60)=true:=by simpa using h60
  have U:((n:Int) == 60)=true:=by simp;omega
  have u:=hI h60;clear h60;go_enter Tryz.func142,Tryz.ntmps142;go_wp2;go_ret;exact⟨⟨_,rfl,.inr ⟨rfl,.inl u.out⟩⟩,bZ⟩
 ·have T:(n == 60)=false:=by simpa using h60
  have U:((n:Int) == 60)=false:=by simp;omega
  have u:=hI h60;clear h60;go_enter Tryz.func142,Tryz.ntmps142;go_wp2_with fail;refine(zcp O P m mc n c p S _ B.out Z.out.1 J Z.out.manys N.out HZ.out).mono ?_;rintro e w1 ⟨⟨v,rfl,s⟩,y⟩;obtain⟨aw,cw,rfl,_⟩:=zt s;have HI:=hI (own_ints s);clear s;go_wp2;go_loopw [10,12,23] (fun v _ i wr=>∃ (k:Nat) (L:Bool),k<=m/\i=int i64 k/\v=.bool L/\(L=true↔∃ j,j<k/\p.A j=cl/\q<=p.B j)/\Below w1.heap.size w1 wr) (fun _ _ i _=>m - (intOf i).toNat)
  case atStart=>exact⟨0,false,Nat.zero_le _,rfl,rfl,⟨fun h=>(by cases h),fun ⟨j,D,_⟩=>(by omega)⟩,bZ⟩
  case round =>
   obtain⟨k,L,hk,rfl,rfl,hL,a⟩:=hrel;have l:=hI hL;clear hL
   by_cases hlt:k<m
   ·obtain⟨b,off,rfl,C,H⟩:=N.out k (by rw[B.out];exact hlt)
    have I:=World.block_lt_of_cell? w _ C;have c1:=((zj y a).cell (p:=⟨b,off+k*2,none⟩) I).trans C;have c2:=((zj y a).cell (p:=⟨b,off+k*2+1,none⟩) I).trans H;clear C H
    cases L with
    | true =>
     go_wp2;go_roundw
     case rel=>exact⟨k+1,true,by omega,by go_num,rfl,⟨fun _=>(by obtain⟨j,D,h⟩:=l.out.1 rfl;exact⟨j,by omega,h⟩),fun _=>rfl⟩,zr a _⟩
     case measure=>simp[intOf];omega
    | false =>
     have HN:Hid (¬ ∃ j,j<k/\p.A j=cl/\q<=p.B j):=fun h=>by have:=l.out.2 h;cases this
     clear l
     by_cases g1:p.A k=cl
     ·have Q:(p.A k == cl)=true:=by simpa using g1
      by_cases g2:q<=p.B k
      ·have R:decide (q<=p.B k)=true:=decide_eq_true g2
       have F:Hid (p.A k=cl/\q<=p.B k):=⟨g1,g2⟩;clear g1 g2;go_wp2;go_roundw
       case rel=>exact⟨k+1,true,by omega,by go_num,rfl,⟨fun _=>⟨k,by omega,F.out⟩,fun _=>rfl⟩,zr a _⟩
       case measure=>simp[intOf];omega
      ·have R:decide (q<=p.B k)=false:=decide_eq_false g2
       have F:Hid (¬ (p.A k=cl/\q<=p.B k)):=fun h=>g2 h.2
       clear g1 g2;go_wp2;go_roundw
       case rel=>exact⟨k+1,false,by omega,by go_num,rfl,⟨fun h=>(by cases h),fun ⟨j,D,h⟩=>by
        by_cases e:j=k
        ·subst e;exact absurd h F.out
        ·exact absurd ⟨j,by omega,h⟩ HN.out⟩,zr a _⟩
       case measure=>simp[intOf];omega
     ·have Q:(p.A k == cl)=false:=by simpa using g1
      have F:Hid (¬ (p.A k=cl/\q<=p.B k)):=fun h=>g1 h.1
      clear g1;go_wp2;go_roundw
      case rel=>exact⟨k+1,false,by omega,by go_num,rfl,⟨fun h=>(by cases h),fun ⟨j,D,h⟩=>by
       by_cases e:j=k
       ·subst e;exact absurd h F.out
       ·exact absurd ⟨j,by omega,h⟩ HN.out⟩,zr a _⟩
      case measure=>simp[intOf];omega
   ·obtain rfl:k=m:=by omega
    have G:Hid (L=true↔∃ j,j<p.n/\p.A j=cl/\q<=p.B j):=by rw[B.out];exact l.out
    have M:=hI (HI.out.below a);have o:=zj y a;clear l HI y a;generalize wr=Y at *;go_wp2;go_loopw [13,14,43] (fun _ _ i wr=>∃ t:Nat,t<=k/\i=int i64 t/\(∀ j:Nat,j<t->¬ zbt p n S cl q j)/\Below Y.heap.size Y wr) (fun _ _ i _=>k - (intOf i).toNat)
    case atStart=>exact⟨0,Nat.zero_le _,rfl,fun j D=>by omega,bZ⟩
    case round =>
     obtain⟨t,ht,rfl,z,a⟩:=hrel;have E:=hI z;clear z
     by_cases hlt2:t<k
     ·obtain⟨b,off,rfl,C,H⟩:=N.out t (by rw[B.out];exact hlt2)
      have I:=World.block_lt_of_cell? w _ C;have c1:=((zj o a).cell (p:=⟨b,off+t*2,none⟩) I).trans C;have c2:=((zj o a).cell (p:=⟨b,off+t*2+1,none⟩) I).trans H;obtain⟨b3,A,rfl,V⟩:=M.out t hlt2;have X:=World.block_lt_of_cell? Y _ V;have d:=heap_alloc_new wr (.cells #[int i64 (p.A t),int i64 (p.B t)] 110);have f:=zr a (.cells #[int i64 (p.A t),int i64 (p.B t)] 110);clear C H;go_upto_region 13 with fail;generalize hW:wr.alloc (.cells #[int i64 (p.A t),int i64 (p.B t)] 110)=W at d f ⊢;clear hW;have K:wr.heap.size<W.heap.size:=zZ d;have z0:∀ g:qe W,g.val.cell? ⟨wr.heap.size,0,none⟩=some (int i64 (p.A t)):=fun g=>(g.bel.cell K).trans (za d 0 _ rfl)
      have z1:∀ g:qe W,g.val.cell? ⟨wr.heap.size,1,none⟩=some (int i64 (p.B t)):=fun g=>(g.bel.cell K).trans (za d 1 _ rfl)
      have y3:∀ g:qe W,g.val.cell? ⟨b3,A+t,none⟩=some (int i64 (qW p S n t)):=fun g=>((zj f g.bel).cell (p:=⟨b3,A+t,none⟩) X).trans V
      have i1:(0:Int)<=(t:Int):=by omega
      have i2:(t:Int)<(k:Int):=by omega
      clear c1 c2 d a V
      by_cases g1:p.A t=cl
      ·have Q:(p.A t == cl)=true:=by simpa using g1
       by_cases g2:qW p S n t=p.B t
       ·have R:(qW p S n t == p.B t)=true:=by simpa using g2
        by_cases g3:q<=p.B t
        ·have e3:decide (q<=p.B t)=true:=decide_eq_true g3
         have x:Hid (zaC p.n (zbt p n S cl q) t):=⟨by rw[B.out];exact hlt2,⟨g1,g2,.inl g3⟩,E.out⟩
         clear g1 g2 g3;refine zp (by kernel_rfl) (by kernel_rfl) ?_
         repeat(first|go_big_quiet_skip|(go_big_quiet_want;go_big_quiet_op;go_big_quiet_on))
         refine wpQuiet_nil ?_;rintro _ ⟨g,rfl⟩;go_wp2;go_ret;exact⟨⟨_,rfl,.inl ⟨t,rfl,u.out,x.out⟩⟩,zj o (zj f g.bel)⟩
        ·have e3:decide (q<=p.B t)=false:=decide_eq_false g3
         cases L with
         | false =>
          have x:Hid (zaC p.n (zbt p n S cl q) t):=⟨by rw[B.out];exact hlt2,⟨g1,g2,.inr (fun h=>by have:=G.out.2 h;cases this)⟩,E.out⟩
          clear g1 g2 g3;refine zp (by kernel_rfl) (by kernel_rfl) ?_
          repeat(first|go_big_quiet_skip|(go_big_quiet_want;go_big_quiet_op;go_big_quiet_on))
          refine wpQuiet_nil ?_;rintro _ ⟨g,rfl⟩;go_wp2;go_ret;exact⟨⟨_,rfl,.inl ⟨t,rfl,u.out,x.out⟩⟩,zj o (zj f g.bel)⟩
         | true =>
          have x:Hid (¬ zbt p n S cl q t):=fun h=>by
           rcases h.2.2 with h|h
           ·exact g3 h
           ·exact h (G.out.1 rfl)
          clear g1 g2 g3;refine zp (by kernel_rfl) (by kernel_rfl) ?_
          repeat(first|go_big_quiet_skip|(go_big_quiet_want;go_big_quiet_op;go_big_quiet_on))
          refine wpQuiet_nil ?_;rintro _ ⟨g,rfl⟩;go_wp2;go_roundw
          case rel=>exact⟨t+1,by omega,by go_num,fun j D=>by
           by_cases e:j=t
           ·subst e;exact x.out
           ·exact E.out j (by omega),zj f g.bel⟩
          case measure=>simp[intOf];omega
       ·have R:(qW p S n t == p.B t)=false:=by simpa using g2
        have x:Hid (¬ zbt p n S cl q t):=fun h=>g2 h.2.1
        clear g1 g2;refine zp (by kernel_rfl) (by kernel_rfl) ?_
        repeat(first|go_big_quiet_skip|(go_big_quiet_want;go_big_quiet_op;go_big_quiet_on))
        refine wpQuiet_nil ?_;rintro _ ⟨g,rfl⟩;go_wp2;go_roundw
        case rel=>exact⟨t+1,by omega,by go_num,fun j D=>by
         by_cases e:j=t
         ·subst e;exact x.out
         ·exact E.out j (by omega),zj f g.bel⟩
        case measure=>simp[intOf];omega
      ·have Q:(p.A t == cl)=false:=by simpa using g1
       have x:Hid (¬ zbt p n S cl q t):=fun h=>g1 h.1
       clear g1;refine zp (by kernel_rfl) (by kernel_rfl) ?_
       repeat(first|go_big_quiet_skip|(go_big_quiet_want;go_big_quiet_op;go_big_quiet_on))
       refine wpQuiet_nil ?_;rintro _ ⟨g,rfl⟩;go_wp2;go_roundw
       case rel=>exact⟨t+1,by omega,by go_num,fun j D=>by
        by_cases e:j=t
        ·subst e;exact x.out
        ·exact E.out j (by omega),zj f g.bel⟩
       case measure=>simp[intOf];omega
     ·obtain rfl:t=k:=by omega
      go_wp2;go_ret;exact⟨⟨_,rfl,.inr ⟨rfl,.inr (fun j h=>E.out j (by have:=h.1;rw[B.out] at this;exact this) h.2.1)⟩⟩,zj o a⟩
def zbB (b:ZK)(y:OpD):Prop:=¬ zee b∨(y.kind=4/\b.state≠1)∨(y.kind=8/\(b.state≠1∨y.now<=b.unt))
def zcr (R m:Nat)(x:Off)(y:OpD)(code:Int):Prop:=(R<=m->code=3)/\(m<R->zbB (x.bk m) y->code=4)/\(m<R->¬ zbB (x.bk m) y->code=0)
theorem QZ (i g f r:Option Addr)(N M R n l j s m:Nat)(x:Off)(y:OpD)(w:World)(hR:R<=1048576)(d7:m<=1048576)(b5:y.name=(m:Int)+1)(Z:ZU w f R x.bk) :
  Calls Tryz.prog 137 #[.agg #[.slice i N n,.slice g M l,.slice f R j],.agg #[int i64 y.kind,.string y.own,int i64 y.name,.slice r y.lgn s,int i64 y.pe,int i64 y.len,int i64 y.hei,int i64 y.cl,.bool y.all,int i64 y.be,int i64 y.unt,int i64 y.now]] w fun e w'=>(∃ code:Int,e=.returned (int i64 code)/\zcr R m x y code)/\Below w.heap.size w w':=by
 have a5:=hI Z;clear Z;rw[b5];have a:Below w.heap.size w ((w.alloc (.cells #[.slice i N n,.slice g M l,.slice f R j] 66)).alloc (.cells #[int i64 y.kind,.string y.own,int i64 ((m:Int)+1),.slice r y.lgn s,int i64 y.pe,int i64 y.len,int i64 y.hei,int i64 y.cl,.bool y.all,int i64 y.be,int i64 y.unt,int i64 y.now] 27)):=zr (zr bZ _) _;have U:((w.alloc (.cells #[.slice i N n,.slice g M l,.slice f R j] 66)).alloc (.cells #[int i64 y.kind,.string y.own,int i64 ((m:Int)+1),.slice r y.lgn s,int i64 y.pe,int i64 y.len,int i64 y.hei,int i64 y.cl,.bool y.all,int i64 y.be,int i64 y.unt,int i64 y.now] 27)).heap[w.heap.size]?=some (.cells #[.slice i N n,.slice g M l,.slice f R j] 66 (0,0)):=ze (heap_alloc_new w _) _;have K:((w.alloc (.cells #[.slice i N n,.slice g M l,.slice f R j] 66)).alloc (.cells #[int i64 y.kind,.string y.own,int i64 ((m:Int)+1),.slice r y.lgn s,int i64 y.pe,int i64 y.len,int i64 y.hei,int i64 y.cl,.bool y.all,int i64 y.be,int i64 y.unt,int i64 y.now] 27)).heap[w.heap.size+1]?=some (.cells #[int i64 y.kind,.string y.own,int i64 ((m:Int)+1),.slice r y.lgn s,int i64 y.pe,int i64 y.len,int i64 y.hei,int i64 y.cl,.bool y.all,int i64 y.be,int i64 y.unt,int i64 y.now] 27 (0,0)):=by simpa using heap_alloc_new (w.alloc (.cells #[.slice i N n,.slice g M l,.slice f R j] 66)) _
 by_cases hlt:m<R
 case neg =>
  have HC:zcr R m x y 3:=⟨fun _=>rfl,fun h=>absurd h hlt,fun h=>absurd h hlt⟩
  have d0:decide ((R:Int)<(m:Int)+1)=true:=decide_eq_true (by omega)
  have d1:(R:Int)<(m:Int)+1:=by omega
  go_enter Tryz.func137,Tryz.ntmps137;go_upto_region 1 with fail;generalize (w.alloc (.cells #[.slice i N n,.slice g M l,.slice f R j] 66)).alloc (.cells #[int i64 y.kind,.string y.own,int i64 ((m:Int)+1),.slice r y.lgn s,int i64 y.pe,int i64 y.len,int i64 y.hei,int i64 y.cl,.bool y.all,int i64 y.be,int i64 y.unt,int i64 y.now] 27)=V at a U K ⊢;have f2:=za U 2 _ rfl;have o2:=za K 2 _ rfl;go_wp2;go_ret;exact⟨⟨3,rfl,HC⟩,a⟩
 obtain⟨Cc,a1,a0⟩:=a5.out;obtain⟨d,off,B,o⟩:=a1 m hlt;have Q:=hI B;clear B;obtain⟨u,t,G,g1,s1⟩:=a0 m hlt;obtain⟨b,H⟩:∃ b,b=x.bk m:=⟨_,rfl⟩;rw[← H] at G;have a3:=hI H.symm;rw[G] at o;have c:=World.block_lt_of_cell? w _ (o 0 (by decide))
 have d0:decide ((R:Int)<(m:Int)+1)=false:=decide_eq_false (by omega)
 have i0:(0:Int)<=(m:Int):=by omega
 have i1:(m:Int)<(R:Int):=by omega
 have b8:IntKind.i64.wrap ((m:Int)+1 - 1)=(m:Int):=by rw[IntKind.wrap_i64];omega
 have A:Hid (∀ q:Bool,(q=true↔zbB b y)->zcr R m x y (if q=true then (4:Int) else 0)):=fun q hq=>by
  unfold zcr;rw[a3.out];exact⟨fun h=>absurd hlt (by omega),fun _ h=>if_pos (hq.2 h),fun _ h=>if_neg (fun e=>h (hq.1 e))⟩
 go_enter Tryz.func137,Tryz.ntmps137;go_upto_region 1 with fail;generalize (w.alloc (.cells #[.slice i N n,.slice g M l,.slice f R j] 66)).alloc (.cells #[int i64 y.kind,.string y.own,int i64 ((m:Int)+1),.slice r y.lgn s,int i64 y.pe,int i64 y.len,int i64 y.hei,int i64 y.cl,.bool y.all,int i64 y.be,int i64 y.unt,int i64 y.now] 27)=V at a U K ⊢;have f2:=za U 2 _ rfl;rw[Q.out] at f2;have o2:=za K 2 _ rfl;have c0:V.cell? ⟨d,off+m*13,none⟩=some (int i64 b.name):=(a.cell (p:=⟨d,off+m*13,none⟩) c).trans (o 0 (by decide))
 have c1:V.cell? ⟨d,off+m*13+1,none⟩=some (int i64 b.who):=(a.cell (p:=⟨d,off+m*13+1,none⟩) c).trans (o 1 (by decide))
 have c2:V.cell? ⟨d,off+m*13+2,none⟩=some (.string b.own):=(a.cell (p:=⟨d,off+m*13+2,none⟩) c).trans (o 2 (by decide))
 have c3:V.cell? ⟨d,off+m*13+3,none⟩=some (.slice u b.lgn t):=(a.cell (p:=⟨d,off+m*13+3,none⟩) c).trans (o 3 (by decide))
 have c4:V.cell? ⟨d,off+m*13+4,none⟩=some (int i64 b.pe):=(a.cell (p:=⟨d,off+m*13+4,none⟩) c).trans (o 4 (by decide))
 have c5:V.cell? ⟨d,off+m*13+5,none⟩=some (int i64 b.len):=(a.cell (p:=⟨d,off+m*13+5,none⟩) c).trans (o 5 (by decide))
 have c6:V.cell? ⟨d,off+m*13+6,none⟩=some (int i64 b.hei):=(a.cell (p:=⟨d,off+m*13+6,none⟩) c).trans (o 6 (by decide))
 have c7:V.cell? ⟨d,off+m*13+7,none⟩=some (int i64 b.cl):=(a.cell (p:=⟨d,off+m*13+7,none⟩) c).trans (o 7 (by decide))
 have c8:V.cell? ⟨d,off+m*13+8,none⟩=some (.bool b.all):=(a.cell (p:=⟨d,off+m*13+8,none⟩) c).trans (o 8 (by decide))
 have c9:V.cell? ⟨d,off+m*13+9,none⟩=some (int i64 b.be):=(a.cell (p:=⟨d,off+m*13+9,none⟩) c).trans (o 9 (by decide))
 have a6:V.cell? ⟨d,off+m*13+10,none⟩=some (int i64 b.state):=(a.cell (p:=⟨d,off+m*13+10,none⟩) c).trans (o 10 (by decide))
 have a7:V.cell? ⟨d,off+m*13+11,none⟩=some (int i64 b.unt):=(a.cell (p:=⟨d,off+m*13+11,none⟩) c).trans (o 11 (by decide))
 have a8:V.cell? ⟨d,off+m*13+12,none⟩=some (int i64 b.price):=(a.cell (p:=⟨d,off+m*13+12,none⟩) c).trans (o 12 (by decide))
 have X:=heap_alloc_new V (.cells #[int i64 b.name,int i64 b.who,.string b.own,.slice u b.lgn t,int i64 b.pe,int i64 b.len,int i64 b.hei,int i64 b.cl,.bool b.all,int i64 b.be,int i64 b.state,int i64 b.unt,int i64 b.price] 131);have pX:Below V.heap.size V (V.alloc (.cells #[int i64 b.name,int i64 b.who,.string b.own,.slice u b.lgn t,int i64 b.pe,int i64 b.len,int i64 b.hei,int i64 b.cl,.bool b.all,int i64 b.be,int i64 b.state,int i64 b.unt,int i64 b.price] 131)):=zr bZ _;have D:=ze K (.cells #[int i64 b.name,int i64 b.who,.string b.own,.slice u b.lgn t,int i64 b.pe,int i64 b.len,int i64 b.hei,int i64 b.cl,.bool b.all,int i64 b.be,int i64 b.state,int i64 b.unt,int i64 b.price] 131);clear o G g1 s1 a1 a0 H;go_upto_region 4 with fail;have F:=zj a pX;generalize V.heap.size=xb at X ⊢;generalize V.alloc (.cells #[int i64 b.name,int i64 b.who,.string b.own,.slice u b.lgn t,int i64 b.pe,int i64 b.len,int i64 b.hei,int i64 b.cl,.bool b.all,int i64 b.be,int i64 b.state,int i64 b.unt,int i64 b.price] 131)=W at X pX D F ⊢;clear c0 c1 c2 c3 c4 c5 c6 c7 c8 c9 a6 a7 a8 f2 o2 U K a pX i0 i1 b8 d0;obtain⟨y0,y1,y2,y3,y4,y5,y6,y7,y8,y9,b9,d5,d6⟩:=ce13 X;obtain⟨v,I⟩:∃ v:Bool,v=(b.state == 1):=⟨_,rfl⟩;have b6:(b.state == 1)=v:=I.symm;have T:Hid (v=true↔b.state=1):=by rw[I];exact beq_iff_eq
 clear I;obtain⟨C,J⟩:∃ C:Bool,C=decide (zee b):=⟨_,rfl⟩;have S:Hid (C=true↔zee b):=by rw[J];exact decide_eq_true_iff
 have cl:=zcq b u t W;rw[← J] at cl;clear J;go_wp2_with fail;refine cl.mono ?_;clear cl;rintro e w4 ⟨rfl,z⟩;have Y:=zc X z;have E:=zc D z;have a2:=hI (zj F z);clear y0 y1 y2 y3 y4 y5 y6 y7 y8 y9 b9 d5 d6 X D F z b6;have d9:=za Y 11 _ rfl;have o0:=za E 0 _ rfl;have d8:=za E 11 _ rfl;obtain⟨L,a9⟩:∃ k:Bool,(y.kind == 4)=k:=⟨_,rfl⟩;obtain⟨O,b0⟩:∃ k:Bool,(y.kind == 8)=k:=⟨_,rfl⟩;obtain⟨P,b7⟩:∃ k:Bool,decide (y.now<=b.unt)=k:=⟨_,rfl⟩;have HQ:Hid ((!C || (L && !v) || (O && (!v || P)))=true↔zbB b y):=by
  show(!C || (L && !v) || (O && (!v || P)))=true↔zbB b y
  have e4:L=true↔y.kind=4:=by rw[← a9];exact beq_iff_eq
  have e8:O=true↔y.kind=8:=by rw[← b0];exact beq_iff_eq
  have eu:P=true↔y.now<=b.unt:=by rw[← b7];exact decide_eq_true_iff
  have el:=S.out;have es:=T.out;unfold zbB;rw[← el,← e4,← e8,← eu,Ne,← es]
  cases C <;> cases L <;> cases O <;> cases v <;> cases P <;> simp
 clear Y E S T;have HX:Hid (zcr R m x y (if (!C || (L && !v) || (O && (!v || P)))=true then (4:Int) else 0)):=A.out _ HQ.out
 clear HQ A
 cases C <;> cases L <;> cases O <;> cases v <;> cases P
 all_goals
  go_wp2;go_ret;exact⟨⟨_,rfl,HX.out⟩,a2.out⟩
section
open Go.RowKit
theorem zaE (L:Nat->qT)(k:Nat)(x:qT):zfC L k x k=x:=if_pos rfl
theorem zaF (L:Nat->qT)(k:Nat)(x:qT){j:Nat}(h:j≠k):zfC L k x j=L j:=if_neg h
theorem setL_same (L:Nat->qT)(k:Nat):zfC L k (L k)=L:=by
 funext j
 unfold zfC
 by_cases c:j=k
 ·subst c;rw[if_pos rfl]
 ·rw[if_neg c]
theorem FarV.put {A:Nat->Value}{N k lim:Nat}{a:Value}(h:FarV N A)(f:∀ i,i<N->∀ b,(A i).ownBlock=some b->b<lim)(g:∀ b,a.ownBlock=some b->lim<=b):FarV N (atV A k a):=fun i j l m e b d c=>by
 by_cases ei:i=k
 ·subst ei
  rw[atV_at] at d;rw[atV_ne _ _ _ _ (fun h=>e h.symm)] at c
  have:=f j m b c;have:=g b d
  omega
 ·rw[atV_ne _ _ _ _ ei] at d
  by_cases ej:j=k
  ·subst ej
   rw[atV_at] at c;have:=f i l b d;have:=g b c
   omega
  ·rw[atV_ne _ _ _ _ ej] at c
   exact h i j l m e b d c
section
variable {w w' : World} {base g c k N n lim : Nat} {S : Nat -> qT} {A B C : Nat -> Value} {u : Value}
theorem zid (h:w.ownsRow base 136 3 (.slice (some ⟨g,0,none⟩) N c) N (zbx A B C N)):(w.setCell ⟨g,k*3+0,none⟩ u).ownsRow base 136 3 (.slice (some ⟨g,0,none⟩) N c) N (zbx (atV A k u) B C N):=by
 refine own_congr (own_store h (k*3+0) u) (fun j hj=>?_)
 by_cases h2:j=k*3+0
 ·subst h2
  rw[if_pos rfl,zM 3 _ k 0 (by decide)]
  unfold ldC;rw[atV_at]
  rfl
 ·rw[if_neg h2]
  unfold recCell ldC
  by_cases e:j / 3=k
  ·have a:j % 3=1∨j % 3=2:=by omega
   rcases a with a|a <;> rw[a] <;> rfl
  ·rw[atV_ne _ _ _ _ e]
theorem zie (h:w.ownsRow base 136 3 (.slice (some ⟨g,0,none⟩) N c) N (zbx A B C N)):(w.setCell ⟨g,k*3+1,none⟩ u).ownsRow base 136 3 (.slice (some ⟨g,0,none⟩) N c) N (zbx A (atV B k u) C N):=by
 refine own_congr (own_store h (k*3+1) u) (fun j hj=>?_)
 by_cases h2:j=k*3+1
 ·subst h2
  rw[if_pos rfl,zM 3 _ k 1 (by decide)]
  unfold ldC;rw[atV_at]
  rfl
 ·rw[if_neg h2]
  unfold recCell ldC
  by_cases e:j / 3=k
  ·have a:j % 3=0∨j % 3=2:=by omega
   rcases a with a|a <;> rw[a] <;> rfl
  ·rw[atV_ne _ _ _ _ e]
theorem zif (h:w.ownsRow base 136 3 (.slice (some ⟨g,0,none⟩) N c) N (zbx A B C N)):(w.setCell ⟨g,k*3+2,none⟩ u).ownsRow base 136 3 (.slice (some ⟨g,0,none⟩) N c) N (zbx A B (atV C k u) N):=by
 refine own_congr (own_store h (k*3+2) u) (fun j hj=>?_)
 by_cases h2:j=k*3+2
 ·subst h2
  rw[if_pos rfl,zM 3 _ k 2 (by decide)]
  unfold ldC;rw[atV_at]
  rfl
 ·rw[if_neg h2]
  unfold recCell ldC
  by_cases e:j / 3=k
  ·have a:j % 3=0∨j % 3=1:=by omega
   rcases a with a|a <;> rw[a] <;> rfl
  ·rw[atV_ne _ _ _ _ e]
theorem Zb.putSt {T:Nat->ZX}(h:Zb w base (.slice (some ⟨g,0,none⟩) N c) N S A B C)(f:∀ i,i<N->∀ b,(A i).ownBlock=some b->b<lim)(hl:w.ownsRow lim 186 4 u n (zX T n))(j:base<=lim) :
  Zb (w.setCell ⟨g,k*3+0,none⟩ u) base (.slice (some ⟨g,0,none⟩) N c) N (zfC S k { S k with stn:=n,st:=T }) (atV A k u) B C:=by
 have r:zA w (w.setCell ⟨g,k*3+0,none⟩ u) (fun x=>x=g):=(zA.refl w (fun x=>x=g)).set (a:=⟨g,k*3+0,none⟩) rfl _
 have far:∀ {t sz n:Nat} {v:Value} {p:List Value},w.ownsRow base t sz v n p->136≠t->(w.setCell ⟨g,k*3+0,none⟩ u).ownsRow base t sz v n p:=fun o s=>r.own o (fun q l m=>own_apart h.row o s q (by rw[m];rfl) l)
 refine⟨zid h.row,fun i d=>?_,fun i d=>?_,fun i d=>?_,h.far.1.put f (fun b e=>(hl.lt b e).1),h.far.2.1,h.far.2.2⟩
 ·by_cases e:i=k
  ·subst e;rw[atV_at,zaE];exact far (zE hl j) (by decide)
  ·rw[atV_ne _ _ _ _ e,zaF _ _ _ e];exact far (h.st i d) (by decide)
 ·by_cases e:i=k
  ·subst e;rw[zaE];exact far (h.ro i d) (by decide)
  ·rw[zaF _ _ _ e];exact far (h.ro i d) (by decide)
 ·by_cases e:i=k
  ·subst e;rw[zaE];exact far (h.se i d) (by decide)
  ·rw[zaF _ _ _ e];exact far (h.se i d) (by decide)
theorem Zb.putRo {T:Nat->ZF}(h:Zb w base (.slice (some ⟨g,0,none⟩) N c) N S A B C)(f:∀ i,i<N->∀ b,(B i).ownBlock=some b->b<lim)(hl:w.ownsRow lim 190 4 u n (zQ T n))(j:base<=lim) :
  Zb (w.setCell ⟨g,k*3+1,none⟩ u) base (.slice (some ⟨g,0,none⟩) N c) N (zfC S k { S k with ron:=n,ro:=T }) A (atV B k u) C:=by
 have r:zA w (w.setCell ⟨g,k*3+1,none⟩ u) (fun x=>x=g):=(zA.refl w (fun x=>x=g)).set (a:=⟨g,k*3+1,none⟩) rfl _
 have far:∀ {t sz n:Nat} {v:Value} {p:List Value},w.ownsRow base t sz v n p->136≠t->(w.setCell ⟨g,k*3+1,none⟩ u).ownsRow base t sz v n p:=fun o s=>r.own o (fun q l m=>own_apart h.row o s q (by rw[m];rfl) l)
 refine⟨zie h.row,fun i d=>?_,fun i d=>?_,fun i d=>?_,h.far.1,h.far.2.1.put f (fun b e=>(hl.lt b e).1),h.far.2.2⟩
 ·by_cases e:i=k
  ·subst e;rw[zaE];exact far (h.st i d) (by decide)
  ·rw[zaF _ _ _ e];exact far (h.st i d) (by decide)
 ·by_cases e:i=k
  ·subst e;rw[atV_at,zaE];exact far (zE hl j) (by decide)
  ·rw[atV_ne _ _ _ _ e,zaF _ _ _ e];exact far (h.ro i d) (by decide)
 ·by_cases e:i=k
  ·subst e;rw[zaE];exact far (h.se i d) (by decide)
  ·rw[zaF _ _ _ e];exact far (h.se i d) (by decide)
theorem Zb.putSe {T:Nat->zaf}(h:Zb w base (.slice (some ⟨g,0,none⟩) N c) N S A B C)(f:∀ i,i<N->∀ b,(C i).ownBlock=some b->b<lim)(hl:w.ownsRow lim 138 2 u n (zW T n))(j:base<=lim) :
  Zb (w.setCell ⟨g,k*3+2,none⟩ u) base (.slice (some ⟨g,0,none⟩) N c) N (zfC S k { S k with sen:=n,se:=T }) A B (atV C k u):=by
 have r:zA w (w.setCell ⟨g,k*3+2,none⟩ u) (fun x=>x=g):=(zA.refl w (fun x=>x=g)).set (a:=⟨g,k*3+2,none⟩) rfl _
 have far:∀ {t sz n:Nat} {v:Value} {p:List Value},w.ownsRow base t sz v n p->136≠t->(w.setCell ⟨g,k*3+2,none⟩ u).ownsRow base t sz v n p:=fun o s=>r.own o (fun q l m=>own_apart h.row o s q (by rw[m];rfl) l)
 refine⟨zif h.row,fun i d=>?_,fun i d=>?_,fun i d=>?_,h.far.1,h.far.2.1,h.far.2.2.put f (fun b e=>(hl.lt b e).1)⟩
 ·by_cases e:i=k
  ·subst e;rw[zaE];exact far (h.st i d) (by decide)
  ·rw[zaF _ _ _ e];exact far (h.st i d) (by decide)
 ·by_cases e:i=k
  ·subst e;rw[zaE];exact far (h.ro i d) (by decide)
  ·rw[zaF _ _ _ e];exact far (h.ro i d) (by decide)
 ·by_cases e:i=k
  ·subst e;rw[atV_at,zaE];exact far (zE hl j) (by decide)
  ·rw[atV_ne _ _ _ _ e,zaF _ _ _ e];exact far (h.se i d) (by decide)
end
section
variable {w w' : World} {base g c k lim n n1 n2 n3 : Nat} {v1 v3 u : Value} {x : Off} {L C A B D E : Nat -> Value}
theorem zV.putSt {T:Nat->ZX}(h:zV w base v1 (.slice (some ⟨g,0,none⟩) n2 c) v3 n1 n2 n3 x L C A B D E)(d:∀ i,i<n2->∀ b,(A i).ownBlock=some b->b<lim)(hl:w.ownsRow lim 186 4 u n (zX T n))(j:base<=lim) :
  zV (w.setCell ⟨g,k*3+0,none⟩ u) base v1 (.slice (some ⟨g,0,none⟩) n2 c) v3 n1 n2 n3 { x with ld:=zfC x.ld k { x.ld k with stn:=n,st:=T } } L C (atV A k u) B D E:=by
 have l:zA w (w.setCell ⟨g,k*3+0,none⟩ u) (fun x=>x=g):=(zA.refl w (fun x=>x=g)).set (a:=⟨g,k*3+0,none⟩) rfl _
 exact⟨h.sa.other l (fun q e=>by obtain⟨cs,f⟩:=zT h.ld.row q (by rw[show q=g from e];rfl);exact⟨cs,_,f,by decide,by decide,by decide⟩),h.ld.putSt d hl j,h.bk.other l (fun q e=>by obtain⟨cs,f⟩:=zT h.ld.row q (by rw[show q=g from e];rfl);exact⟨cs,_,f,by decide,by decide⟩)⟩
theorem zV.putRo {T:Nat->ZF}(h:zV w base v1 (.slice (some ⟨g,0,none⟩) n2 c) v3 n1 n2 n3 x L C A B D E)(d:∀ i,i<n2->∀ b,(B i).ownBlock=some b->b<lim)(hl:w.ownsRow lim 190 4 u n (zQ T n))(j:base<=lim) :
  zV (w.setCell ⟨g,k*3+1,none⟩ u) base v1 (.slice (some ⟨g,0,none⟩) n2 c) v3 n1 n2 n3 { x with ld:=zfC x.ld k { x.ld k with ron:=n,ro:=T } } L C A (atV B k u) D E:=by
 have l:zA w (w.setCell ⟨g,k*3+1,none⟩ u) (fun x=>x=g):=(zA.refl w (fun x=>x=g)).set (a:=⟨g,k*3+1,none⟩) rfl _
 exact⟨h.sa.other l (fun q e=>by obtain⟨cs,f⟩:=zT h.ld.row q (by rw[show q=g from e];rfl);exact⟨cs,_,f,by decide,by decide,by decide⟩),h.ld.putRo d hl j,h.bk.other l (fun q e=>by obtain⟨cs,f⟩:=zT h.ld.row q (by rw[show q=g from e];rfl);exact⟨cs,_,f,by decide,by decide⟩)⟩
theorem zV.putSe {T:Nat->zaf}(h:zV w base v1 (.slice (some ⟨g,0,none⟩) n2 c) v3 n1 n2 n3 x L C A B D E)(d:∀ i,i<n2->∀ b,(D i).ownBlock=some b->b<lim)(hl:w.ownsRow lim 138 2 u n (zW T n))(j:base<=lim) :
  zV (w.setCell ⟨g,k*3+2,none⟩ u) base v1 (.slice (some ⟨g,0,none⟩) n2 c) v3 n1 n2 n3 { x with ld:=zfC x.ld k { x.ld k with sen:=n,se:=T } } L C A B (atV D k u) E:=by
 have l:zA w (w.setCell ⟨g,k*3+2,none⟩ u) (fun x=>x=g):=(zA.refl w (fun x=>x=g)).set (a:=⟨g,k*3+2,none⟩) rfl _
 exact⟨h.sa.other l (fun q e=>by obtain⟨cs,f⟩:=zT h.ld.row q (by rw[show q=g from e];rfl);exact⟨cs,_,f,by decide,by decide,by decide⟩),h.ld.putSe d hl j,h.bk.other l (fun q e=>by obtain⟨cs,f⟩:=zT h.ld.row q (by rw[show q=g from e];rfl);exact⟨cs,_,f,by decide,by decide⟩)⟩
end
end
end Go.Proofs.YtfallpinmhbemaaGreatDoor
