/-
  OWN TEXT: OffI, DopI, KitRg, SpecOp, SpecBk, SpecOff, SpecDop.
-/
import Derived.Deep.RegionHeld3
import Derived.Test.YtmdnjgihooflfaaGreatDoorKitCo
import Derived.Deep.DeepCutAuto
import Derived.Great.Walk
import Derived.Deep.LoopGhost
import Derived.Test.YtmdnjgihooflfaaGreatDoorB32
import Derived.Test.YtmdnjgihooflfaaGreatDoorB31
namespace Go.Proofs.YtmdnjgihooflfaaGreatDoor
open Go.RowKit
open Go.Value (int)
open Go.IntKind (i64)
open Tryz
set_option maxHeartbeats 64000000
set_option maxRecDepth 100000
theorem zjn (x:Off)(a5 a4:Option Addr)(c9 b9:Nat)(w:World)(hs:Off.Short x 1048576)(a6:qB w a5 x.san x.sa)(A:ZG w a4 x.ldn x.ld) :
  Calls prog 98 #[(a5,x.san,c9),(a4,x.ldn,b9)] w λe w'=>qX (x.ldn=x.san/\∀ k,k<x.san->qm (x.sa k) (x.ld k)) e/\Below w.heap.size w w':=by
 have b8:=hI a6;have b4:=hI A;have a1:=hI hs;have n1:=hs.1.1;clear a6 A hs
 by_cases g1:x.ldn=x.san
 case neg =>
  have e1:((x.ldn:Int) != (x.san:Int))=true:=by simp;omega
  have I:Hid (¬ (_/\∀ k,k<x.san->qm (x.sa k) (x.ld k))):=λh=>g1 h.1
  clear g1;go_enter func98,ntmps98;go_wp2;go_ret;exact⟨zl I,bZ⟩
 have e1:((x.ldn:Int) != (x.san:Int))=false:=by simp;omega
 have HE:=hI g1;clear g1;go_enter func98,ntmps98;go_wp2;clear e1;go_loopw [5,6,7,15] (λ_ _ _ i wr=>∃ k,k<=x.san/\i=int i64 k/\(∀ j,j<k->qm (x.sa j) (x.ld j))/\Below w.heap.size w wr) (λ_ _ _ i _=>x.san - (intOf i).toNat)
 case atStart=>exact⟨0,Jq _,rfl,λj hj=>by omega,bZ⟩
 case round =>
  obtain⟨k,hk,rfl,G,a⟩:=hrel;have HA:=hI G;clear G
  by_cases hlt:k<x.san
  ·obtain⟨U,so,la,lc,ca,cc,rfl,f0,f1,f2,f3,f4,f5,f6,f7,N,M,b1,b0⟩:=b8 k hlt
   obtain⟨s,Q⟩:∃ s,s=x.sa k:=⟨_,rfl⟩;have F:=a1.1.2 k hlt;rw[← Q] at f0 f1 f2 f3 f4 f5 f6 f7 N M b1 b0 F;have D:=hI Q;have m:=Ja w _ f0;have c0:=(a.cell m).trans f0;have c1:=(a.cell (p:=⟨U,_+1,_⟩) m).trans f1;have c2:=(a.cell (p:=⟨U,_+2,_⟩) m).trans f2;have c3:=(a.cell (p:=⟨U,_+3,_⟩) m).trans f3;have c4:=(a.cell (p:=⟨U,_+4,_⟩) m).trans f4;have c5:=(a.cell (p:=⟨U,_+5,_⟩) m).trans f5;have c6:=(a.cell (p:=⟨U,_+6,_⟩) m).trans f6;have c7:=(a.cell (p:=⟨U,_+7,_⟩) m).trans f7;obtain⟨C,hC,hI⟩:=b4;have E:k<x.ldn:=by have:=HE.out;omega
   obtain⟨lb,lo,rfl,hc⟩:=hC k E;obtain⟨l,A⟩:∃ l,l=x.ld k:=⟨_,rfl⟩;have O:=a1.2.1.2 k E;obtain⟨u,z,r,v,t,y,eC,S,Y,P,W,R,X⟩:=hI k E;rw[← A] at eC S Y P W R X O;have B:Hid _:=A;have T:lb<w.heap.size:=Ja w _ (hc 0 (by decide))
   have d0:∀ o,(wr.alloc o).cell? _=some (.slice u _ z):=λo=>((zk a o).cell (p:=⟨lb,lo+_,_⟩) T).trans (by have:=hc 0 (by decide);rw[eC] at this;exact this)
   have d1:∀ o,(wr.alloc o).cell? _=some (.slice r _ v):=λo=>((zk a o).cell T).trans (by have:=hc 1 (by decide);rw[eC] at this;exact this)
   have d2:∀ o,(wr.alloc o).cell? _=some (.slice t _ y):=λo=>((zk a o).cell T).trans (by have:=hc 2 (by decide);rw[eC] at this;exact this)
   have b3:=hI N;have b2:=hI M;have a3:Hid (_/\_):=⟨S,Y.1⟩;have Z:Hid (_/\_):=⟨P,W.1⟩;have a0:Hid (_/\_):=⟨R,X.1⟩;have H:=hI O;have a2:Hid (_/\_):=⟨F.2.2.1,F.2.2.2⟩;have h0:(0:Int)<=(k:Int):=by omega
   have h1:(k:Int)<(x.ldn:Int):=by omega
   clear hC hI hc eC Q A f0 f1 f2 f3 f4 f5 f6 f7 N M b1 b0 S Y P W R X O F E;have b:=zk (zk a (.cells (s,la,lc,ca,cc) 140)) (.cells #[(u,l.stn,z),(r,l.ron,v),(t,l.sen,y)] 145);have q:((wr.alloc _).alloc (.cells #[(u,l.stn,z),(r,l.ron,v),(t,l.sen,y)] 145)).heap[wr.heap.size]?=some (.cells (s,la,lc,ca,cc) 140 (0,0)):=zd (Jb wr _) _;have n:((wr.alloc (.cells (s,la,lc,ca,cc) 140)).alloc (.cells #[(u,l.stn,z),(r,l.ron,v),(t,l.sen,y)] 145)).heap[wr.heap.size+1]?=some (.cells #[(u,l.stn,z),(r,l.ron,v),(t,l.sen,y)] 145 (0,0)):=by simpa using Jb (wr.alloc _) _
   have y5:=za q 5 _ rfl;have m0:=za n 0 _ rfl;go_wp2_with fail;generalize hBx:wr.heap.size=Bx at q n y5 m0 ⊢;generalize (wr.alloc _).alloc _=V at b q n y5 m0 ⊢;clear hBx c0 c1 c2 c3 c4 c5 c6 c7 d0 d1 d2 y5 m0 a;refine(zkZ la u _ lc _ z _ _ _ rfl a2.1 H.1 a3.2 (b3.below b) (a3.1.below b)).mono ?_;rintro e V0 ⟨⟨t0,rfl,a7⟩,c⟩;have J:=hI a7;have g:=zb q c;have f:=zb n c;have d:=ze b c;clear q n b c a7;have q:=g;have n:=f;have b:=d;clear g f d
   cases t0 with
   | false =>
    have I:Hid (¬ (x.ldn=x.san/\∀ k,k<x.san->qm (x.sa k) (x.ld k))):=λh=>by have h:=h.2 k hlt;rw[← D.out,← B.out] at h;have:=J.2 ((QO _ _ _).1 h.1);cases this
    go_wp2;go_ret;exact⟨zl I,b⟩
   | true =>
   have b5:=hI (J.1 rfl);clear J;have y6:=za q 6 _ rfl;have m1:=za n 1 _ rfl;go_wp2_with fail;clear y6 m1;refine(zjm ca r _ cc _ v _ _ _ rfl a2.2 H.2.1 Z.2 (b2.below b) (Z.1.below b)).mono ?_;rintro e V1 ⟨⟨t1,rfl,a8⟩,c⟩;have K:=hI a8;have g:=zb q c;have f:=zb n c;have d:=ze b c;clear q n b c a8;have q:=g;have n:=f;have b:=d;clear g f d
   cases t1 with
   | false =>
    have I:Hid (¬ (x.ldn=x.san/\∀ k,k<x.san->qm (x.sa k) (x.ld k))):=λh=>by have h:=h.2 k hlt;rw[← D.out,← B.out] at h;have:=K.2 (h.2.1);cases this
    go_wp2;go_ret;exact⟨zl I,b⟩
   | true =>
   have b6:=hI (K.1 rfl);clear K;have m2:=za n 2 _ rfl;have y7:=za q 7 _ rfl;go_wp2_with fail;clear y7 m2;refine(zeG _ t _ y _ _ (by have:=H.2.2;omega) a0.2 (a0.1.below b)).mono ?_
   rintro e V2 ⟨⟨t2,rfl,a9⟩,c⟩;have L:=hI a9;have g:=zb q c;have f:=zb n c;have d:=ze b c;clear q n b c a9;have q:=g;have n:=f;have b:=d;clear g f d
   cases t2 with
   | false =>
    have I:Hid (¬ (x.ldn=x.san/\∀ k,k<x.san->qm (x.sa k) (x.ld k))):=λh=>by have h:=h.2 k hlt;rw[← D.out,← B.out] at h;have:=L.2 (h.2.2);cases this
    go_wp2;go_ret;exact⟨zl I,b⟩
   | true =>
   have b7:=hI (L.1 rfl);clear L;go_wp2;go_roundw
   case rel=>exact⟨k+1,by omega,by go_num,λj hj=>by
    by_cases e:j=k
    ·subst e;rw[← D.out,← B.out];exact⟨(QO _ _ _).2 b5,b6,b7⟩
    ·exact HA j (by omega),b⟩
   case measure=>simp[intOf];omega
  ·obtain rfl:k=x.san:=by omega
   go_wp2;go_ret;exact⟨zR ⟨HE,HA⟩,a⟩
theorem zgg {x:Off}{i:Nat}:Zt x i↔(x.bk i).name=i+1/\(In (x.bk i).who 1 9999/\¬ Has (zlk x.bk) i (x.bk i).who)/\zhH x.san x.sa (x.bk i):=by
 unfold Zt zhH
 constructor
 ·rintro⟨h1,h2,h3,a,b,c,d,h8,h9⟩
  exact⟨h1,⟨h2,λ⟨j,f,e⟩=>h8 j f e⟩,h3,a,b,c,h9,d⟩
 ·rintro⟨h1,⟨h2,h8⟩,h3,a,b,c,h9,d⟩
  exact⟨h1,h2,h3,a,b,c,d,λj f e=>h8 ⟨j,f,e⟩,h9⟩
theorem zfX (x:Off)(t I:Option Addr)(B n:Nat)(w:World)(X:Off.Short x 1048576)(hT:QJ x.san x.sa)(J:qB w t x.san x.sa)(V:qO w I x.bkn x.bk)(a1:x.bkn<=n) :
  Calls prog 99 #[(t,x.san,B),(I,x.bkn,n)] w λe w'=>qX (x.bkn<=30/\∀ i,i<x.bkn->Zt x i) e/\Below w.heap.size w w':=by
 have F:=hI J;have A:=hI X;have Z:=hI hT;have n1:=X.1.1;obtain⟨C,hC,hI⟩:=V;have L:=hI hC;have M:Hid _:=hI;clear J X hT hC hI
 by_cases g1:x.bkn<=30
 case neg =>
  have N:decide ((30:Int)<(x.bkn:Int))=true:=by simp;omega
  have z:Hid (¬ (_/\∀ i,i<x.bkn->Zt x i)):=λh=>g1 h.1
  clear g1;go_enter func99,ntmps99;go_wp2;go_ret;exact⟨zl z,bZ⟩
 have N:decide ((30:Int)<(x.bkn:Int))=false:=by simp;omega
 go_enter func99,ntmps99;go_wp2;clear N;go_loopw [5,6,12] (λ_ _ i wr=>∃ k,k<=x.bkn/\i=int i64 k/\(∀ j,j<k->Zt x j)/\Below w.heap.size w wr) (λ_ _ i _=>x.bkn - (intOf i).toNat)
 case atStart=>exact⟨0,Jq _,rfl,λj P=>by omega,bZ⟩
 case round =>
  obtain⟨k,hk,rfl,y,c⟩:=hrel;have Y:=hI y;clear y
  by_cases hlt:k<x.bkn
  ·obtain⟨bb,bo,rfl,q⟩:=L k hlt
   obtain⟨r,s,o,D,_⟩:=M k hlt;obtain⟨b,O⟩:∃ b,b=x.bk k:=⟨_,rfl⟩;rw[← O] at o D;have K:=hI O;have E:=hI D;have G:Hid (ql.Short b 1048576):=by rw[O];exact A.2.2.2 k hlt
   have d:bb<w.heap.size:=Ja w _ (q 0 (by decide))
   have c0:wr.cell? _=some (.int _ _):=(c.cell (p:=⟨bb,bo+_,_⟩) d).trans (by have:=q 0 (by decide);rw[o] at this;exact this)
   have c1:wr.cell? _=some (.int _ _):=(c.cell d).trans (by have:=q 1 (by decide);rw[o] at this;exact this)
   have c2:wr.cell? _=some (.string _):=(c.cell d).trans (by have:=q 2 (by decide);rw[o] at this;exact this)
   have c3:wr.cell? _=some (.slice r _ s):=(c.cell d).trans (by have:=q 3 (by decide);rw[o] at this;exact this)
   have c4:wr.cell? _=some (.int _ _):=(c.cell d).trans (by have:=q 4 (by decide);rw[o] at this;exact this)
   have c5:wr.cell? _=some (.int _ _):=(c.cell d).trans (by have:=q 5 (by decide);rw[o] at this;exact this)
   have c6:wr.cell? _=some (.int _ _):=(c.cell d).trans (by have:=q 6 (by decide);rw[o] at this;exact this)
   have c7:wr.cell? _=some (.int _ _):=(c.cell d).trans (by have:=q 7 (by decide);rw[o] at this;exact this)
   have c8:wr.cell? _=some (.bool _):=(c.cell d).trans (by have:=q 8 (by decide);rw[o] at this;exact this)
   have c9:wr.cell? _=some (.int _ _):=(c.cell d).trans (by have:=q 9 (by decide);rw[o] at this;exact this)
   have S:wr.cell? _=some (.int _ _):=(c.cell d).trans (by have:=q 10 (by decide);rw[o] at this;exact this)
   have T:wr.cell? _=some (.int _ _):=(c.cell d).trans (by have:=q 11 (by decide);rw[o] at this;exact this)
   have U:wr.cell? _=some (.int _ _):=(c.cell d).trans (by have:=q 12 (by decide);rw[o] at this;exact this)
   clear q o O D;have f:=zk c (.cells (b,r,s) 150);have a:=Jb wr (.cells (b,r,s) 150);go_upto_region 6 with fail;generalize hBx:wr.heap.size=Bx at a ⊢;generalize wr.alloc _=W at f a ⊢;clear hBx c0 c1 c2 c3 c4 c5 c6 c7 c8 c9 S T U;have l:=zM a;have z0:∀ g:zn W,g.val.cell? _=some (.int _ _):=λg=>(g.bel.cell l).trans (za a 0 _ rfl)
   have z1:∀ g:zn W,g.val.cell? _=some (.int _ _):=λg=>(g.bel.cell l).trans (za a 1 _ rfl)
   have z2:∀ g:zn W,g.val.cell? _=some (.string _):=λg=>(g.bel.cell l).trans (za a 2 _ rfl)
   have z3:∀ g:zn W,g.val.cell? _=some (.slice r _ s):=λg=>(g.bel.cell l).trans (za a 3 _ rfl)
   have z4:∀ g:zn W,g.val.cell? _=some (.int _ _):=λg=>(g.bel.cell l).trans (za a 4 _ rfl)
   have z5:∀ g:zn W,g.val.cell? _=some (.int _ _):=λg=>(g.bel.cell l).trans (za a 5 _ rfl)
   have z6:∀ g:zn W,g.val.cell? _=some (.int _ _):=λg=>(g.bel.cell l).trans (za a 6 _ rfl)
   have z7:∀ g:zn W,g.val.cell? _=some (.int _ _):=λg=>(g.bel.cell l).trans (za a 7 _ rfl)
   have z8:∀ g:zn W,g.val.cell? _=some (.bool _):=λg=>(g.bel.cell l).trans (za a 8 _ rfl)
   have z9:∀ g:zn W,g.val.cell? _=some (.int _ _):=λg=>(g.bel.cell l).trans (za a 9 _ rfl)
   have a5:∀ g:zn W,g.val.cell? _=some (.int _ _):=λg=>(g.bel.cell l).trans (za a 10 _ rfl)
   have a6:∀ g:zn W,g.val.cell? _=some (.int _ _):=λg=>(g.bel.cell l).trans (za a 11 _ rfl)
   have a7:∀ g:zn W,g.val.cell? _=some (.int _ _):=λg=>(g.bel.cell l).trans (za a 12 _ rfl)
   clear a;have a4:IntKind.i64.wrap ((k:Int)+1)=(k:Int)+1:=by rw[Jk];omega
   have a2:(0:Int)<=(k:Int):=by omega
   have a3:(k:Int)<=(n:Int):=by omega
   have a0:k<=n:=by omega
   by_cases p1:b.name=(k:Int)+1
   case neg =>
    have N:(b.name != (k:Int)+1)=true:=by simpa using p1
    have z:Hid (¬ (x.bkn<=30/\∀ i,i<x.bkn->_)):=λh=>p1 (by rw[K.out];exact(zgg.1 (h.2 k hlt)).1)
    clear p1;refine zh (by kernel_rfl) (by kernel_rfl) ?_
    repeat(first|go_big_quiet_skip|(go_big_quiet_want;go_big_quiet_op;first|go_big_quiet_on))
    refine Jl ?_;rintro _ ⟨g,rfl⟩;go_wp2;go_ret;exact⟨zl z,ze f g.bel⟩
   have N:(b.name != (k:Int)+1)=false:=by simpa using p1
   have P1:=hI p1;clear p1
   by_cases p2:In b.who 1 9999/\¬ Has (zlk x.bk) k b.who
   case neg =>
    have H:=hI p2;have z:Hid (¬ (x.bkn<=30/\∀ i,i<x.bkn->_)):=λh=>p2 (by rw[K.out];exact(zgg.1 (h.2 k hlt)).2.1)
    clear p2;refine zh (by kernel_rfl) (by kernel_rfl) ?_
    repeat(first|go_big_quiet_skip|(go_big_quiet_want;go_big_quiet_op;first|go_big_quiet_on|(apply Jg;refine⟨λg=>?_,?_⟩;(focus(go_at_call 50;refine zf (v:=.bool false) ((zcZ _ k n _ _ _ (by omega) ⟨C,(L.upto (by omega)).below (ze f g.bel),λj P=>(M j (by omega)).below (ze f g.bel)⟩).mono ?_);rintro e Q ⟨⟨bb,rfl,u⟩,m⟩;obtain rfl:=Bool.eq_false_iff.2 (λe=>H (u.1 e));exact⟨rfl,m⟩));go_big_quiet_on)))
    refine Jl ?_;rintro _ ⟨g,rfl⟩;go_wp2;go_ret;exact⟨zl z,ze f g.bel⟩
   have H:=hI p2;clear p2
   by_cases p3:zhH x.san x.sa b
   case neg =>
    have R:=hI p3;have z:Hid (¬ (x.bkn<=30/\∀ i,i<x.bkn->_)):=λh=>p3 (by rw[K.out];exact(zgg.1 (h.2 k hlt)).2.2)
    clear p3;refine zh (by kernel_rfl) (by kernel_rfl) ?_
    repeat(first|go_big_quiet_skip|(go_big_quiet_want;go_big_quiet_op;first|go_big_quiet_on|(apply Jg;refine⟨λg=>?_,?_⟩;(focus(go_at_call 50;refine zf (v:=.bool true) ((zcZ _ k n _ _ _ (by omega) ⟨C,(L.upto (by omega)).below (ze f g.bel),λj P=>(M j (by omega)).below (ze f g.bel)⟩).mono ?_);rintro e Q ⟨⟨bb,rfl,u⟩,m⟩;obtain rfl:=u.2 H;exact⟨rfl,m⟩));go_big_quiet_on)|(apply Jg;refine⟨λg=>?_,?_⟩;(focus(go_at_call 181;refine zf (v:=.bool false) ((zdB _ _ t B b r s _ n1 A.1.2 G Z (F.below (ze f g.bel)) (E.below (ze f g.bel))).mono ?_);rintro e Q ⟨⟨bb,rfl,u⟩,m⟩;obtain rfl:=Bool.eq_false_iff.2 (λe=>R (u.1 e));exact⟨rfl,m⟩));go_big_quiet_on)))
    refine Jl ?_;rintro _ ⟨g,rfl⟩;go_wp2;go_ret;exact⟨zl z,ze f g.bel⟩
   have R:=hI p3;have HK:=hI (zgg.2 (by rw[← K.out];exact⟨P1,H,p3⟩))
   clear p3;refine zh (by kernel_rfl) (by kernel_rfl) ?_
   repeat(first|go_big_quiet_skip|(go_big_quiet_want;go_big_quiet_op;first|go_big_quiet_on|(apply Jg;refine⟨λg=>?_,?_⟩;(focus(go_at_call 50;refine zf (v:=.bool true) ((zcZ _ k n _ _ _ (by omega) ⟨C,(L.upto (by omega)).below (ze f g.bel),λj P=>(M j (by omega)).below (ze f g.bel)⟩).mono ?_);rintro e Q ⟨⟨bb,rfl,u⟩,m⟩;obtain rfl:=u.2 H;exact⟨rfl,m⟩));go_big_quiet_on)|(apply Jg;refine⟨λg=>?_,?_⟩;(focus(go_at_call 181;refine zf (v:=.bool true) ((zdB _ _ t B b r s _ n1 A.1.2 G Z (F.below (ze f g.bel)) (E.below (ze f g.bel))).mono ?_);rintro e Q ⟨⟨bb,rfl,u⟩,m⟩;obtain rfl:=u.2 R;exact⟨rfl,m⟩));go_big_quiet_on)))
   refine Jl ?_;rintro _ ⟨g,rfl⟩;go_wp2;go_roundw
   case rel=>exact⟨k+1,by omega,by go_num,λj P=>by
    by_cases e:j=k
    ·subst e;exact HK
    ·exact Y j (by omega),ze f g.bel⟩
   case measure=>simp[intOf];omega
  ·obtain rfl:k=x.bkn:=by omega
   go_wp2;go_ret;exact⟨zR ⟨g1,Y⟩,c⟩
theorem zmm (x:Off)(z I q:Option Addr)(G F u:Nat)(w:World)(hs:Off.Short x 1048576)(d5:qB w z x.san x.sa)(A:ZG w I x.ldn x.ld)(d3:qO w q x.bkn x.bk)(g5:x.bkn<=u) :
  Calls prog 49 #[.agg #[(z,x.san,G),(I,x.ldn,F),(q,x.bkn,u)]] w λe w'=>qX (Zk x) e/\Below w.heap.size w w':=by
 have L:=hI d5;have b8:=hI A;have b5:=hI d3;have y:=hI hs;have n1:=hs.1.1;clear d5 A d3 hs;have f:Below _ w (w.alloc (.cells #[(z,x.san,G),(I,x.ldn,F),(q,x.bkn,u)] 38)):=zk bZ _;have o:=Jb w (.cells #[(z,x.san,G),(I,x.ldn,F),(q,x.bkn,u)] 38);go_enter func49,ntmps49;go_wp2_with fail;generalize w.alloc _=V at f o ⊢;refine(zhf z _ G _ _ n1 y.1.2 (L.below f)).mono ?_;rintro e V0 ⟨⟨t0,rfl,d6⟩,m⟩;have Z:=hI d6;have r:=zb o m;have g:=ze f m;clear o f m d6;have o:=r;have f:=g;clear r g;obtain⟨o0,o1,o2⟩:=ce3 o
 cases t0 with
 | false =>
  have W:Hid (¬ Zk x):=λh=>by have:=Z.2 (h.1);cases this
  go_wp2;go_ret;exact⟨zl W,f⟩
 | true =>
 have d0:=hI (Z.1 rfl);clear Z;go_wp2_with fail;clear o0 o1 o2;refine(zjn x z I G F _ y (L.below f) (b8.below f)).mono ?_;rintro e V1 ⟨⟨t1,rfl,d7⟩,m⟩;have a0:=hI d7;have r:=zb o m;have g:=ze f m;clear o f m d7;have o:=r;have f:=g;clear r g;obtain⟨o0,o1,o2⟩:=ce3 o
 cases t1 with
 | false =>
  have W:Hid (¬ Zk x):=λh=>by have:=a0.2 (⟨h.2.1,h.2.2.2.1⟩);cases this
  go_wp2;go_ret;exact⟨zl W,f⟩
 | true =>
 have K:=hI (a0.1 rfl);clear a0;go_wp2_with fail;clear o0 o1 o2;refine(zfX x z q G u _ y d0 (L.below f) (b5.below f) g5).mono ?_;rintro e V2 ⟨⟨t2,rfl,d8⟩,m⟩;have a1:=hI d8;have r:=zb o m;have g:=ze f m;clear o f m d8;have o:=r;have f:=g;clear r g;obtain⟨o0,o1,o2⟩:=ce3 o
 cases t2 with
 | false =>
  have W:Hid (¬ Zk x):=λh=>by have:=a1.2 (⟨h.2.2.1,h.2.2.2.2.1⟩);cases this
  go_wp2;go_ret;exact⟨zl W,f⟩
 | true =>
 have Y:=hI (a1.1 rfl);clear a1;go_wp2;clear o0 o1 o2;obtain⟨C,hC,hI⟩:=b5;have HC:=hI hC;have HI:Hid _:=hI;have e5:Hid _:=o;have U:Hid _:=f;clear hC hI o f;go_loopw [3,4,28] (λ_ _ i wr=>∃ k,k<=x.san/\i=int i64 k/\(∀ j,j<k->zaQ x j)/\Below V2.heap.size V2 wr) (λ_ _ i _=>x.san - (intOf i).toNat)
 case atStart=>exact⟨0,Jq _,rfl,λj hj=>by omega,bZ⟩
 case round =>
  obtain⟨k,hk,rfl,T,B⟩:=hrel;have HA:=hI T;clear T
  by_cases hlt:k<x.san
  ·have n:=ze U B
   obtain⟨sb,so,la,lc,ca,cc,rfl,f0,f1,f2,f3,f4,f5,f6,f7,d4,a8,e1,e0⟩:=L k hlt;obtain⟨s,O⟩:∃ s,s=x.sa k:=⟨_,rfl⟩;rw[← O] at f0 f1 f2 f3 f4 f5 f6 f7 d4 a8 e1 e0;have d1:=hI O;have v:=Ja w _ f0;have c0:=(n.cell v).trans f0;have c1:=(n.cell (p:=⟨sb,_+1,_⟩) v).trans f1;have c2:=(n.cell (p:=⟨sb,_+2,_⟩) v).trans f2;have c3:=(n.cell (p:=⟨sb,_+3,_⟩) v).trans f3;have c4:=(n.cell (p:=⟨sb,_+4,_⟩) v).trans f4;have c5:=(n.cell (p:=⟨sb,_+5,_⟩) v).trans f5;have c6:=(n.cell (p:=⟨sb,_+6,_⟩) v).trans f6;have c7:=(n.cell (p:=⟨sb,_+7,_⟩) v).trans f7;obtain⟨D,hD,hJ⟩:=b8;have N:k<x.ldn:=by have:=K.1;omega
   obtain⟨lb,lo,rfl,hc⟩:=hD k N;obtain⟨l,A⟩:∃ l,l=x.ld k:=⟨_,rfl⟩;have a9:=y.2.1.2 k N;obtain⟨a4,a7,a2,a5,a3,a6,eC,b3,e4,b1,e2,b2,e3⟩:=hJ k N;rw[← A] at eC b3 e4 b1 e2 b2 e3 a9;have b9:=hI A;have b4:lb<w.heap.size:=Ja w _ (hc 0 (by decide))
   have HD:Hid (∀ w',Below _ w w'->w'.cell? _=some (.slice a4 _ a7)/\w'.cell? _=some (.slice a2 _ a5)/\w'.cell? _=some (.slice a3 _ a6)):=λw' h =>
    ⟨(h.cell (p:=⟨lb,lo+_,_⟩) b4).trans (by have:=hc 0 (by decide);rw[eC] at this;exact this),(h.cell b4).trans (by have:=hc 1 (by decide);rw[eC] at this;exact this),(h.cell b4).trans (by have:=hc 2 (by decide);rw[eC] at this;exact this)⟩
   have e6:=hI a8;have f8:=hI b3;have e8:=hI b1;have e9:=hI b2;have e7:=hI a9;have b0:=K.2 k hlt;rw[← O,← A] at b0;have c9:=hI b0;have h0:(0:Int)<=(k:Int):=by omega
   have h1:(k:Int)<(x.ldn:Int):=by omega
   clear hD hJ hc eC O A f0 f1 f2 f3 f4 f5 f6 f7 d4 a8 e1 e0 b3 e4 b1 e2 b2 e3 a9 N b0;have M:=zk B (.cells (s,la,lc,ca,cc) 140);have E:=Jb wr (.cells (s,la,lc,ca,cc) 140);go_upto_region 6 with fail;generalize hBx:wr.heap.size=Q at E ⊢;generalize wr.alloc _=X at M E ⊢;clear hBx c0 c1 c2 c3 c4 c5 c6 c7 B n;have o:=zb e5 M;have d2:=ze U M;have BW:Hid (∀ w',_->Below _ w w'):=λw' h=>ze d2 h
   have KS:Hid (∀ w',Below _ X w'->(w'.cell? _=some (.int _ _)/\w'.cell? _=some (.string _)/\w'.cell? _=some (.string _)/\w'.cell? _=some (.int _ _)/\w'.cell? _=some (.int _ _)/\w'.cell? _=some (.slice la _ lc)/\w'.cell? _=some (.slice ca _ cc)/\w'.cell? _=some (.int _ _) /\
     w'.cell? _=some (.slice _ _ F)/\w'.cell? _=some (.slice q _ u) /\
     _/\_/\_)):=λw' h=>by
    have S:=zb E h;have g2:=zb o h;have g3:=HD w' (ze d2 h);exact⟨za S 0 _ rfl,za S 1 _ rfl,za S 2 _ rfl,za S 3 _ rfl,za S 4 _ rfl,za S 5 _ rfl,za S 6 _ rfl,za S 7 _ rfl,za g2 1 _ rfl,za g2 2 _ rfl,g3.1,g3.2.1,g3.2.2⟩
   obtain⟨P,hP⟩:∃ P,P=λi=>OnB (x.bk i) s.id:=⟨_,rfl⟩
   have b6:Hid (∀ w',_->Calls _ 101 _ w' λe w2=>(∃ R c,e=.returned (.slice R (onL P _).length c)/\w2.ownsRow _ 150 13 (.slice R (onL P _).length c) (onL P _).length (zgY C P _))/\_):=λw' h =>
    (zeg q _ u _ C s.id w' y.out.2.2.1 y.out.2.2.2 (HC.out.below h) (λj hj=>(HI.out j hj).below h)).mono λ_ _ ⟨⟨R,c,a,_,b⟩,d⟩=>by
     rw[hP];exact⟨⟨R,c,a,zu b h.size⟩,d⟩
   have b7:Hid (∀ w' R c,_->w'.ownsRow w.heap.size 150 13 (.slice R (onL P x.bkn).length c) (onL P x.bkn).length (zgY C P x.bkn)->Calls _ 100 _ w' λe w2=>qX _ e/\Below _ w' w2):=λw' R c h ho=>by
    have g7:zgV s l (onL P x.bkn).length (λj=>x.bk (onI P x.bkn j))↔zaQ x k:=by
     have:=just_iff (by rw[← d1.out,← b9.out];exact c9.out) (λi hi=>(Y.out.2 i hi).2.2.2.2.1)
     rw[hP,d1.out,b9.out];exact this
    refine(zjl s l _ _ _ la ca a4 a2 a3 R lc cc a7 a5 a6 c w' (Jp (onL_le P _) y.out.2.2.1) e7.out (zki c9.out.2.1) (e6.out.below h) (f8.out.below h) (e8.out.below h) (e9.out.below h) (QT.of_own ho) (λj hj=>(HI.out _ (zmJ P _ j hj).1).below h)).mono ?_
    rintro e w2 ⟨⟨b,rfl,hb⟩,hd⟩;exact⟨⟨b,rfl,by rw[hb,g7]⟩,hd⟩
   clear hP o E;go_cut [28,45] (λi c wx=>i=int i64 k/\zll (zaQ x k) c/\Below w.heap.size w wx/\Below V2.heap.size V2 wx)
   case first =>
    go_region_held3 (λw'=>w'.cell? (Q,0)=some (int i64 s.id)/\w'.cell? (Q,1)=some (.string s.fr)/\w'.cell? (Q,2)=some (.string s.dst)/\w'.cell? (Q,3)=some (int i64 s.dep)/\w'.cell? (Q,4)=some (int i64 s.arr)/\w'.cell? (Q,5)=some (la,s.la.n,lc)/\w'.cell? (Q,6)=some (ca,s.ca.n,cc)/\w'.cell? (Q,7)=some (int i64 s.most) /\
      w'.cell? (w.heap.size,1)=some (some (lb,lo),x.ldn,F)/\w'.cell? (w.heap.size,2)=some (q,x.bkn,u) /\
      w'.cell? (lb,lo+k*3)=some (a4,l.stn,a7)/\w'.cell? (lb,lo+k*3+1)=some (a2,l.ron,a5)/\w'.cell? (lb,lo+k*3+2)=some (a3,l.sen,a6))
     ((refine KS _ ?_;exact(by repeat(first|exact bZ|refine Jh ?_|refine ze ?_ J|refine ze ?_ H))))
     (first
      | (go_at_call 101;refine Jm (b6 _ (BW _ (by repeat(first | exact bZ | refine Jh ?_ | refine ze ?_ J | refine ze ?_ H)))) ?_;rintro e w4 ⟨⟨f9,c4,rfl,g6⟩,J⟩)
      | (go_at_call 100;refine Jm (b7 _ f9 c4 (BW _ (by repeat(first | exact bZ | refine Jh ?_ | refine ze ?_ J | refine ze ?_ H))) (zo (by repeat(first | exact bZ | refine Jh ?_ | refine ze ?_ H)) g6)) ?_;rintro e w5 ⟨⟨t5,rfl,d9⟩,H⟩))
    all_goals
     go_wp2;go_meet;refine⟨rfl,?_,BW _ (by repeat(first|exact bZ|refine Jh ?_|refine ze ?_ J|refine ze ?_ H)),ze M (by repeat(first|exact bZ|refine Jh ?_|refine ze ?_ J|refine ze ?_ H))⟩
     cases t5 with
     | true=>exact Q5 (d9.1 rfl)
     | false=>exact QP (λh=>by have:=d9.2 h;cases this)
   case rest =>
    obtain⟨rfl,⟨t,rfl,ht⟩,g0,g4⟩:=hcut;have HT:=hI ht;clear ht KS BW b6 b7 HD
    cases t with
    | true =>
     have W:Hid (¬ Zk x):=λh=>by have:=HT.2 (h.2.2.2.2.2 k hlt);cases this
     go_wp2;go_ret;exact⟨zl W,g0⟩
    | false =>
     have HK:=hI (HT.1 rfl);clear HT;go_wp2;go_roundw
     case rel=>exact⟨k+1,by omega,by go_num,λj hj=>by
      by_cases e:j=k
      ·subst e;exact HK
      ·exact HA j (by omega),g4⟩
     case measure=>simp[intOf];omega
  ·obtain rfl:k=x.san:=by omega
   have HY:Hid (Zk x):=⟨d0,K.1,Y.1,K.2,Y.2,HA⟩;have n:=ze U B;clear HA;go_wp2;go_ret;exact⟨zR HY,n⟩
theorem zdC {u:World}{a c:Nat}{r s t n o p q:Value}(h3:u.heap[a]?=some (.cells #[r,s,t] 38 (0,0)))(j:u.heap[c]?=some (.cells #[n,o,p,q] 41 (0,0)))(v1 v2 v3 d f g h:Value) :
  (qt u a v1 v2 v3).heap[c]?=some (.cells #[n,o,p,q] 41 (0,0))/\(ZK (qt u a v1 v2 v3) c d f g h).heap[a]?=some (.cells #[v1,v2,v3] 38 (0,0))/\(ZK (qt u a v1 v2 v3) c d f g h).heap[c]?=some (.cells #[d,f,g,h] 41 (0,0))/\zx u (qt u a v1 v2 v3) (λb=>b=a)/\zx (qt u a v1 v2 v3) (ZK (qt u a v1 v2 v3) c d f g h) (λb=>b=c):=by
 have i:c≠a:=λe=>by
  rw[e,h3] at j;simp at j
 have k:=QG u a v1 v2 v3;have l:=QH (qt u a v1 v2 v3) c d f g h;have m:=k.blk j i;exact⟨m,l.blk (zcq h3 v1 v2 v3) (show _ from λe=>i e.symm),zcJ m d f g h,k,l⟩
theorem zhn {w u f g:World}{c d:Nat}(a:Below w.heap.size w u)(h3:w.heap.size<=c)(h4:w.heap.size<=d)(h:zx u f (λb=>b=c))(i:zx f g (λb=>b=d)):Below w.heap.size w g:=by
 have q:=zx.below a a.size h (λb e=>by have e:=e;omega)
 exact zx.below q q.size i (λb e=>by have e:=e;omega)
theorem zmn (x:Off)(a1 a2 a3 P:Option Addr)(c1 c2 c3 Y m:Nat)(l:Int)(y:OpD)(pe:Nat->Addr)(w:World)(hs:Off.Short x 1048576)(hF:Zm w)(hT:Zq w/\Zu w)(he:qY w pe)(hg:w.cell? (0,0)=some (.iface 284 (.agg #[.pointer (some (12,92))])))
  (d6:Off.Is w [.slice a1 x.san c1,.slice a2 x.ldn c2,.slice a3 x.bkn c3] x) (d4:zT w P y.lgn y.lg) (d8:qj P y.lgn Y) (ho:y.own.size<=1048576) (hl:y.lgn<=1048576) (hm:zac y->In y.kind 4 8->y.name=(m:Int)+1) :
  Calls prog 11 #[.agg #[(a1,x.san,c1),(a2,x.ldn,c2),(a3,x.bkn,c3)],l,.agg (y,P,Y)] w λe w'=>(∃ x2 code name price N T ok,Res x l y m x2 code name price N T ok/\zmO w.heap.size w.heap.size x2 code name price N T ok e w')/\Below w.heap.size w w':=by
 have HS:=hI hs;have HT:Hid (_/\_/\_):=⟨hF,hT,he⟩;have HG:=hI hg;have a7:=hI d6;have c0:Hid (_/\_):=⟨d4,d8⟩;have e3:=hI hm;obtain⟨b0,b1,b2,b3,d9⟩:=zcT w (.cells #[.slice a1 x.san c1,.slice a2 x.ldn c2,.slice a3 x.bkn c3] 38) (.cells #[int i64 l] 3) (.cells #[int i64 y.kind,.string y.own,int i64 y.name,.slice P y.lgn Y,int i64 y.pe,int i64 y.len,int i64 y.hei,int i64 y.cl,.bool y.all,int i64 y.be,int i64 y.unt,int i64 y.now] 47) (.cells #[.slice none 0 0,.slice none 0 0,.slice none 0 0] 38);have b4:=Jb ((((w.alloc (.cells #[(a1,x.san,c1),(a2,x.ldn,c2),(a3,x.bkn,c3)] 38)).alloc (.cells #[l] 3)).alloc (.cells (y,P,Y) 47)).alloc (.cells #[True,True,True] 38)) (.cells #[(),(),(),True] 41);rw[d9] at b4;have HD:Hid (DSit (((((w.alloc _).alloc _).alloc _).alloc _).alloc (.cells #[int i64 0,int i64 0,int i64 0,.slice none 0 0] 41)) _ _ _ _ _ _ l _):=⟨zd b0 _,zd b1 _,zd b2 _⟩;have X:Hid ((((((w.alloc _).alloc _).alloc _).alloc _).alloc (.cells #[int i64 0,int i64 0,int i64 0,.slice none 0 0] 41)).heap[_+1+1]?=_):=zd b3 _;have R:=hI b4;have I:Below _ w (((((w.alloc (.cells #[(a1,x.san,c1),(a2,x.ldn,c2),(a3,x.bkn,c3)] 38)).alloc (.cells #[l] 3)).alloc (.cells (y,P,Y) 47)).alloc (.cells #[True,True,True] 38)).alloc (.cells #[(),(),(),True] 41)):=zk (zk (zk (zk (zk bZ _) _) _) _) _;clear hs hF hT he hg d6 d4 d8 hm b0 b1 b2 b3 b4 d9;go_enter func11,ntmps11;obtain⟨f0,f1,f2⟩:=ce3 HD.out.bo;go_wp2_with fail;generalize (((((w.alloc _).alloc _).alloc _).alloc _).alloc _)=U at HD X R I f0 f1 f2 ⊢;obtain⟨_,_,_,_,_,_,e0,h1,s1,h2,s2,h3,s3⟩:=(a7.out.below I)
 cases e0
 refine(zmm x a1 a2 a3 c1 c2 c3 U HS.out h1 h2 h3 s3.1).mono ?_;rintro e U1 ⟨⟨tb,rfl,a6⟩,hb⟩;clear h1 s1 h2 s2 h3 s3 f0 f1 f2;replace HD:=hI (HD.out.below hb);replace X:=hI (zb X.out hb);replace R:=hI (zb R.out hb);replace I:=ze I hb;clear hb;have M:=hI a6;clear a6
 cases tb with
 | false =>
  have HN:Hid (¬ (_/\zbn x.bkn x.bk l)):=λh=>by have:=M.out.2 h.1;cases this
  have d:=hI (zdC X.out R.out (.slice none 0 0) (.slice none 0 0) (.slice none 0 0) (int i64 0) (int i64 0) (int i64 0) (.slice none 0 0));have n:=hI (zhn I (by omega) (by omega) d.out.2.2.2.1 d.out.2.2.2.2)
  obtain⟨p0,p1,p2⟩:=ce3 X.out;obtain⟨g0,S,g2⟩:=fe3 X.out;obtain⟨q0,q1,q2,V⟩:=ce4 R.out;obtain⟨k0,k1,k2,k3⟩:=fe4 R.out;unfold ZK qt at d n;obtain⟨e9,f4,f5,f6⟩:=ce4 d.out.1;obtain⟨e5,e6,e7,e8⟩:=fe4 d.out.1;go_wp2;have Z3:=d.out.2.1;have Z4:=d.out.2.2.1;obtain⟨z0,z1,z2⟩:=ce3 Z3;obtain⟨t0,t1,t2,t3⟩:=ce4 Z4;refine Jj (v:=.tuple #[.agg #[.slice none 0 0,.slice none 0 0,.slice none 0 0],.agg #[int i64 0,int i64 0,int i64 0,.slice none 0 0],.bool false]) (by simp[results,results11,go_sem,z0,z1,z2,t0,t1,t2,t3]) rfl ?_
  exact⟨⟨_,0,0,0,0,zeM [],_,.inr ⟨HN.out,rfl,rfl,rfl,rfl,rfl,rfl⟩,zmO.no x _ _ _ _⟩,n.out⟩
 | true =>
 have a4:=hI (M.out.1 rfl);clear M;have f2:=za HD.out.bo 2 _ rfl;have g0:=za HD.out.bb 0 _ rfl;go_wp2_with fail;obtain⟨_,_,_,_,_,_,e0,h1,s1,h2,s2,h3,s3⟩:=(a7.out.below I)
 cases e0
 refine(zcZ a3 _ c3 _ l U1 (by have:=a4.out.2.2.1;omega) h3).mono ?_
 rintro e j ⟨⟨tb,rfl,a6⟩,hb⟩;clear h1 s1 h2 s2 h3 s3 f2 g0;replace HD:=hI (HD.out.below hb);replace X:=hI (zb X.out hb);replace R:=hI (zb R.out hb);replace I:=ze I hb;clear hb;have M:Hid (_↔zbn _ _ l):=a6.trans ⟨λh=>⟨h.1,λi hi e=>h.2 ⟨i,hi,e⟩⟩,λh=>⟨h.1,λ⟨i,hi,e⟩=>h.2 i hi e⟩⟩
 clear a6
 cases tb with
 | false =>
  have HN:Hid (¬ (Zk x/\_)):=λh=>by have:=M.out.2 h.2;cases this
  have d:=hI (zdC X.out R.out (.slice none 0 0) (.slice none 0 0) (.slice none 0 0) (int i64 0) (int i64 0) (int i64 0) (.slice none 0 0));have n:=hI (zhn I (by omega) (by omega) d.out.2.2.2.1 d.out.2.2.2.2)
  obtain⟨p0,p1,p2⟩:=ce3 X.out;obtain⟨g0,S,g2⟩:=fe3 X.out;obtain⟨q0,q1,q2,V⟩:=ce4 R.out;obtain⟨k0,k1,k2,k3⟩:=fe4 R.out;unfold ZK qt at d n;obtain⟨e9,f4,f5,f6⟩:=ce4 d.out.1;obtain⟨e5,e6,e7,e8⟩:=fe4 d.out.1;go_wp2;have Z3:=d.out.2.1;have Z4:=d.out.2.2.1;obtain⟨z0,z1,z2⟩:=ce3 Z3;obtain⟨t0,t1,t2,t3⟩:=ce4 Z4;refine Jj (v:=.tuple #[.agg #[.slice none 0 0,.slice none 0 0,.slice none 0 0],.agg #[int i64 0,int i64 0,int i64 0,.slice none 0 0],.bool false]) (by simp[results,results11,go_sem,z0,z1,z2,t0,t1,t2,t3]) rfl ?_
  exact⟨⟨_,0,0,0,0,zeM [],_,.inr ⟨HN.out,rfl,rfl,rfl,rfl,rfl,rfl⟩,zmO.no x _ _ _ _⟩,n.out⟩
 | true =>
 have a9:=hI (M.out.1 rfl);clear M;have e4:∀ (fn) (first cap) (w),(Instr.makeFunc fn _ cap).run prog w=.ok (.func fn first cap) w:=λ_ _ _ _=>rfl
 have X3:((j.alloc _).alloc (.cells #[int i64 0,int i64 0,int i64 0,.slice none 0 0] 41)).heap[j.heap.size]?=some (.cells #[.slice none 0 0,.slice none 0 0,.slice none 0 0] 38 (0,0)):=zd (Jb j _) _;have X4:((j.alloc (.cells #[.slice none 0 0,.slice none 0 0,.slice none 0 0] 38)).alloc (.cells #[int i64 0,int i64 0,int i64 0,.slice none 0 0] 41)).heap[j.heap.size+1]?=some (.cells #[int i64 0,int i64 0,int i64 0,.slice none 0 0] 41 (0,0)):=by simpa using Jb (j.alloc _) _
 have a0:Below _ j ((j.alloc (.cells #[True,True,True] 38)).alloc (.cells #[(),(),(),True] 41)):=zk (zk bZ _) _;go_wp2_with fail;generalize (j.alloc _).alloc _=t at X3 X4 a0 ⊢;have HX:Hid (_/\_):=⟨X3,X4⟩;have f8:=zM X4;have f7:=zM R.out;have J:Below _ w (t.alloc (.cells #[.nilIface] 92)):=zk (ze I a0) _;have Z:Below _ t (t.alloc (.cells #[.nilIface] 92)):=zk bZ _;have d0:=(HD.out.below a0).below Z;refine(zmk 52 _ t
  (λW=>W.heap[t.heap.size]?=some (.cells #[.nilIface] 92 (0,0))/\Dop1W x l y m (t.heap.size+1) (j.heap.size) (j.heap.size+1) W/\Below j.heap.size j W)
  (λu W=>W.heap[t.heap.size]?=some (.cells #[.nilIface] 92 (0,0))/\(∃ c,1<=c/\c<=8/\u=.agg #[.iface 391 (.pointer (some (pe c)))]/\zhG x l y m x (c:Int) 0 0)/\Below j.heap.size j W) (λ_ _=>by kernel_rfl) ?_).mono ?_
 ·refine(dop1_any x a1 a2 a3 P c1 c2 c3 Y m _ _ _ _ _ l y pe _ a4.out HS.out a9.out (HT.out.1.below J) ⟨HT.out.2.1.1.below J,HT.out.2.1.2.below J⟩ (HT.out.2.2.below J) (a7.out.below J) (c0.out.1.below J) c0.out.2 ho hl e3.out d0 (zb X3 Z) (zb X4 Z) (by omega)).mono ?_
  rintro e W ⟨hA,hk⟩;have hn:=hk.blk (Jb t _) (show ¬ (t.heap.size=j.heap.size∨t.heap.size=j.heap.size+1) by omega)
  have H:=zx.below (ze a0 Z) (ze a0 Z).size hk (λb e=>by have e:=e;omega)
  refine⟨hn,?_⟩
  rcases hA with⟨rfl,hW⟩|⟨c,S,g8,rfl,Q⟩
  ·exact .inl ⟨rfl,hn,by simpa using hW,H⟩
  ·exact .inr ⟨_,rfl,hn,⟨c,S,g8,rfl,Q⟩,H⟩
 clear X3 X4 d0 Z J e4;have n0:=λw=>zgW underlying92 w
 have n1:=λw v=>Z9 96 v underlying92 w
 rintro e w4 (⟨rfl,W,⟨hn,hW,H⟩,rfl⟩|⟨u,rfl,W,⟨hn,⟨c,S,g8,rfl,Q⟩,H⟩,rfl⟩)
 ·obtain⟨x2,b1,d1,b2,d2,b3,d3,name,price,ra,N,rc,T,L,C,A,B,D,E,e1,e2,d5,Q,d7,b7⟩:=hW
  have kk:=(zx.refl W (λb=>b=t.heap.size)).set (a:=⟨t.heap.size,0,none⟩) rfl .nilIface
  have Y3:Hid _:=kk.blk e1 (show ¬ j.heap.size=t.heap.size by omega)
  have Y4:Hid _:=kk.blk e2 (show ¬ j.heap.size+1=t.heap.size by omega)
  have F:=hI (d5.box kk hn (by decide))
  have s:Hid _:=kk.own b7 (λb e=>zQ b7 hn (by decide) b e)
  have z:Below _ j (W.setCell _ .nilIface):=H.setCell (p:=(t.heap.size,0)) (by show j.heap.size<=t.heap.size;omega) _
  have O:Hid (_/\_):=⟨Q,d7⟩;clear e1 e2 d5 Q d7 b7 H hn kk;generalize W.setCell _ _=u4 at Y3 Y4 F s z ⊢;have k:Below _ j (u4.alloc (.cells #[.nilIface] 96)):=zk z _;have hp:Below _ u4 (u4.alloc (.cells #[.nilIface] 96)):=zk bZ _;replace Y3:=hI (zb Y3.out hp);replace Y4:=hI (zb Y4.out hp);replace F:=hI (F.out.below hp);replace s:Hid _:=zo hp s.out;clear z hp;go_upto_region 8 with fail;generalize u4.alloc _=u5 at Y3 Y4 F s k ⊢;have r:Below u5.heap.size u5 _:=bZ.drew;replace Y3:=hI (zb Y3.out r);replace Y4:=hI (zb Y4.out r);replace F:=hI (F.out.below r);replace s:Hid _:=zo r s.out;replace k:=ze k r;refine qg 5 5 (λu=>u.cell? _=some (.slice b1 _ d1)/\u.cell? _=some (.slice b2 _ d2)/\u.cell? _=some (.slice b3 _ d3)/\u.cell? _=some (.int _ 0)/\u.cell? _=some (.int _ _)/\u.cell? _=some (.int _ _)/\u.cell? _=some (.slice ra N rc)) rfl (by kernel_rfl) (⟨za Y3.out 0 _ rfl,za Y3.out 1 _ rfl,za Y3.out 2 _ rfl,za Y4.out 0 _ rfl,za Y4.out 1 _ rfl,za Y4.out 2 _ rfl,za Y4.out 3 _ rfl⟩) (λhS=>?_)
  simp only[List.replicate_succ,List.replicate_zero];clear r;generalize u5.drew=u6 at Y3 Y4 F s k hS ⊢;have V:=zb X.out k;have q4:=zb R.out k;have d:=hI (zdC V q4 (.slice b1 x2.san d1) (.slice b2 x2.ldn d2) (.slice b3 x2.bkn d3) (int i64 0) (int i64 name) (int i64 price) (.slice ra N rc));have n:=hI (zhn (ze I k) (by omega) (by omega) d.out.2.2.2.1 d.out.2.2.2.2)
  have W3:Hid _:=d.out.2.2.2.1.blk Y3.out (show ¬ j.heap.size=w.heap.size+1+1+1 by omega)
  have W4:Hid _:=d.out.2.2.2.1.blk Y4.out (show ¬ j.heap.size+1=w.heap.size+1+1+1 by omega)
  have W5:Hid _:=d.out.2.2.2.2.blk W3.out (show ¬ j.heap.size=w.heap.size+1+1+1+1 by omega)
  have W6:Hid _:=d.out.2.2.2.2.blk W4.out (show ¬ j.heap.size+1=w.heap.size+1+1+1+1 by omega)
  have a5:=hI ((F.out.box d.out.2.2.2.1 V (by decide)).box d.out.2.2.2.2 d.out.1 (by decide))
  have r3:=d.out.2.2.2.1.own s.out (λb e=>zQ s.out V (by decide) b e)
  have c9:Hid _:=d.out.2.2.2.2.own r3 (λb e=>zQ r3 d.out.1 (by decide) b e)
  clear r3 q4;unfold ZK qt at d n W3 W4 W5 W6 a5 c9
  iterate 2 (refine tFN 0 (v:=?_) rfl (by kernel_rfl) (λ_ _ _ h=>h) rfl (by assumption) ?_ ?_;rotate_left;(focus(intro w' h;(try dsimp only at h);go_simp;try with_reducible rfl));simp only[Act.put,sB,sZ,sS])
  obtain⟨p0,p1,p2⟩:=ce3 V;obtain⟨g0,S,g2⟩:=fe3 V;refine zj (rs:=[2]) (by kernel_rfl) (by simp) ?_
  refine zc.consL rfl (λK G=>?_) zc.nil
  go_simp;refine G.out _ _ (⟨za W3.out 0 _ rfl,za W3.out 1 _ rfl,za W3.out 2 _ rfl,za W4.out 0 _ rfl,za W4.out 1 _ rfl,za W4.out 2 _ rfl,za W4.out 3 _ rfl⟩) (λhS=>?_)
  clear G K p0 p1 p2 g0 S g2 V;simp only[sZ,sS];obtain⟨p0,p1,p2,p3⟩:=ce4 d.out.1;obtain⟨g0,S,g2,g3⟩:=fe4 d.out.1;refine zj (rs:=[3]) (by kernel_rfl) (by simp) ?_
  refine zc.consL rfl (λK G=>?_) zc.nil
  go_simp;refine G.out _ _ (⟨za W5.out 0 _ rfl,za W5.out 1 _ rfl,za W5.out 2 _ rfl,za W6.out 0 _ rfl,za W6.out 1 _ rfl,za W6.out 2 _ rfl,za W6.out 3 _ rfl⟩) (λhS=>?_)
  clear G K p0 p1 p2 p3 g0 S g2 g3;simp only[sZ,sS]
  (refine tFN 4 (v:=?_) rfl (by kernel_rfl) (λ_ _ _ h=>h) rfl (by assumption) ?_ ?_;rotate_left;(focus(intro w' h;(try dsimp only at h);go_simp;try with_reducible rfl));simp only[Act.put,sB,sZ,sS])
  refine zX (by kernel_rfl) ?_ _
  clear hS;go_wp2;have Z3:=d.out.2.1;have Z4:=d.out.2.2.1;obtain⟨z0,z1,z2⟩:=ce3 Z3;obtain⟨t0,t1,t2,t3⟩:=ce4 Z4;refine Jj (v:=.tuple #[.agg #[.slice b1 x2.san d1,.slice b2 x2.ldn d2,.slice b3 x2.bkn d3],.agg #[int i64 0,int i64 name,int i64 price,.slice ra N rc],.bool true]) (by simp[results,results11,go_sem,z0,z1,z2,t0,t1,t2,t3]) rfl ?_
  exact⟨⟨x2,0,_,_,N,T,_,.inl ⟨⟨a4.out,a9.out⟩,rfl,O.out.1,O.out.2⟩,b1,d1,b2,d2,b3,d3,ra,rc,L,C,A,B,D,E,rfl,a5.out.lower (by omega),zu c9.out (by omega)⟩,n.out⟩
 ·have z:Below _ j (W.setCell _ (.iface 96 (.agg #[.iface 391 (.pointer (some (pe c)))]))):=H.setCell (p:=⟨t.heap.size,0,none⟩) (by show j.heap.size<=t.heap.size;omega) _
  have O:Hid (_/\_/\_):=⟨Q,S,g8⟩;clear Q H hn S g8;generalize W.setCell _ _=u4 at z ⊢;have k:Below _ j (u4.alloc (.cells #[.nilIface] 96)):=zk z _;have HR:=Jb u4 (.cells #[.nilIface] 96);have b5:=hI z.size;clear z;go_wp2_with fail;generalize u4.alloc _=u5 at k HR ⊢;generalize u4.heap.size=gr at HR b5 ⊢;refine(as_hit _ _ _ u5 rfl ?_ (za HR 0 _ rfl) (zg HR 0)).mono ?_
  ·exact((ze I k).cell (Ja w _ HG.out)).trans HG.out
  rintro e u6 ⟨rfl,b8⟩;have hp:=zk (zk (zk (zk (Ji _ u5) (.cells #[.pointer (some ⟨gr,0,none⟩)] 98)) (.cells #[.pointer (some ⟨12,98,none⟩),.pointer (some ⟨u5.heap.size,0,none⟩),.int .u64 150] 186)) (.cells #[.pointer (some ⟨12,98,none⟩),.pointer (some ⟨u5.heap.size,0,none⟩),.int .u64 150] 186)) (.cells #[.iface 391 (.pointer (some (pe c)))] 96);have o:Hid (u6.heap[gr]?=some (.cells #[.iface 391 (.pointer (some (pe c)))] 96 (0,0))):=by rw[b8];exact zm (zb HR hp) 0 _
  have f:Below j.heap.size j u6:=by rw[b8];exact(ze k hp).setCell b5.out _
  clear b8 hp HR k;go_upto_region 10 with fail;have r:Below u6.heap.size u6 _:=bZ.drew;replace o:=hI (zb o.out r);replace f:=ze f r;have g:=hI (HD.out.below f);refine qg 9 9 (λu=>u.cell? _=some (.slice a1 _ c1)/\u.cell? _=some (.slice a2 _ c2)/\u.cell? _=some (.slice a3 _ c3)/\u.cell? _=some (.iface 391 _)) rfl (by kernel_rfl) (⟨za g.out.bo 0 _ rfl,za g.out.bo 1 _ rfl,za g.out.bo 2 _ rfl,za o.out 0 _ rfl⟩) (λhS=>?_)
  simp only[List.replicate_succ,List.replicate_zero];clear r;generalize u6.drew=u7 at o f g hS ⊢
  (refine tFN 0 (v:=?_) rfl (by kernel_rfl) (λ_ _ _ h=>h) rfl (by assumption) ?_ ?_;rotate_left;(focus(intro w' h;(try dsimp only at h);go_simp;try with_reducible rfl));simp only[Act.put,sB,sZ,sS])
  iterate 2 (refine tFN 2 (v:=?_) rfl (by kernel_rfl) (λ_ _ _ h=>h) rfl (by assumption) ?_ ?_;rotate_left;(focus(intro w' h;(try dsimp only at h);go_simp;try with_reducible rfl));simp only[Act.put,sB,sZ,sS])
  refine zj (rs:=[1]) (by kernel_rfl) (by simp) ?_
  refine zc.consL rfl (λK G=>?_) zc.nil
  go_simp;go_at_call 54;refine Jm (zeh x a1 a2 a3 c1 c2 c3 u7 HS.out (λi hi=>(a4.out.2.2.2.2.1 i hi).2.2.2.1.1) ((a7.out.below I).below f)) ?_
  rintro e u8 ⟨⟨n1,n2,n3,L,C,A,B,D,E,rfl,a8⟩,q⟩;have b6:=hI (a8.lower f.size);dsimp only;replace f:=ze f q;replace o:=hI (zb o.out q);replace g:=hI (g.out.below q);refine G.out _ _ (⟨za g.out.bo 0 _ rfl,za g.out.bo 1 _ rfl,za g.out.bo 2 _ rfl,za o.out 0 _ rfl⟩) (λhS=>?_)
  clear G K q a8;simp only[sZ,sS];refine zj (rs:=[4]) (by kernel_rfl) (by simp) ?_
  refine zc.consL rfl (λK G=>?_) zc.nil
  go_simp;go_at_call 56;refine Jm (znB pe c u8 ((HT.out.2.2.below I).below f) O.out.2.1 O.out.2.2) ?_;rintro e u9 ⟨rfl,q⟩;dsimp only;replace f:=ze f q;replace o:=hI (zb o.out q);replace g:=hI (g.out.below q);replace b6:=hI (b6.out.below q);refine G.out _ _ (⟨za g.out.bo 0 _ rfl,za g.out.bo 1 _ rfl,za g.out.bo 2 _ rfl,za o.out 0 _ rfl⟩) (λhS=>?_)
  clear G K q;simp only[sZ,sS]
  (refine tFN 5 (v:=?_) rfl (by kernel_rfl) (λ_ _ _ h=>h) rfl (by assumption) ?_ ?_;rotate_left;(focus(intro w' h;(try dsimp only at h);go_simp;try with_reducible rfl));simp only[Act.put,sB,sZ,sS])
  have V:=zb X.out f;have q4:=zb R.out f;have d:=hI (zdC V q4 (.slice (some ⟨n1,0,none⟩) x.san x.san) (.slice (some ⟨n2,0,none⟩) x.ldn x.ldn) (.slice (some ⟨n3,0,none⟩) x.bkn x.bkn) (int i64 c) (int i64 0) (int i64 0) (.slice none 0 0));have n:=hI (zhn (ze I f) (by omega) (by omega) d.out.2.2.2.1 d.out.2.2.2.2)
  have b9:=b5.out;have W3:Hid _:=d.out.2.2.2.1.blk g.out.bo (show ¬ w.heap.size=w.heap.size+1+1+1 by omega)
  have W4:Hid _:=d.out.2.2.2.1.blk o.out (show ¬ gr=w.heap.size+1+1+1 by omega)
  have W5:Hid _:=d.out.2.2.2.2.blk W3.out (show ¬ w.heap.size=w.heap.size+1+1+1+1 by omega)
  have W6:Hid _:=d.out.2.2.2.2.blk W4.out (show ¬ gr=w.heap.size+1+1+1+1 by omega)
  have a5:=hI ((b6.out.box d.out.2.2.2.1 V (by decide)).box d.out.2.2.2.2 d.out.1 (by decide))
  clear q4 b9;unfold ZK qt at d n W3 W4 W5 W6 a5;obtain⟨p0,p1,p2⟩:=ce3 V;obtain⟨g0,S,g2⟩:=fe3 V;refine zj (rs:=[6]) (by kernel_rfl) (by simp) ?_
  refine zc.consL rfl (λK G=>?_) zc.nil
  go_simp;refine G.out _ _ (⟨za W3.out 0 _ rfl,za W3.out 1 _ rfl,za W3.out 2 _ rfl,za W4.out 0 _ rfl⟩) (λhS=>?_)
  clear G K p0 p1 p2 g0 S g2 V;simp only[sZ,sS];obtain⟨p0,p1,p2,p3⟩:=ce4 d.out.1;obtain⟨g0,S,g2,g3⟩:=fe4 d.out.1;refine zj (rs:=[7]) (by kernel_rfl) (by simp) ?_
  refine zc.consL rfl (λK G=>?_) zc.nil
  go_simp;refine G.out _ _ (⟨za W5.out 0 _ rfl,za W5.out 1 _ rfl,za W5.out 2 _ rfl,za W6.out 0 _ rfl⟩) (λhS=>?_)
  clear G K p0 p1 p2 p3 g0 S g2 g3;simp only[sZ,sS]
  (refine tFN 8 (v:=?_) rfl (by kernel_rfl) (λ_ _ _ h=>h) rfl (by assumption) ?_ ?_;rotate_left;(focus(intro w' h;(try dsimp only at h);go_simp;try with_reducible rfl));simp only[Act.put,sB,sZ,sS])
  refine zX (by kernel_rfl) ?_ _
  clear hS;go_wp2;have Z3:=d.out.2.1;have Z4:=d.out.2.2.1;obtain⟨z0,z1,z2⟩:=ce3 Z3;obtain⟨t0,t1,t2,t3⟩:=ce4 Z4;refine Jj (v:=.tuple #[.agg #[.slice (some ⟨n1,0,none⟩) x.san x.san,.slice (some ⟨n2,0,none⟩) x.ldn x.ldn,.slice (some ⟨n3,0,none⟩) x.bkn x.bkn],.agg #[int i64 c,int i64 0,int i64 0,.slice none 0 0],.bool true]) (by simp[results,results11,go_sem,z0,z1,z2,t0,t1,t2,t3]) rfl ?_
  have f9:=(ze I f).size;exact⟨⟨x,c,0,0,0,zeM [],_,.inl ⟨⟨a4.out,a9.out⟩,rfl,O.out.1,.inl ⟨rfl,λ_=>by have:=O.out.2.1;omega⟩⟩,_,_,_,_,_,_,_,0,L,C,A,B,D,E,rfl,a5.out.lower (by omega),zbS _ _ _ _⟩,n.out⟩
section
open Go.RowKit
theorem QK {u:World}{e a t v:Nat}{g h i j k l m n o p q r s c d:Value}(f:u.heap[e]?=some (.cells #[g,h,i] t (0,0)))(b:u.heap[a]?=some (.cells #[j,k,l,m,n,o,p,q,r,s,c,d] v (0,0))) :
  u.cell? (e,0)=some g/\u.cell? (e,1)=some h/\u.cell? (e,2)=some i/\u.cell? (a,0)=some j/\u.cell? (a,1)=some k/\u.cell? (a,2)=some l/\u.cell? (a,3)=some m/\u.cell? (a,4)=some n/\u.cell? (a,5)=some o/\u.cell? (a,6)=some p/\u.cell? (a,7)=some q/\u.cell? (a,8)=some r/\u.cell? (a,9)=some s/\u.cell? (a,10)=some c/\u.cell? (a,11)=some d :=
 ⟨za f 0 g rfl,za f 1 h rfl,za f 2 i rfl,za b 0 j rfl,za b 1 k rfl,za b 2 l rfl,za b 3 m rfl,za b 4 n rfl,za b 5 o rfl,za b 6 p rfl,za b 7 q rfl,za b 8 r rfl,za b 9 s rfl,za b 10 c rfl,za b 11 d rfl⟩
abbrev DP:=Nat->Off->Int->Int->Int->Nat->(Nat->zcB)->Bool->Prop
def zla (P:DP)(base:Nat)(e:Ending)(u:World):Prop:=∃ rb x2 code name price N T ok,P rb x2 code name price N T ok/\zmO base rb x2 code name price N T ok e u
def DopB (P:DP)(base a b:Nat)(ok:Bool)(z:World):Prop :=
 ∃ rb x2 code name price N T,P rb x2 code name price N T ok/\∃ a1 c1 a2 c2 a3 c3 ar cr L C A B D E,z.heap[a]?=some (.cells #[.slice a1 x2.san c1,.slice a2 x2.ldn c2,.slice a3 x2.bkn c3] 38 (0,0))/\z.heap[b]?=some (.cells #[int i64 code,int i64 name,int i64 price,.slice ar N cr] 41 (0,0))/\zF z base (.slice a1 x2.san c1) (.slice a2 x2.ldn c2) (.slice a3 x2.bkn c3) x2.san x2.ldn x2.bkn x2 L C A B D E/\z.ownsRow rb 203 5 (.slice ar N cr) N (qW T N)
theorem zla.below {P:DP}{base:Nat}{e:Ending}{u c:World}(h:zla P base e u)(b:Below u.heap.size u c):zla P base e c:=by
 obtain⟨m,n,a,name,price,N,T,ok,l,d,c1,f,c2,g,c3,i,j,L,C,A,B,D,E,rfl,k,hr⟩:=h;exact⟨m,n,_,_,_,N,T,ok,l,d,c1,f,c2,g,c3,i,j,L,C,A,B,D,E,rfl,k.below b,zo b hr⟩
structure RG (w u:World)(j k:Nat)(ca d:Array Value)(x:Off)(y:OpD)(P:DP)(h i:Option Nat)(f g:Option (List Value))(r:Option Ending):Prop where
 bel:Below w.heap.size w u
 a:u.heap[j]?=some (.cells ca 26 (0,0))
 b:u.heap[k]?=some (.cells d 31 (0,0))
 h8:∀ q,h=some q->w.heap.size<=q/\u.heap[q]?=some (.cells #[True,True,True] 38 (0,0))
 h9:∀ q,i=some q->w.heap.size<=q/\u.heap[q]?=some (.cells #[(),(),(),True] 41 (0,0))
 i1:∀ c,f=some c->Off.Is u c x
 i2:∀ c,g=some c->OpD.Is u c y
 hr:∀ e,r=some e->zla P w.heap.size e u
section
variable {w u u' : World} {pA pB : Nat} {ca cb : Array Value} {x : Off} {y : OpD} {P : DP} {p8 p9 : Option Nat} {k1 k2 : Option (List Value)} {r : Option Ending}
theorem RG.below (h:RG w u pA pB ca cb x y P p8 p9 k1 k2 r)(a:Below u.heap.size u u'):RG w u' pA pB ca cb x y P p8 p9 k1 k2 r :=
 ⟨ze h.bel a,zb h.a a,zb h.b a,λq e=>⟨(h.h8 q e).1,zb (h.h8 q e).2 a⟩,λq e=>⟨(h.h9 q e).1,zb (h.h9 q e).2 a⟩,λc e=>(h.i1 c e).below a,λc e=>(h.i2 c e).below a,λe q=>(h.hr e q).below a⟩
theorem RG.al8 (h:RG w u pA pB ca cb x y P none p9 k1 k2 r):RG w (u.alloc (.cells #[True,True,True] 38)) pA pB ca cb x y P (some u.heap.size) p9 k1 k2 r:=by
 have k:=h.below (zk (Ji _ u) (.cells #[True,True,True] 38));exact⟨k.bel,k.a,k.b,λq e=>by cases e;exact⟨h.bel.size,Jb u _⟩,k.h9,k.i1,k.i2,k.hr⟩
theorem RG.al9 (h:RG w u pA pB ca cb x y P p8 none k1 k2 r):RG w (u.alloc (.cells #[(),(),(),True] 41)) pA pB ca cb x y P p8 (some u.heap.size) k1 k2 r:=by
 have k:=h.below (zk (Ji _ u) (.cells #[(),(),(),True] 41));exact⟨k.bel,k.a,k.b,k.h8,λq e=>by cases e;exact⟨h.bel.size,Jb u _⟩,k.i1,k.i2,k.hr⟩
theorem RG.off (h:RG w u pA pB ca cb x y P p8 p9 none k2 r)(cs:List Value)(b:Off.Short x 1048576)(g:Off.Is w cs x) :
  Calls prog 9 #[.agg cs.toArray] u λe d=>∃ c,e=.returned (.agg c.toArray)/\Hid (RG w d pA pB ca cb x y P p8 p9 (some c) k2 r):=by
 refine(zdi cs x u b (g.below h.bel)).mono ?_;rintro e d ⟨c,rfl,a,f⟩;have k:=h.below f;exact⟨c,rfl,k.bel,k.a,k.b,k.h8,k.h9,λq e=>by cases e;exact a.is b,k.i2,k.hr⟩
theorem RG.op (h:RG w u pA pB ca cb x y P p8 p9 k1 none r)(cs:List Value)(b:OpD.Short y 1048576)(g:OpD.Is w cs y) :
  Calls prog 10 #[.agg cs.toArray] u λe d=>∃ c,e=.returned (.agg c.toArray)/\Hid (RG w d pA pB ca cb x y P p8 p9 k1 (some c) r):=by
 refine(ziu cs y u b (g.below h.bel)).mono ?_;rintro e d ⟨c,rfl,a,f⟩;have k:=h.below f;exact⟨c,rfl,k.bel,k.a,k.b,k.h8,k.h9,k.i1,λq e=>by cases e;exact a.is b,k.hr⟩
theorem RG.dop {c d:List Value}(h:RG w u pA pB ca cb x y P p8 p9 (some c) (some d) none)(F:FuncId)(j:Int)(o:∀ c d u,Below w.heap.size w u->Off.Is u c x->OpD.Is u d y->Calls prog F #[.agg c.toArray,j,.agg d.toArray] u λe m=>zla P u.heap.size e m/\Below u.heap.size u m) :
  Calls prog F #[.agg c.toArray,int i64 j,.agg d.toArray] u λe m=>∃ b n1 c1 f n2 c2 g n3 c3 a name price i n l ok,e=.returned (.tuple #[.agg #[.slice b n1 c1,.slice f n2 c2,.slice g n3 c3],.agg #[int i64 a,int i64 name,int i64 price,.slice i n l],.bool ok]) /\
   Hid (RG w m pA pB ca cb x y P p8 p9 (some c) (some d) (some (.returned (.tuple #[.agg #[.slice b n1 c1,.slice f n2 c2,.slice g n3 c3],.agg #[int i64 a,int i64 name,int i64 price,.slice i n l],.bool ok])))):=by
 refine(o c d u h.bel (h.i1 c rfl) (h.i2 d rfl)).mono ?_;rintro e m ⟨⟨t,v,a,name,price,N,T,ok,s,b,c1,f,c2,g,c3,i,l,L,C,A,B,D,E,rfl,r,hr⟩,p⟩;have k:=h.below p;exact⟨b,_,c1,f,_,c2,g,_,c3,_,_,_,i,N,l,ok,rfl,k.bel,k.a,k.b,k.h8,k.h9,k.i1,k.i2,λq e=>by cases e;exact⟨t,v,_,_,_,N,T,ok,s,b,c1,f,c2,g,c3,i,l,L,C,A,B,D,E,rfl,r.lower h.bel.size,hr⟩⟩
theorem RG.fin {d j k l m n c1 c2 c3 r:Nat}{f g i o:Option Addr}{a name price:Int}{ok:Bool}(h:RG w u pA pB ca cb x y P (some d) (some j) k1 k2 (some (.returned (.tuple #[.agg #[.slice f k c1,.slice g l c2,.slice i m c3],.agg #[int i64 a,int i64 name,int i64 price,.slice o n r],.bool ok])))) :
  (u.heap[d]?=some (.cells #[True,True,True] 38 (0,0))/\(qt u d (f,k,c1) (g,l,c2) (i,m,c3)).heap[j]?=some (.cells #[(),(),(),True] 41 (0,0))) /\
  ((qt u d (f,k,c1) (g,l,c2) (i,m,c3)).heap[pA]?=some (.cells ca 26 (0,0))/\(qt u d (f,k,c1) (g,l,c2) (i,m,c3)).heap[pB]?=some (.cells cb 31 (0,0))) /\
  ((ZK (qt u d (f,k,c1) (g,l,c2) (i,m,c3)) j a name price (o,n,r)).heap[pA]?=some (.cells ca 26 (0,0))/\(ZK (qt u d (f,k,c1) (g,l,c2) (i,m,c3)) j a name price (o,n,r)).heap[pB]?=some (.cells cb 31 (0,0))) /\
  DopB P w.heap.size d j ok (ZK (qt u d (f,k,c1) (g,l,c2) (i,m,c3)) j a name price (o,n,r))/\Below w.heap.size w (ZK (qt u d (f,k,c1) (g,l,c2) (i,m,c3)) j a name price (o,n,r))/\w.heap.size<=d/\w.heap.size<=j:=by
 obtain⟨Q,h8⟩:=h.h8 d rfl;obtain⟨R,h9⟩:=h.h9 j rfl;have c:=zdC h8 h9 (f,k,c1) (g,l,c2) (i,m,c3) a name price (o,n,r);have G:∀ {p q:Nat} {A B} {s t},u.heap[p]?=some (.cells A s _)->u.heap[q]?=some (.cells B t (0,0))->s≠t->p≠q:=λI O J e=>by
  subst e;rw[I] at O
  cases O
  exact J rfl
 have v:=c.2.2.2.1.blk h.a (G h.a h8 (by decide))
 have z:=c.2.2.2.1.blk h.b (G h.b h8 (by decide))
 obtain⟨rb,x2,H,K,F,N,T,a4,I,U,X,V,Y,M,Z,W,a0,L,C,A,B,D,E,he,ho,hr⟩:=h.hr _ rfl
 cases he
 have S:=c.2.2.2.1.own hr (λb e=>zQ hr h8 (by decide) b e)
 exact⟨⟨h8,c.1⟩,⟨v,z⟩,⟨c.2.2.2.2.blk v (G h.a h9 (by decide)),c.2.2.2.2.blk z (G h.b h9 (by decide))⟩,
  ⟨rb,x2,_,_,_,_,T,I,f,c1,g,c2,i,c3,o,r,L,C,A,B,D,E,c.2.1,c.2.2.1,(ho.box c.2.2.2.1 h8 (by decide)).box c.2.2.2.2 c.1 (by decide),c.2.2.2.2.own S (λb e=>zQ S c.1 (by decide) b e)⟩,zhn h.bel Q R c.2.2.2.1 c.2.2.2.2,Q,R⟩
end
end
theorem l7Op_any (x:Off)(q p n H:Option Addr)(G F t N m:Nat)(a6:Int)(y:OpD)(w:World)(hs:Off.Short x 1048576)(m1:qB w q x.san x.sa)(l5:ZG w p x.ldn x.ld)(l2:qO w n x.bkn x.bk)(l6:zT w H y.lgn y.lg)(m2:qj H y.lgn N)(hl:y.lgn<=1048576)(ho:y.own.size<=1048576)(hO:Zk x)(hb:In a6 1 9999)(hx:∀ i,i<x.bkn->(x.bk i).who≠a6)(hm:zac y->In y.kind 4 8->y.name=(m:Int)+1/\m<=1048576) :
  Calls prog 44 #[.agg #[(q,x.san,G),(p,x.ldn,F),(n,x.bkn,t)],a6,.agg (y,H,N)] w λe w'=>OpAns x a6 y m w.heap.size e w'/\Below w.heap.size w w':=by
 have HS:=hI hs;have HM:Hid (qB w q x.san x.sa/\ZG w p x.ldn x.ld/\qO w n x.bkn x.bk/\zT w H y.lgn y.lg/\qj H y.lgn N):=⟨m1,l5,l2,l6,m2⟩;have HG:Hid (Zk x/\In a6 1 9999/\∀ i,i<x.bkn->(x.bk i).who≠a6):=⟨hO,hb,hx⟩;have HN:=hI hm;have o8:x.san<=6:=hO.1.1;have l1:x.bkn<=30:=hO.2.2.1;have f4:=hI hO.2.1;clear hs m1 l5 l2 l6 m2 hO hb hx hm;have s:Below w.heap.size w ((((w.alloc (.cells #[(q,x.san,G),(p,x.ldn,F),(n,x.bkn,t)] 38)).alloc (.cells (y,H,N) 47)).alloc (.cells #[True,True,True] 38)).alloc (.cells #[(),(),(),True] 41)):=zk (zk (zk (zk bZ _) _) _) _;have P:=zd (zd (zd (Jb w (.cells #[(q,x.san,G),(p,x.ldn,F),(n,x.bkn,t)] 38)) (.cells (y,H,N) 47)) (.cells #[True,True,True] 38)) (.cells #[(),(),(),True] 41);have Q:=zd (zd (zfT w (.cells #[(q,x.san,G),(p,x.ldn,F),(n,x.bkn,t)] 38) (.cells (y,H,N) 47)) (.cells #[True,True,True] 38)) (.cells #[(),(),(),True] 41);have O:=zd (show(((w.alloc (.cells #[(q,x.san,G),(p,x.ldn,F),(n,x.bkn,t)] 38)).alloc (.cells (y,H,N) 47)).alloc (.cells #[True,True,True] 38)).heap[w.heap.size+1+1]?=some (.cells #[True,True,True] 38 (0,0)) from by simpa using Jb ((w.alloc (.cells #[(q,x.san,G),(p,x.ldn,F),(n,x.bkn,t)] 38)).alloc (.cells (y,H,N) 47)) (.cells #[True,True,True] 38)) (.cells #[(),(),(),True] 41)
 have I:((((w.alloc (.cells #[(q,x.san,G),(p,x.ldn,F),(n,x.bkn,t)] 38)).alloc (.cells (y,H,N) 47)).alloc (.cells #[True,True,True] 38)).alloc (.cells #[(),(),(),True] 41)).heap[w.heap.size+1+1+1]?=some (.cells #[(),(),(),True] 41 (0,0)):=by simpa using Jb (((w.alloc (.cells #[(q,x.san,G),(p,x.ldn,F),(n,x.bkn,t)] 38)).alloc (.cells (y,H,N) 47)).alloc (.cells #[True,True,True] 38)) (.cells #[(),(),(),True] 41)
 go_enter func44,ntmps44;go_wp2_with fail;generalize ((((w.alloc (.cells #[(q,x.san,G),(p,x.ldn,F),(n,x.bkn,t)] 38)).alloc (.cells (y,H,N) 47)).alloc (.cells #[True,True,True] 38)).alloc (.cells #[(),(),(),True] 41))=W at s P Q O I ⊢;refine(zmb q p n H x.san x.ldn x.bkn G F t N m x y _ (by omega) (by omega) hl (by omega) (HM.out.1.below s) (HM.out.2.2.1.below s) ⟨H,N,rfl,HM.out.2.2.2.1.below s,HM.out.2.2.2.2⟩ HN.out).mono ?_
 rintro e V ⟨⟨d,rfl,e9⟩,d6⟩;have k2:=hI e9;clear e9;replace s:=ze s d6;replace P:=zb P d6;replace Q:=zb Q d6;replace O:=zb O d6;replace I:=zb I d6;clear d6 W;obtain⟨f0,f1,f2⟩:=ce3 P
 by_cases hc:d=0
 case neg =>
  have d1:(d != 0)=true:=by simpa using hc
  have d2:(d == 0)=false:=by simpa using hc
  have HC:=hI hc;clear hc;go_wp2_with fail;refine(zdx q p n x.san x.ldn x.bkn G F t x _ rfl rfl rfl HS.out (HM.out.1.below s) (HM.out.2.1.below s) (HM.out.2.2.1.below s)).mono ?_;rintro e V9 ⟨⟨a1,c1,a2,c2,a3,c3,L9,C9,A9,B9,D9,E9,rfl,a0⟩,c0⟩;have e8:=ze s c0;have r2:=zb O c0;have R:=zb I c0;obtain⟨S,b5,b6,T,_⟩:=zie e8 (a0.lower s.size) r2 R (by omega) (by omega) d () () True rfl
  have a9:Hid _:=S;have a8:Hid _:=T;clear S T a0;obtain⟨s0,s1,s2⟩:=ce3 r2;obtain⟨g5,g6,g7⟩:=fe3 r2;obtain⟨t0,t1,t2,t3⟩:=ce4 R;obtain⟨g8,g9,i0,i3⟩:=fe4 R;go_wp2;obtain⟨x0,x1,x2⟩:=ce3 b5;obtain⟨z0,z1,z2,z3⟩:=ce4 b6;exact Jj (v:=.tuple #[.agg #[(a1,x.san,c1),(a2,x.ldn,c2),(a3,x.bkn,c3)],.agg #[d,(),(),True]]) (by simp[results,results44,go_sem,x0,x1,x2,z0,z1,z2,z3]) rfl ⟨⟨x,_,_,_,_,_,_,_,_,_,_,_,_,_,_,_,_,rfl,a9.out,.inl ⟨HC.out,rfl,rfl,rfl,k2.out⟩,.inl ⟨rfl,λ_=>HC.out⟩⟩,a8.out⟩
 subst hc;have o9:w.heap.size+1+1+1<V.heap.size:=zM I;have a4:Hid (ZZ x y m):=znX k2.out (λh1 h2=>(HN.out h1 h2).1)
 go_wp2_with fail;refine(zdx q p n x.san x.ldn x.bkn G F t x _ rfl rfl rfl HS.out (HM.out.1.below s) (HM.out.2.1.below s) (HM.out.2.2.1.below s)).mono ?_;rintro e V2 ⟨⟨a1,c1,a2,c2,a3,c3,L,C,A,B,D,E,rfl,a0⟩,J⟩;have k7:=hI a0;have i5:w.heap.size<=V.heap.size:=s.size;replace s:=ze s J;replace P:=zb P J;replace Q:=zb Q J;replace O:=zb O J;replace I:=zb I J;have e6:=hI (zM I);clear f0 f1 f2 a0;have g0:∀ o,(V2.alloc o).cell? (w.heap.size,0)=some (q,x.san,G):=λo=>za (zd P o) 0 _ rfl
 have g1:∀ o,(V2.alloc o).cell? (w.heap.size,1)=some (p,x.ldn,F):=λo=>za (zd P o) 1 _ rfl
 have g2:∀ o,(V2.alloc o).cell? (w.heap.size,2)=some (n,x.bkn,t):=λo=>za (zd P o) 2 _ rfl
 have h0:∀ o,(V2.alloc o).cell? (w.heap.size+1,0)=some (int i64 y.kind):=λo=>za (zd Q o) 0 _ rfl
 have h1:∀ o,(V2.alloc o).cell? (w.heap.size+1,1)=some (.string y.own):=λo=>za (zd Q o) 1 _ rfl
 have h2:∀ o,(V2.alloc o).cell? (w.heap.size+1,2)=some (int i64 y.name):=λo=>za (zd Q o) 2 _ rfl
 have h3:∀ o,(V2.alloc o).cell? (w.heap.size+1,3)=some (H,y.lgn,N):=λo=>za (zd Q o) 3 _ rfl
 have h4:∀ o,(V2.alloc o).cell? (w.heap.size+1,4)=some (int i64 y.pe):=λo=>za (zd Q o) 4 _ rfl
 have h5:∀ o,(V2.alloc o).cell? (w.heap.size+1,5)=some (int i64 y.len):=λo=>za (zd Q o) 5 _ rfl
 have h6:∀ o,(V2.alloc o).cell? (w.heap.size+1,6)=some (int i64 y.hei):=λo=>za (zd Q o) 6 _ rfl
 have h7:∀ o,(V2.alloc o).cell? (w.heap.size+1,7)=some (int i64 y.cl):=λo=>za (zd Q o) 7 _ rfl
 have h8:∀ o,(V2.alloc o).cell? (w.heap.size+1,8)=some (.bool y.all):=λo=>za (zd Q o) 8 _ rfl
 have h9:∀ o,(V2.alloc o).cell? (w.heap.size+1,9)=some (int i64 y.be):=λo=>za (zd Q o) 9 _ rfl
 have j7:∀ o,(V2.alloc o).cell? (w.heap.size+1,10)=some (int i64 y.unt):=λo=>za (zd Q o) 10 _ rfl
 have j8:∀ o,(V2.alloc o).cell? (w.heap.size+1,11)=some (int i64 y.now):=λo=>za (zd Q o) 11 _ rfl
 go_wp2_with fail;have bQ:=Jb V2 (.cells #[(a1,x.san,c1),(a2,x.ldn,c2),(a3,x.bkn,c3)] 38);have i6:V.heap.size<=V2.heap.size:=J.size;have j3:Hid (zF (V2.alloc (.cells #[(a1,x.san,c1),(a2,x.ldn,c2),(a3,x.bkn,c3)] 38)) V.heap.size (a1,x.san,c1) (a2,x.ldn,c2) (a3,x.bkn,c3) x.san x.ldn x.bkn x L C A B D E):=k7.out.below (zk bZ _);replace s:=zk s (.cells #[(a1,x.san,c1),(a2,x.ldn,c2),(a3,x.bkn,c3)] 38);replace P:=zd P (.cells #[(a1,x.san,c1),(a2,x.ldn,c2),(a3,x.bkn,c3)] 38);replace Q:=zd Q (.cells #[(a1,x.san,c1),(a2,x.ldn,c2),(a3,x.bkn,c3)] 38);replace O:=zd O (.cells #[(a1,x.san,c1),(a2,x.ldn,c2),(a3,x.bkn,c3)] 38);replace I:=zd I (.cells #[(a1,x.san,c1),(a2,x.ldn,c2),(a3,x.bkn,c3)] 38);have o3:w.heap.size+1+1+1<V2.heap.size:=e6.out;generalize V2.alloc (.cells #[(a1,x.san,c1),(a2,x.ldn,c2),(a3,x.bkn,c3)] 38)=X at bQ j3 s P Q O I ⊢;have c9:=zM bQ;generalize V2.heap.size=qb at bQ i6 o3 c9 ⊢;have m0:=hI c9;clear c9;clear e6 g0 g1 g2 h0 h1 h2 h3 h4 h5 h6 h7 h8 h9 j7 j8 k7 J V2;refine(zlR q p n H x.san x.ldn x.bkn G F t N m x y a6 _ (by omega) HS.out.2.2.2 hl (HM.out.2.2.1.below s) (HM.out.2.2.2.1.below s) (λhk=>⟨(a4.out.2.2 (zaR hk)).1,(a4.out.2.2 (zaR hk)).2.1⟩)).mono ?_
 rintro e Y ⟨v,rfl,g4,b4⟩;have f6:=hI (zeK HG.out.1 a4.out HG.out.2.1 HG.out.2.2);obtain⟨l,f7⟩:∃ l,l=qk x a6 y m:=⟨_,rfl⟩;rw[← f7] at g4 f6;have HL:=hI f7;have p6:l.length<=1000:=by
  rw[f7];unfold qk;have q1:=zjg a4.out.1;have q2:=QD true (x.bk m).who ⟨(x.bk m).pe,(x.bk m).len,(x.bk m).hei,(x.bk m).cl,(x.bk m).all,(x.bk m).be⟩ (x.bk m).lg (x.bk m).lgn;have q3:=QD false a6 ⟨y.pe,y.len,y.hei,y.cl,y.all,y.be⟩ y.lg y.lgn;have q4:Qt y.kind->(x.bk m).lgn<=3:=λhk=>(HG.out.1.2.2.2.2.1 m (a4.out.2.2 (zaR hk)).2.1).2.2.2.1.2.1
  rw[List.length_append];have p1:(if Qt y.kind then Zh true (x.bk m).who ⟨(x.bk m).pe,(x.bk m).len,(x.bk m).hei,(x.bk m).cl,(x.bk m).all,(x.bk m).be⟩ (x.bk m).lg (x.bk m).lgn else []).length<=9:=by
   by_cases c:Qt y.kind
   ·rw[Jf c];have:=q4 c;omega
   ·rw[Je c];decide
  have p2:(if zJ y.kind then Zh false a6 ⟨y.pe,y.len,y.hei,y.cl,y.all,y.be⟩ y.lg y.lgn else []).length<=9:=by
   by_cases c:zJ y.kind
   ·rw[Jf c];omega
   ·rw[Je c];decide
  omega
 clear f7;obtain⟨aw,cw,rfl,w1,w2,w3⟩:=zp g4;have k9:=hI g4;have f5:=hI (j3.out.below b4);have m4:X.heap.size<=Y.heap.size:=b4.size;replace s:=ze s b4;replace P:=zb P b4;replace Q:=zb Q b4;replace O:=zb O b4;replace I:=zb I b4;replace bQ:=zb bQ b4;have o5:qb<X.heap.size:=m0.out;clear g4 b4 w1 w2 w3 j3;rw[f4.out] at f5 bQ ⊢;have i4:Hid (∀ wr,zx Y wr (λb=>(Value.slice a2 x.san c2).ownBlock=some b)->Below w.heap.size w wr/\wr.heap[w.heap.size]?=some (.cells #[(q,x.san,G),(p,x.ldn,F),(n,x.bkn,t)] 38 (0,0))/\wr.heap[w.heap.size+1]?=some (.cells (y,H,N) 47 (0,0))/\wr.heap[w.heap.size+1+1]?=some (.cells #[True,True,True] 38 (0,0))/\wr.heap[w.heap.size+1+1+1]?=some (.cells #[(),(),(),True] 41 (0,0))/\wr.ownsRow X.heap.size 159 10 (aw,l.length,cw) l.length (zgE l)):=λwr hk=>by
  have K:∀ b,(Value.slice a2 x.san c2).ownBlock=some b->V.heap.size<=b:=λb e=>(f5.out.ld.row.lt b e).1
  exact⟨zx.below s s.size hk (λb e=>Jp i5 (K b e)),hk.blk P (λe=>by have:=K _ e;omega),hk.blk Q (λe=>by have:=K _ e;omega),hk.blk O (λe=>by have:=K _ e;omega),hk.blk I (λe=>by have:=K _ e;omega),hk.own k9.out (λg h1 h2=>zI f5.out.ld.row k9.out (by decide) g h2 h1)⟩
 go_wp2;go_loopw [11,12,30] (λ_ _ i wr=>∃ (j:Nat) (M:Nat->zY) (A B D:Nat->Value),j<=l.length/\i=int i64 j/\Hid (zav x l j M)/\Hid (zF wr V.heap.size (a1,x.san,c1) (a2,x.san,c2) (a3,x.bkn,c3) x.san x.san x.bkn { x with ld:=M } L C A B D E)/\Hid (wr.heap[qb]?=some (.cells #[(a1,x.san,c1),(a2,x.san,c2),(a3,x.bkn,c3)] 38 (0,0)))/\Hid (zx Y wr (λb=>(Value.slice a2 x.san c2).ownBlock=some b))) (λ_ _ i _=>l.length - (intOf i).toNat)
 case atStart=>exact⟨0,x.ld,_,_,_,Jq _,rfl,zav.start HG.out.1 (λv hv=>(f6.out.2 v hv).1),f5.out,bQ,zx.refl _ _⟩
 case round =>
  clear P Q O I bQ s;obtain⟨j,M,A,B,D,hj,rfl,a5,j2,k1,j0⟩:=hrel;obtain⟨f,P,Q,O,I,j9⟩:=i4.out wr j0.out
  by_cases hlt:j<l.length
  ·obtain⟨v,hv⟩:∃ v,l[j]?=some v:=⟨l[j],List.getElem?_eq_getElem hlt⟩
   have HV:=hI hv;have d9:Hid (WkOk x v):=(f6.out.2 v (List.mem_of_getElem? hv)).2;obtain⟨gw,rfl,_,p3⟩:=qh j9 (by omega)
   have a7:Hid (∀ r u,r<10->(wkC v)[r]?=some u->wr.cell? (gw,j*10+r)=some u):=λr u hr hu=>by
    rw[j9.cellAt (j*10+r) (by omega),zkX l j v HV.out r hr]
    exact hu
   have n3:wr.cell? (gw,j*10)=some (int i64 v.leg):=a7.out 0 _ (by decide) rfl
   have n4:=a7.out 1 _ (by decide) rfl
   have n5:=a7.out 2 _ (by decide) rfl
   have n6:=a7.out 3 _ (by decide) rfl
   have n7:=a7.out 4 _ (by decide) rfl
   have n8:=a7.out 5 _ (by decide) rfl
   have n9:=a7.out 6 _ (by decide) rfl
   have o0:=a7.out 7 _ (by decide) rfl
   have o1:=a7.out 8 _ (by decide) rfl
   have o2:=a7.out 9 _ (by decide) rfl
   clear hv j9;obtain⟨k,hk⟩:∃ k,zW x.sa v.leg x.san=k:=⟨_,rfl⟩;have HK:=hI hk;have b9:Hid (k<x.san):=by have h:=d9.out.2.1;rw[hk] at h;exact h
   clear hk;have i1:(0:Int)<=(j:Int):=by omega
   have i2:(j:Int)<(l.length:Int):=by omega
   go_wp2_with fail;have f8:Below wr.heap.size wr (wr.alloc (.cells #[v.leg,(v.res:Int),v.goes,v.who,v.p.pe,v.p.len,v.p.hei,v.p.cl,v.p.all,v.p.be] 159)):=zk bZ _;have k5:=hI (j2.out.below f8);have k0:Hid ((wr.alloc (.cells #[v.leg,(v.res:Int),v.goes,v.who,v.p.pe,v.p.len,v.p.hei,v.p.cl,v.p.all,v.p.be] 159)).heap[qb]?=some (.cells #[(a1,x.san,c1),(a2,x.san,c2),(a3,x.bkn,c3)] 38 (0,0))):=zd k1.out _;have k3:=hI (j0.out.trans (zx.of_below f8));generalize wr.alloc (.cells #[v.leg,(v.res:Int),v.goes,v.who,v.p.pe,v.p.len,v.p.hei,v.p.cl,v.p.all,v.p.be] 159)=wa at f8 k5 k0 k3 ⊢;clear n3 n4 n5 n6 n7 n8 n9 o0 o1 o2 P Q O I f f8;refine(l7Do_any qb V.heap.size x.san x.bkn k c1 c2 c3 a1 a2 a3 v { x with ld:=M } L C A B D E wa k0.out k5.out (by omega) HK.out b9.out (a5.out.good k b9.out) d9.out.1 (λhg=>a5.out.there HV.out HK.out b9.out hg) (λhg=>by have h:=(d9.out.2.2 hg).2.1.1;unfold In at h ⊢;omega)).mono ?_
   rintro e wd ⟨d,z,A',B',D',rfl,m5,l7,l9,l4⟩;have j4:=hI m5;have n0:=hI l7;have n1:Hid _:=l9;have k4:=hI (k3.out.trans l4);clear m5 l7 l9 l4
   by_cases hc:d=0
   ·subst hc
    go_wp2;go_roundw
    case rel=>exact⟨j+1,zht M k z,A',B',D',by omega,by go_num,a5.out.next f6.out.1 HV.out HK.out b9.out d9.out j4.out,n0.out,n1.out,k4.out⟩
    case measure=>simp[intOf];omega
   ·have d1:(d != 0)=true:=by simpa using hc
    have d2:(d == 0)=false:=by simpa using hc
    have HC:=hI hc;clear hc;obtain⟨f,P,Q,O,I,_⟩:=i4.out wd k4.out;have m6:z=M k:=by
     rcases j4.out.on (a5.out.good k b9.out) (a5.out.comes HV.out HK.out b9.out d9.out) with⟨h,_⟩|⟨_,h⟩
     ·exact absurd h HC.out
     ·exact h
    have n2:Hid (qV (x.sa k) v (M k) d (M k)):=by have h:=j4.out;rw[m6] at h;exact h
    clear m6;obtain⟨f0,f1,f2⟩:=ce3 P;go_wp2_with fail;refine(zdx q p n x.san x.ldn x.bkn G F t x _ rfl rfl rfl HS.out (HM.out.1.below f) (HM.out.2.1.below f) (HM.out.2.2.1.below f)).mono ?_;rintro e V9 ⟨⟨a1,c1,a2,c2,a3,c3,L9,C9,A9,B9,D9,E9,rfl,a0⟩,c0⟩;have e8:=ze f c0;have r2:=zb O c0;have R:=zb I c0;obtain⟨S,b5,b6,T,_⟩:=zie e8 (a0.lower f.size) r2 R (by omega) (by omega) d () () True rfl
    have a9:Hid _:=S;have a8:Hid _:=T;clear S T a0;obtain⟨s0,s1,s2⟩:=ce3 r2;obtain⟨g5,g6,g7⟩:=fe3 r2;obtain⟨t0,t1,t2,t3⟩:=ce4 R;obtain⟨g8,g9,i0,i3⟩:=fe4 R;go_wp2;obtain⟨x0,x1,x2⟩:=ce3 b5;obtain⟨z0,z1,z2,z3⟩:=ce4 b6;exact Jj (v:=.tuple #[.agg #[(a1,x.san,c1),(a2,x.ldn,c2),(a3,x.bkn,c3)],.agg #[d,(),(),True]]) (by simp[results,results44,go_sem,x0,x1,x2,z0,z1,z2,z3]) rfl ⟨⟨x,_,_,_,_,_,_,_,_,_,_,_,_,_,_,_,_,rfl,a9.out,.inr (.inl ⟨a4.out,HC.out,rfl,rfl,rfl,j,M,v,k,by rw[← HL.out];exact a5.out,by rw[← HL.out];exact HV.out,HK.out,b9.out,n2.out⟩),.inl ⟨rfl,λ_=>HC.out⟩⟩,a8.out⟩
  ·obtain rfl:j=l.length:=by omega
   obtain⟨h0,h1,h2,h3,h4,h5,h6,h7,h8,h9,j7,j8⟩:=zeW Q;go_wp2_with fail;refine(l7End_any qb V.heap.size x.san x.bkn c1 c2 c3 N m a1 a2 a3 H a6 y { x with ld:=M } L C A B D E wr k1.out j2.out rfl rfl f4.out (Jp (Jp i6 (Nat.le_of_lt (Nat.lt_of_lt_of_le o5 m4))) j0.out.size) (HM.out.2.2.2.1.below f) HM.out.2.2.2.2 (λh0 a ea=>by obtain⟨b',o7,e',o4⟩:=HM.out.2.2.2.1 0 h0;rw[ea] at e';cases e';have h1:=Ja w _ o4;have h2:b'<w.heap.size:=h1;show b'<V.heap.size;omega) a4.out HG.out.1.1 l1 ⟨HS.out.1,⟨HS.out.2.1.1,λi hi=>by have h:=a5.out.good i (by have:=f4.out;have h9:i<x.ldn:=hi;omega);exact⟨by have:=((QO _ _ _).1 h.1).2.1;show(M i).stn<=_;omega,by have:=h.2.1.2.1;show(M i).ron<=_;omega,by have:=h.2.2.2.1;show(M i).sen<=_;omega⟩⟩,HS.out.2.2⟩ (λi hi=>(HG.out.1.2.2.2.2.1 i hi).2.2.2.1)).mono ?_
   rintro e we ⟨x3,d,name,price,l3,e0,e4,rv,E',rfl,g3,l8,f9,d7⟩;obtain⟨ra,rn,rc,rfl⟩:∃ ra rn rc,rv=.slice ra rn rc:=by
    by_cases h9:y.kind=9
    ·obtain⟨_,_,_,h3⟩:=g3.1 h9
     obtain⟨ao,c,e,_⟩:=zp h3;exact⟨ao,_,c,e⟩
    ·exact⟨none,0,0,g3.2 h9⟩
   have b7:=hI l3;have k8:=hI g3;have j1:=hI l8;have K:∀ b,b=qb∨(Value.slice a3 x.bkn c3).ownBlock=some b->V.heap.size<=b:=λb e=>by
    rcases e with e|e
    ·omega
    ·exact(j2.out.bk.row.lt b e).1
   replace P:=d7.blk P (λe=>by have:=K _ e;omega)
   replace Q:=d7.blk Q (λe=>by have:=K _ e;omega)
   replace O:=d7.blk O (λe=>by have:=K _ e;omega)
   replace I:=d7.blk I (λe=>by have:=K _ e;omega)
   replace f:=zx.below f f.size d7 (λb e=>by have:=K _ e;omega)
   clear h0 h1 h2 h3 h4 h5 h6 h7 h8 h9 j7 j8 l3 g3 l8 d7 K;have p4:∀ o,(we.alloc o).cell? (w.heap.size+1,0)=some (int i64 y.kind):=λo=>za (zd Q o) 0 _ rfl
   by_cases hc:d=0/\y.kind≠1
   case neg =>
    have HC:Hid (d≠0∨y.kind=1):=by
     by_cases h:d=0
     ·exact .inr (by by_cases h2:y.kind=1;exact h2;exact absurd ⟨h,h2⟩ hc)
     ·exact .inl h
    have o6:=k8.out.2 (b7.out.nine HC.out)
    cases o6
    clear hc
    by_cases hc:d=0
    ·have hk:y.kind=1:=by rcases HC.out with h|h;exact absurd hc h;exact h
     subst hc;have d1:(y.kind == 1)=true:=by simpa using hk
     have p5:=hk;clear hk;have bT:=Jb we (.cells #[(),name,price,True] 41);have e5:w.heap.size+1+1+1<we.heap.size:=zM I;go_upto_region 14 with fail;replace P:=zd P (.cells #[(),name,price,True] 41);have j5:=O;have j6:=I;replace O:=zd O (.cells #[(),name,price,True] 41);replace I:=zd I (.cells #[(),name,price,True] 41);replace f:=zk f (.cells #[(),name,price,True] 41);have d8:=zd f9 (.cells #[(),name,price,True] 41);have d0:Hid _:=j1.out.below (zk bZ (.cells #[(),name,price,True] 41));have d4:Hid (zx we (we.alloc (.cells #[(),name,price,True] 41)) (λb=>b=w.heap.size+1+1∨b=w.heap.size+1+1+1)):=zx.of_below (zk bZ _)
     generalize we.alloc (.cells #[(),name,price,True] 41)=wf at bT P O I f d8 d0 d4 ⊢;generalize we.heap.size=U at bT e5 ⊢;have p0:=P;have pT:=bT;have KS:Hid (∀ z:World,z.heap[w.heap.size]?=some (.cells #[(q,x.san,G),(p,x.ldn,F),(n,x.bkn,t)] 38 (0,0))->z.heap[U]?=some (.cells #[(),name,price,True] 41 (0,0))->z.cell? (w.heap.size,0)=some (q,x.san,G)/\z.cell? (w.heap.size,1)=some (p,x.ldn,F)/\z.cell? (w.heap.size,2)=some (n,x.bkn,t)/\z.cell? (U,0)=some ()/\z.cell? (U,1)=some (int i64 name)/\z.cell? (U,2)=some (int i64 price)/\z.cell? (U,3)=some True):=λz h1 h2=>⟨za h1 0 _ rfl,za h1 1 _ rfl,za h1 2 _ rfl,za h2 0 _ rfl,za h2 1 _ rfl,za h2 2 _ rfl,za h2 3 _ rfl⟩
     have i8:Hid (∀ Z,Below wf.heap.size wf Z->Calls prog 70 #[.agg #[.slice q x.san G,.slice p x.ldn F,.slice n x.bkn t]] Z λe u=>(∃ d1 e1 d2 e2 d3 e3 L C A B D E,e=.returned (.agg #[.slice d1 x.san e1,.slice d2 x.ldn e2,.slice d3 x.bkn e3])/\Hid (zF u w.heap.size (.slice d1 x.san e1) (.slice d2 x.ldn e2) (.slice d3 x.bkn e3) x.san x.ldn x.bkn x L C A B D E))/\Below wf.heap.size wf u):=λZ hZ=>by
      refine(zdx q p n x.san x.ldn x.bkn G F t x Z rfl rfl rfl HS.out (HM.out.1.below (ze f hZ)) (HM.out.2.1.below (ze f hZ)) (HM.out.2.2.1.below (ze f hZ))).mono ?_;rintro e u ⟨⟨d1,e1,d2,e2,d3,e3,L',C',A',B',D',E',rfl,h⟩,hb⟩;exact⟨⟨d1,e1,d2,e2,d3,e3,L',C',A',B',D',E',rfl,h.lower (ze f hZ).size⟩,ze hZ hb⟩
     go_region_held3 (λw'=>w'.cell? (w.heap.size,0)=some (q,x.san,G)/\w'.cell? (w.heap.size,1)=some (p,x.ldn,F)/\w'.cell? (w.heap.size,2)=some (n,x.bkn,t)/\w'.cell? (U,0)=some ()/\w'.cell? (U,1)=some (int i64 name)/\w'.cell? (U,2)=some (int i64 price)/\w'.cell? (U,3)=some True)
      (first|(refine KS.out _ ?_ ?_ <;> (repeat(first|with_reducible exact p0|with_reducible exact pT|(with_reducible refine zK ?_)|(with_reducible refine zD ?_ _ _ ?_;rotate_left;(focus omega))))))
      (first
       | (go_simp;go_at_call 70;(with_reducible refine Jm (i8.out _ ?_) ?_);(focus(repeat(first | exact bZ | refine Jh ?_ | refine zk ?_ _)));rintro e u2 ⟨⟨d1,e1,d2,e2,d3,e3,L9,C9,A9,B9,D9,E9,rfl,a0⟩,J⟩;have i7:=hI J;replace p0:=zb p0 J;replace pT:=zb pT J;have r2:=zb O J;have R:=zb I J;have s0:=za r2 0 _ rfl;have g5:=zg r2 0;have s1:=za r2 1 _ rfl;have g6:=zg r2 1;have s2:=za r2 2 _ rfl;have g7:=zg r2 2;have t0:=za R 0 _ rfl;have g8:=zg R 0;have t1:=za R 1 _ rfl;have g9:=zg R 1;have t2:=za R 2 _ rfl;have i0:=zg R 2;have t3:=za R 3 _ rfl;have i3:=zg R 3;dsimp only))
     ·have e7:=ze f i7.out
      obtain⟨S,b5,b6,T,b8⟩:=zie e7 a0.out r2 R (by omega) (by omega) () name price True rfl
      have a9:Hid _:=S;have a8:Hid _:=T;have i9:Hid _:=b8;clear S T b8;obtain⟨x0,x1,x2⟩:=ce3 b5;obtain⟨z0,z1,z2,z3⟩:=ce4 b6;go_wp2;exact Jj (v:=.tuple #[.agg #[(d1,x.san,e1),(d2,x.ldn,e2),(d3,x.bkn,e3)],.agg #[(),name,price,True]]) (by simp[results,results44,go_sem,x0,x1,x2,z0,z1,z2,z3]) rfl ⟨⟨x,_,_,_,_,_,_,_,_,_,_,_,_,_,_,_,_,rfl,a9.out,.inr (.inr ⟨a4.out,M,x3,by rw[← HL.out];exact a5.out,b7.out,λ_=>rfl,λh=>absurd HC.out h⟩),.inl ⟨rfl,λh9=>absurd h9 (b7.out.nine HC.out)⟩⟩,a8.out⟩
    ·have d1:(d != 0)=true:=by simpa using hc
     have d2:(d == 0)=false:=by simpa using hc
     clear hc;have bT:=Jb we (.cells #[d,name,price,True] 41);have e5:w.heap.size+1+1+1<we.heap.size:=zM I;go_upto_region 14 with fail;replace P:=zd P (.cells #[d,name,price,True] 41);have j5:=O;have j6:=I;replace O:=zd O (.cells #[d,name,price,True] 41);replace I:=zd I (.cells #[d,name,price,True] 41);replace f:=zk f (.cells #[d,name,price,True] 41);have d8:=zd f9 (.cells #[d,name,price,True] 41);have d0:Hid _:=j1.out.below (zk bZ (.cells #[d,name,price,True] 41));have d4:Hid (zx we (we.alloc (.cells #[d,name,price,True] 41)) (λb=>b=w.heap.size+1+1∨b=w.heap.size+1+1+1)):=zx.of_below (zk bZ _)
     generalize we.alloc (.cells #[d,name,price,True] 41)=wf at bT P O I f d8 d0 d4 ⊢;generalize we.heap.size=U at bT e5 ⊢;have p0:=P;have pT:=bT;have KS:Hid (∀ z:World,z.heap[w.heap.size]?=some (.cells #[(q,x.san,G),(p,x.ldn,F),(n,x.bkn,t)] 38 (0,0))->z.heap[U]?=some (.cells #[d,name,price,True] 41 (0,0))->z.cell? (w.heap.size,0)=some (q,x.san,G)/\z.cell? (w.heap.size,1)=some (p,x.ldn,F)/\z.cell? (w.heap.size,2)=some (n,x.bkn,t)/\z.cell? (U,0)=some (int i64 d)/\z.cell? (U,1)=some (int i64 name)/\z.cell? (U,2)=some (int i64 price)/\z.cell? (U,3)=some True):=λz h1 h2=>⟨za h1 0 _ rfl,za h1 1 _ rfl,za h1 2 _ rfl,za h2 0 _ rfl,za h2 1 _ rfl,za h2 2 _ rfl,za h2 3 _ rfl⟩
     have i8:Hid (∀ Z,Below wf.heap.size wf Z->Calls prog 70 #[.agg #[.slice q x.san G,.slice p x.ldn F,.slice n x.bkn t]] Z λe u=>(∃ d1 e1 d2 e2 d3 e3 L C A B D E,e=.returned (.agg #[.slice d1 x.san e1,.slice d2 x.ldn e2,.slice d3 x.bkn e3])/\Hid (zF u w.heap.size (.slice d1 x.san e1) (.slice d2 x.ldn e2) (.slice d3 x.bkn e3) x.san x.ldn x.bkn x L C A B D E))/\Below wf.heap.size wf u):=λZ hZ=>by
      refine(zdx q p n x.san x.ldn x.bkn G F t x Z rfl rfl rfl HS.out (HM.out.1.below (ze f hZ)) (HM.out.2.1.below (ze f hZ)) (HM.out.2.2.1.below (ze f hZ))).mono ?_;rintro e u ⟨⟨d1,e1,d2,e2,d3,e3,L',C',A',B',D',E',rfl,h⟩,hb⟩;exact⟨⟨d1,e1,d2,e2,d3,e3,L',C',A',B',D',E',rfl,h.lower (ze f hZ).size⟩,ze hZ hb⟩
     go_region_held3 (λw'=>w'.cell? (w.heap.size,0)=some (q,x.san,G)/\w'.cell? (w.heap.size,1)=some (p,x.ldn,F)/\w'.cell? (w.heap.size,2)=some (n,x.bkn,t)/\w'.cell? (U,0)=some (int i64 d)/\w'.cell? (U,1)=some (int i64 name)/\w'.cell? (U,2)=some (int i64 price)/\w'.cell? (U,3)=some True)
      (first|(refine KS.out _ ?_ ?_ <;> (repeat(first|with_reducible exact p0|with_reducible exact pT|(with_reducible refine zK ?_)|(with_reducible refine zD ?_ _ _ ?_;rotate_left;(focus omega))))))
      (first
       | (go_simp;go_at_call 70;(with_reducible refine Jm (i8.out _ ?_) ?_);(focus(repeat(first | exact bZ | refine Jh ?_ | refine zk ?_ _)));rintro e u2 ⟨⟨d1,e1,d2,e2,d3,e3,L9,C9,A9,B9,D9,E9,rfl,a0⟩,J⟩;have i7:=hI J;replace p0:=zb p0 J;replace pT:=zb pT J;have r2:=zb O J;have R:=zb I J;have s0:=za r2 0 _ rfl;have g5:=zg r2 0;have s1:=za r2 1 _ rfl;have g6:=zg r2 1;have s2:=za r2 2 _ rfl;have g7:=zg r2 2;have t0:=za R 0 _ rfl;have g8:=zg R 0;have t1:=za R 1 _ rfl;have g9:=zg R 1;have t2:=za R 2 _ rfl;have i0:=zg R 2;have t3:=za R 3 _ rfl;have i3:=zg R 3;dsimp only))
     ·have e7:=ze f i7.out
      obtain⟨S,b5,b6,T,b8⟩:=zie e7 a0.out r2 R (by omega) (by omega) d name price True rfl
      have a9:Hid _:=S;have a8:Hid _:=T;have i9:Hid _:=b8;clear S T b8;obtain⟨x0,x1,x2⟩:=ce3 b5;obtain⟨z0,z1,z2,z3⟩:=ce4 b6;go_wp2;exact Jj (v:=.tuple #[.agg #[(d1,x.san,e1),(d2,x.ldn,e2),(d3,x.bkn,e3)],.agg #[d,name,price,True]]) (by simp[results,results44,go_sem,x0,x1,x2,z0,z1,z2,z3]) rfl ⟨⟨x,_,_,_,_,_,_,_,_,_,_,_,_,_,_,_,_,rfl,a9.out,.inr (.inr ⟨a4.out,M,x3,by rw[← HL.out];exact a5.out,b7.out,λ_=>rfl,λh=>absurd HC.out h⟩),.inl ⟨rfl,λh9=>absurd h9 (b7.out.nine HC.out)⟩⟩,a8.out⟩
   obtain⟨hc,hk⟩:=hc;subst hc;have d1:(y.kind == 1)=false:=by simpa using hk
   have m9:=hI hk;clear hk;have m3:x3.san=x.san/\x3.ldn=x.san:=⟨b7.out.size.1,b7.out.size.2.trans f4.out⟩;obtain⟨p8,m8,p7,m7,d5,l0⟩:=x3;obtain⟨e1,e2⟩:=m3;dsimp only at e1 e2 f9;subst e1;subst e2;have k6:=hI j1.out;have bT:=Jb we (.cells #[(),name,price,(ra,rn,rc)] 41);have e5:w.heap.size+1+1+1<we.heap.size:=zM I;go_upto_region 15 with fail;replace P:=zd P (.cells #[(),name,price,(ra,rn,rc)] 41);have j5:=O;have j6:=I;replace O:=zd O (.cells #[(),name,price,(ra,rn,rc)] 41);replace I:=zd I (.cells #[(),name,price,(ra,rn,rc)] 41);replace f:=zk f (.cells #[(),name,price,(ra,rn,rc)] 41);have d8:=zd f9 (.cells #[(),name,price,(ra,rn,rc)] 41);have d0:Hid _:=k6.out.below (zk bZ (.cells #[(),name,price,(ra,rn,rc)] 41));have d4:Hid (zx we (we.alloc (.cells #[(),name,price,(ra,rn,rc)] 41)) (λb=>b=w.heap.size+1+1∨b=w.heap.size+1+1+1)):=zx.of_below (zk bZ _)
   generalize we.alloc (.cells #[(),name,price,(ra,rn,rc)] 41)=wf at bT P O I f d8 d0 d4 ⊢;generalize we.heap.size=U at bT e5 ⊢;have p0:=d8;have pT:=bT;have KS:Hid (∀ z:World,z.heap[qb]?=some (.cells #[(a1,x.san,c1),(a2,x.san,c2),(e0,d5,e4)] 38 (0,0))->z.heap[U]?=some (.cells #[(),name,price,(ra,rn,rc)] 41 (0,0))->z.cell? (qb,0)=some (a1,x.san,c1)/\z.cell? (qb,1)=some (a2,x.san,c2)/\z.cell? (qb,2)=some (e0,d5,e4)/\z.cell? (U,0)=some ()/\z.cell? (U,1)=some (int i64 name)/\z.cell? (U,2)=some (int i64 price)/\z.cell? (U,3)=some (ra,rn,rc)):=λz h1 h2=>⟨za h1 0 _ rfl,za h1 1 _ rfl,za h1 2 _ rfl,za h2 0 _ rfl,za h2 1 _ rfl,za h2 2 _ rfl,za h2 3 _ rfl⟩
   have r2:=O;have R:=I;obtain⟨s0,s1,s2⟩:=ce3 r2;obtain⟨g5,g6,g7⟩:=fe3 r2;obtain⟨t0,t1,t2,t3⟩:=ce4 R;obtain⟨g8,g9,i0,i3⟩:=fe4 R;go_region_held3 (λw'=>w'.cell? (qb,0)=some (a1,x.san,c1)/\w'.cell? (qb,1)=some (a2,x.san,c2)/\w'.cell? (qb,2)=some (e0,d5,e4)/\w'.cell? (U,0)=some ()/\w'.cell? (U,1)=some (int i64 name)/\w'.cell? (U,2)=some (int i64 price)/\w'.cell? (U,3)=some (ra,rn,rc))
    (first|(refine KS.out _ ?_ ?_ <;> (repeat(first|with_reducible exact p0|with_reducible exact pT|(with_reducible refine zK ?_)|(with_reducible refine zD ?_ _ _ ?_;rotate_left;(focus omega))))))
    (fail)
   ·have e7:=f
    obtain⟨S,b5,b6,T,b8⟩:=zie e7 (d0.out.lower i5) r2 R (by omega) (by omega) () name price (ra,rn,rc) rfl
    have a9:Hid _:=S.below (Jh bZ);have a8:Hid _:=Jh T;have i9:Hid _:=b8.trans (zx.of_below (Jh bZ));clear S T b8;obtain⟨x0,x1,x2⟩:=ce3 (zK b5);obtain⟨z0,z1,z2,z3⟩:=ce4 (zK b6);go_wp2;refine Jj (v:=.tuple #[.agg #[(a1,x.san,c1),(a2,x.san,c2),(e0,d5,e4)],.agg #[(),name,price,(ra,rn,rc)]]) (by simp[results,results44,go_sem,x0,x1,x2,z0,z1,z2,z3]) rfl ⟨⟨⟨x.san,m8,x.san,m7,d5,l0⟩,a1,c1,a2,c2,e0,e4,0,name,price,.slice ra rn rc,L,C,A,B,D,E',rfl,?_,?_,?_⟩,a8.out⟩
    ·exact a9.out
    ·exact .inr (.inr ⟨a4.out,M,⟨x.san,m8,x.san,m7,d5,l0⟩,by rw[← HL.out];exact a5.out,b7.out,λh=>by rcases h with h|h;exact absurd rfl h;exact absurd h m9.out,λ_=>rfl⟩)
    ·exact .inr ⟨M,_,a4.out,by rw[← HL.out];exact a5.out,zeQ k8.out (d4.out.trans i9.out) (λg e=>by rcases e with e|e;exact⟨_,_,by rw[e];exact j5,by decide⟩;exact⟨_,_,by rw[e];exact j6,by decide⟩)⟩
theorem zjo (x:Off)(D M:Option Addr)(bb bo J N z:Nat)(i:Nat)(C:Nat->List Value)(w:World)(hi:i<x.bkn)(hs:Off.Short x 1048576)
  (b6:qB w D x.san x.sa) (hC:QT w (some (bb,bo)) x.bkn 13 C) (hI:∀ k,k<x.bkn->ql.Is w (C k) (x.bk k)) (e8:x.bkn<=z) :
  Calls prog 85 #[.agg #[.slice D x.san J,.slice M x.ldn N,.slice (some ⟨bb,bo,none⟩) x.bkn z],int i64 i] w λe w'=>qX (Zt x i) e/\Below w.heap.size w w':=by
 have d1:=hI b6;have HC:=hI hC;have HI:Hid _:=hI;have b4:=hI hs;have e7:=hs.2.2.1;clear b6 hC hI hs;obtain⟨b0,e6,e0,l⟩:=HC i hi;simp only[Option.some.injEq,Addr.mk.injEq,and_true] at e0;obtain⟨rfl,rfl⟩:=e0;obtain⟨B,E,g,Z,b9⟩:=HI i hi;obtain⟨b,hb⟩:∃ b,b=x.bk i:=⟨_,rfl⟩;rw[← hb] at g Z b9;have s:=hI hb;have d0:=hI Z;have b3:Hid (ql.Short b 1048576):=by rw[hb];exact b4.2.2.2 i hi
 have a:bb<w.heap.size:=Ja w _ (l 0 (by decide))
 have g0:w.cell? (bb,bo+i*13)=some (int i64 b.name):=by have:=l 0 (by decide);rw[g] at this;exact this
 have g1:w.cell? (bb,bo+i*13+1)=some (int i64 b.who):=by have:=l 1 (by decide);rw[g] at this;exact this
 have g2:w.cell? (bb,bo+i*13+2)=some (.string b.own):=by have:=l 2 (by decide);rw[g] at this;exact this
 have g3:w.cell? (bb,bo+i*13+3)=some (B,b.lgn,E):=by have:=l 3 (by decide);rw[g] at this;exact this
 have g4:w.cell? (bb,bo+i*13+4)=some (int i64 b.pe):=by have:=l 4 (by decide);rw[g] at this;exact this
 have g5:w.cell? (bb,bo+i*13+5)=some (int i64 b.len):=by have:=l 5 (by decide);rw[g] at this;exact this
 have g6:w.cell? (bb,bo+i*13+6)=some (int i64 b.hei):=by have:=l 6 (by decide);rw[g] at this;exact this
 have g7:w.cell? (bb,bo+i*13+7)=some (int i64 b.cl):=by have:=l 7 (by decide);rw[g] at this;exact this
 have g8:w.cell? (bb,bo+i*13+8)=some (.bool b.all):=by have:=l 8 (by decide);rw[g] at this;exact this
 have g9:w.cell? (bb,bo+i*13+9)=some (int i64 b.be):=by have:=l 9 (by decide);rw[g] at this;exact this
 have V:w.cell? (bb,bo+i*13+10)=some (int i64 b.state):=by have:=l 10 (by decide);rw[g] at this;exact this
 have X:w.cell? (bb,bo+i*13+11)=some (int i64 b.unt):=by have:=l 11 (by decide);rw[g] at this;exact this
 have Y:w.cell? (bb,bo+i*13+12)=some (int i64 b.price):=by have:=l 12 (by decide);rw[g] at this;exact this
 have b5:Below _ w (w.alloc (.cells #[(D,x.san,J),(M,x.ldn,N),(some (bb,bo),x.bkn,z)] 38)):=zk bZ _;have bO:=Jb w (.cells #[(D,x.san,J),(M,x.ldn,N),(some (bb,bo),x.bkn,z)] 38);have c0:=λo=>((zk (Ji _ w) o).cell a).trans g0
 have c1:=λo=>((zk (Ji _ w) o).cell a).trans g1
 have c2:=λo=>((zk (Ji _ w) o).cell a).trans g2
 have c3:=λo=>((zk (Ji _ w) o).cell a).trans g3
 have c4:=λo=>((zk (Ji _ w) o).cell a).trans g4
 have c5:=λo=>((zk (Ji _ w) o).cell a).trans g5
 have c6:=λo=>((zk (Ji _ w) o).cell a).trans g6
 have c7:=λo=>((zk (Ji _ w) o).cell a).trans g7
 have c8:=λo=>((zk (Ji _ w) o).cell a).trans g8
 have c9:=λo=>((zk (Ji _ w) o).cell a).trans g9
 have d3:=λo=>((zk (Ji _ w) o).cell a).trans V
 have d4:=λo=>((zk (Ji _ w) o).cell a).trans X
 have d5:=λo=>((zk (Ji _ w) o).cell a).trans Y
 clear l g Z b9 hb g0 g1 g2 g3 g4 g5 g6 g7 g8 g9 V X Y;have d8:IntKind.i64.wrap ((i:Int)+1)=(i:Int)+1:=by rw[Jk];omega
 have e9:(0:Int)<=(i:Int):=by omega
 have f0:(i:Int)<(x.bkn:Int):=by omega
 have c:Below _ w ((w.alloc _).alloc (.cells (b,B,E) 150)):=zk b5 _;have n:((w.alloc _).alloc (.cells (b,B,E) 150)).heap[w.heap.size]?=_:=zd bO _;have m:((w.alloc (.cells #[(D,x.san,J),(M,x.ldn,N),(some (bb,bo),x.bkn,z)] 38)).alloc (.cells (b,B,E) 150)).heap[w.heap.size+1]?=some (.cells (b,B,E) 150 (0,0)):=by simpa using Jb (w.alloc _) _
 clear b5 bO
 by_cases n1:b.name=(i:Int)+1
 case neg =>
  have e1:(b.name != (i:Int)+1)=true:=by simpa using n1
  have y:Hid (¬ Zt x i):=λh=>n1 (by rw[s.out];exact h.1)
  clear n1;go_enter func85,ntmps85;go_wp2;go_ret;exact⟨zl y,c⟩
 have e1:(b.name != (i:Int)+1)=false:=by simpa using n1
 have a4:=hI n1;clear n1;go_enter func85,ntmps85;go_wp2_with fail;generalize (w.alloc _).alloc _=W at c n m ⊢;clear c0 c1 c2 c3 c4 c5 c6 c7 c8 c9 d3 d4 d5 e1 d8;obtain⟨y0,y1,y2,y3,y4,y5,y6,y7,y8,y9,F,G,L⟩:=zeX m;have z0:=za n 0 _ rfl;have z2:=za n 2 _ rfl;refine(Qz _ _).mono ?_;obtain⟨t0,a0⟩:∃ t,t=decide (In b.who 1 9999):=⟨_,rfl⟩;rw[← a0];have P:Hid (t0=true↔In b.who 1 9999):=by show _↔_;rw[a0,decide_eq_true_eq]
 clear a0;rintro e v ⟨rfl,A⟩;have A:=A.symm;subst A
 cases t0 with
 | false =>
  have y:Hid (¬ Zt x i):=λh=>by have h:=(show _ from h);unfold Zt at h;rw[← s.out] at h;have:=P.2 h.2.1;cases this
  go_wp2;go_ret;exact⟨zl y,c⟩
 | true =>
 have a5:=hI (P.1 rfl);clear P;go_wp2_with fail;refine(qS _ _ (by have:=b3.1;omega)).mono ?_
 obtain⟨t1,a1⟩:∃ t,t=decide (Zg b.own):=⟨_,rfl⟩;rw[← a1];have Q:Hid (t1=true↔Zg b.own):=by show _↔_;rw[a1,decide_eq_true_eq]
 clear a1;rintro e v ⟨rfl,A⟩;have A:=A.symm;subst A
 cases t1 with
 | false =>
  have y:Hid (¬ Zt x i):=λh=>by have h:=(show _ from h);unfold Zt at h;rw[← s.out] at h;have:=Q.2 h.2.2.1;cases this
  go_wp2;go_ret;exact⟨zl y,c⟩
 | true =>
 have a6:=hI (Q.1 rfl);clear Q;go_wp2_with fail;refine(zkO D B _ _ J E _ _ _ b4.1.1 b3.2 (d1.below c) (d0.below c)).mono ?_;rintro e v2 ⟨⟨t2,rfl,b7⟩,u⟩;have R:=hI b7;clear b7;have I:=zb n u;have H:=zb m u;have K:=ze c u;clear y0 y1 y2 y3 y4 y5 y6 y7 y8 y9 F G L z0 z2 c n m u;have c:=K;have n:=I;have m:=H;clear K I H;obtain⟨y0,y1,y2,y3,y4,y5,y6,y7,y8,y9,F,G,L⟩:=zeX m;have z0:=za n 0 _ rfl;have z2:=za n 2 _ rfl
 cases t2 with
 | false =>
  have y:Hid (¬ Zt x i):=λh=>by have h:=(show _ from h);unfold Zt at h;rw[← s.out] at h;have:=R.2 h.2.2.2.1;cases this
  go_wp2;go_ret;exact⟨zl y,c⟩
 | true =>
 have a7:=hI (R.1 rfl);clear R;go_wp2_with fail;refine(zaz _ _ _ _ _ _ _).mono ?_;rintro e v3 ⟨⟨t3,rfl,b8⟩,u⟩;have S:=hI b8;clear b8;have I:=zb n u;have H:=zb m u;have K:=ze c u;clear y0 y1 y2 y3 y4 y5 y6 y7 y8 y9 F G L z0 z2 c n m u;have c:=K;have n:=I;have m:=H;clear K I H;obtain⟨y0,y1,y2,y3,y4,y5,y6,y7,y8,y9,F,G,L⟩:=zeX m;have z0:=za n 0 _ rfl;have z2:=za n 2 _ rfl
 cases t3 with
 | false =>
  have y:Hid (¬ Zt x i):=λh=>by have h:=(show _ from h);unfold Zt at h;rw[← s.out] at h;have:=S.2 h.2.2.2.2.1;cases this
  go_wp2;go_ret;exact⟨zl y,c⟩
 | true =>
 have a8:=hI (S.1 rfl);clear S;go_wp2_with fail;refine(zt _ _ _ _).mono ?_;obtain⟨t4,a2⟩:∃ t,t=decide (In b.state 1 4):=⟨_,rfl⟩;rw[← a2];have T:Hid (t4=true↔In b.state 1 4):=by show _↔_;rw[a2,decide_eq_true_eq]
 clear a2;rintro e v ⟨rfl,A⟩;have A:=A.symm;subst A
 cases t4 with
 | false =>
  have y:Hid (¬ Zt x i):=λh=>by have h:=(show _ from h);unfold Zt at h;rw[← s.out] at h;have:=T.2 h.2.2.2.2.2.1;cases this
  go_wp2;go_ret;exact⟨zl y,c⟩
 | true =>
 have a9:=hI (T.1 rfl);clear T;go_wp2_with fail;refine(zt _ _ _ _).mono ?_;obtain⟨t5,a3⟩:∃ t,t=decide (In b.price 0 1000000):=⟨_,rfl⟩;rw[← a3];have U:Hid (t5=true↔In b.price 0 1000000):=by show _↔_;rw[a3,decide_eq_true_eq]
 clear a3;rintro e v ⟨rfl,A⟩;have A:=A.symm;subst A
 cases t5 with
 | false =>
  have y:Hid (¬ Zt x i):=λh=>by have h:=(show _ from h);unfold Zt at h;rw[← s.out] at h;have:=U.2 h.2.2.2.2.2.2.1;cases this
  go_wp2;go_ret;exact⟨zl y,c⟩
 | true =>
 have b1:=hI (U.1 rfl);clear U;have e5:(x.bkn:Int)<=(z:Int):=by omega
 have f1:(i:Int)<=(z:Int):=by omega
 go_wp2;clear y0 y1 y2 y3 y4 y5 y6 y7 y8 y9 F G L z0 z2;go_loopw [7,61] (λ_ q wr=>∃ k,k<=i/\q=int i64 k/\(∀ j,j<k->(x.bk j).who≠b.who)/\Below v3.heap.size v3 wr) (λ_ q _=>i - (intOf q).toNat)
 case atStart=>exact⟨0,Jq _,rfl,λj hj=>by omega,bZ⟩
 case round =>
  obtain⟨k,hk,rfl,O,r⟩:=hrel;have HA:=hI O;clear O
  by_cases hlt:k<i
  ·obtain⟨b2,o2,e2,l⟩:=HC k (by omega)
   simp only[Option.some.injEq,Addr.mk.injEq,and_true] at e2;obtain⟨rfl,rfl⟩:=e2;obtain⟨d2,d6,g,_,_⟩:=HI k (by omega)
   obtain⟨d,hd⟩:∃ d,d=x.bk k:=⟨_,rfl⟩;rw[← hd] at g;have HD:=hI hd;clear hd;have f:=ze c r;have g0:wr.cell? _=some (.int _ _):=(f.cell (p:=⟨bb,bo+_,_⟩) a).trans (by have:=l 0 (by decide);rw[g] at this;exact this)
   have g1:wr.cell? _=some (.int _ _):=(f.cell a).trans (by have:=l 1 (by decide);rw[g] at this;exact this)
   have g2:wr.cell? _=some (.string _):=(f.cell a).trans (by have:=l 2 (by decide);rw[g] at this;exact this)
   have g3:wr.cell? _=some (.slice d2 _ d6):=(f.cell a).trans (by have:=l 3 (by decide);rw[g] at this;exact this)
   have g4:wr.cell? _=some (.int _ _):=(f.cell a).trans (by have:=l 4 (by decide);rw[g] at this;exact this)
   have g5:wr.cell? _=some (.int _ _):=(f.cell a).trans (by have:=l 5 (by decide);rw[g] at this;exact this)
   have g6:wr.cell? _=some (.int _ _):=(f.cell a).trans (by have:=l 6 (by decide);rw[g] at this;exact this)
   have g7:wr.cell? _=some (.int _ _):=(f.cell a).trans (by have:=l 7 (by decide);rw[g] at this;exact this)
   have g8:wr.cell? _=some (.bool _):=(f.cell a).trans (by have:=l 8 (by decide);rw[g] at this;exact this)
   have g9:wr.cell? _=some (.int _ _):=(f.cell a).trans (by have:=l 9 (by decide);rw[g] at this;exact this)
   have V:wr.cell? _=some (.int _ _):=(f.cell a).trans (by have:=l 10 (by decide);rw[g] at this;exact this)
   have X:wr.cell? _=some (.int _ _):=(f.cell a).trans (by have:=l 11 (by decide);rw[g] at this;exact this)
   have Y:wr.cell? _=some (.int _ _):=(f.cell a).trans (by have:=l 12 (by decide);rw[g] at this;exact this)
   have y1:∀ o,(wr.alloc o).cell? _=some (.int _ _):=λo=>za (zd (zb m r) o) 1 _ rfl
   clear l g f
   by_cases e3:d.who=b.who
   ·have d7:(d.who == b.who)=true:=by simpa using e3
    have y:Hid (¬ Zt x i):=λh=>h.2.2.2.2.2.2.2.1 k hlt (by rw[← HD.out,← s.out];exact e3)
    clear e3;go_wp2;go_ret;exact⟨zl y,zk (ze c r) _⟩
   ·have d7:(d.who == b.who)=false:=by simpa using e3
    have y:Hid ((x.bk k).who≠b.who):=by rw[← HD.out];exact e3
    clear e3;go_wp2;go_roundw
    case rel=>exact⟨k+1,by omega,by go_num,λj hj=>by
     by_cases e:j=k
     ·subst e;exact y
     ·exact HA j (by omega),zk r _⟩
    case measure=>simp[intOf];omega
  ·obtain rfl:k=i:=by omega
   have f:=ze c r;have F:=za (zb m r) 10 _ rfl;have G:=za (zb m r) 11 _ rfl;have HF:Hid (Zt x k↔zaA b):=by
    show _↔_
    unfold Zt;rw[← s.out];exact⟨λh=>h.2.2.2.2.2.2.2.2,λh=>⟨a4,a5,a6,a7,a8,a9,b1,HA,h⟩⟩
   clear a4 a5 a6 a7 a8 a9 b1 HA r
   by_cases s1:b.state=1
   ·have d9:(b.state == 1)=true:=by simpa using s1
    have HU:Hid (zaA b↔In b.unt 0 10000):=by show _↔_;unfold zaA;rw[Jf (.inl s1)]
    clear s1;go_wp2_with (first|(go_at_call 148;refine sC (zt _ _ _ _) ?_))
    go_ret;exact⟨⟨_,rfl,by rw[decide_eq_true_eq,HF.out,HU.out]⟩,f⟩
   ·have d9:(b.state == 1)=false:=by simpa using s1
    by_cases s4:b.state=4
    ·have e4:(b.state == 4)=true:=by simpa using s4
     have HU:Hid (zaA b↔In b.unt 0 10000):=by show _↔_;unfold zaA;rw[Jf (.inr s4)]
     clear s1 s4;go_wp2_with (first|(go_at_call 148;refine sC (zt _ _ _ _) ?_))
     go_ret;exact⟨⟨_,rfl,by rw[decide_eq_true_eq,HF.out,HU.out]⟩,f⟩
    ·have e4:(b.state == 4)=false:=by simpa using s4
     have HU:Hid (zaA b↔b.unt=0):=by show _↔_;unfold zaA;rw[Je (λh=>by rcases h with h|h;exact s1 h;exact s4 h)]
     clear s1 s4;go_wp2;go_ret;exact⟨⟨_,rfl,by rw[beq_iff_eq,HF.out,HU.out]⟩,f⟩
section
open Go.RowKit
theorem zmo (x:Off)(b9 e4 e0:Option Addr)(e5 d4 d3:Nat)(w:World)(hs:Off.Short x 1048576)(j2:qB w b9 x.san x.sa)(L:ZG w e4 x.ldn x.ld)(j1:qO w e0 x.bkn x.bk)(k9:x.bkn<=d3) :
  Calls prog 42 #[.agg #[(b9,x.san,e5),(e4,x.ldn,d4),(e0,x.bkn,d3)]] w λe w'=>qX (Zk x) e/\Below w.heap.size w w':=by
 have g0:=hI j2;have i7:=hI L;have i4:=hI j1;have a1:=hI hs;have n1:=hs.1.1;have n2:=hs.2.1.1;have n3:=hs.2.2.1;clear j2 L j1 hs;have g2:Below _ w (w.alloc (.cells #[(b9,x.san,e5),(e4,x.ldn,d4),(e0,x.bkn,d3)] 38)):=zk bZ _;have bO:=Jb w (.cells #[(b9,x.san,e5),(e4,x.ldn,d4),(e0,x.bkn,d3)] 38);go_enter func42,ntmps42;go_wp2_with fail;generalize w.alloc _=V0 at g2 bO ⊢;refine(zma b9 _ e5 _ _ n1 a1.1.2 (g0.below g2)).mono ?_;rintro e V ⟨⟨t0,rfl,j3⟩,h5⟩;have h4:=hI j3;have a6:=zb bO h5;have r:=ze g2 h5;clear j3 g2 bO h5 V0;obtain⟨z0,z1,z2⟩:=ce3 a6
 cases t0 with
 | false =>
  have v:Hid (¬ Zk x):=λh=>by have:=h4.2 h.1;cases this
  go_wp2;go_ret;exact⟨zl v,r⟩
 | true =>
 have i9:=hI (h4.1 rfl);clear h4
 by_cases m1:x.ldn=x.san
 case neg =>
  have e1:((x.ldn:Int) != (x.san:Int))=true:=by simp;omega
  have v:Hid (¬ Zk x):=λh=>m1 h.2.1
  clear m1;go_wp2;go_ret;exact⟨zl v,r⟩
 have e1:((x.ldn:Int) != (x.san:Int))=false:=by simp;omega
 by_cases m2:x.bkn<=30
 case neg =>
  have e2:decide ((30:Int)<(x.bkn:Int))=true:=by simp;omega
  have v:Hid (¬ Zk x):=λh=>m2 h.2.2.1
  clear m1 m2;go_wp2;go_ret;exact⟨zl v,r⟩
 have e2:decide ((30:Int)<(x.bkn:Int))=false:=by simp;omega
 have f:=hI m1;have P:=hI m2;clear m1;go_wp2;clear e1 e2 z0 z1 z2;go_loopw [3,4,5,37] (λ_ _ _ q wr=>∃ k,k<=x.san/\q=int i64 k/\(∀ j,j<k->qm (x.sa j) (x.ld j))/\Below V.heap.size V wr) (λ_ _ _ q _=>x.san - (intOf q).toNat)
 case atStart=>exact⟨0,Jq _,rfl,λj hj=>by omega,bZ⟩
 case round =>
  obtain⟨k,hk,rfl,n,c⟩:=hrel;have HA:=hI n;clear n;have a:=ze r c
  by_cases hlt:k<x.san
  ·obtain⟨sb,so,la,lc,ca,cc,rfl,f0,f1,f2,f3,f4,f5,f6,f7,a9,a8,f8,e9⟩:=g0 k hlt
   obtain⟨s,R⟩:∃ s,s=x.sa k:=⟨_,rfl⟩;rw[← R] at f0 f1 f2 f3 f4 f5 f6 f7 a9 a8 f8 e9;have M:=hI R;have g9:Hid (zoy s 1048576):=by rw[R];exact a1.1.2 k hlt
   have u:=Ja w _ f0;have c0:=(a.cell u).trans f0;have c1:=(a.cell (p:=⟨sb,_+1,_⟩) u).trans f1;have c2:=(a.cell (p:=⟨sb,_+2,_⟩) u).trans f2;have c3:=(a.cell (p:=⟨sb,_+3,_⟩) u).trans f3;have c4:=(a.cell (p:=⟨sb,_+4,_⟩) u).trans f4;have c5:=(a.cell (p:=⟨sb,_+5,_⟩) u).trans f5;have c6:=(a.cell (p:=⟨sb,_+6,_⟩) u).trans f6;have c7:=(a.cell (p:=⟨sb,_+7,_⟩) u).trans f7;obtain⟨C,hC,hI⟩:=i7;obtain⟨lb,lo,rfl,I⟩:=hC k (by have:=f.out;omega)
   obtain⟨l,L⟩:∃ l,l=x.ld k:=⟨_,rfl⟩;obtain⟨D,G,A,E,B,F,H,b2,b6,b0,b4,b1,b5⟩:=hI k (by have:=f.out;omega)
   rw[← L] at H b2 b6 b0 b4 b1 b5;have S:Hid _:=L;have a0:Hid (zY.Short l 1048576):=by rw[L];exact a1.out.2.1.2 k (by have:=f.out;omega)
   have b3:lb<w.heap.size:=Ja w _ (I 0 (by decide))
   have d0:∀ o,(wr.alloc o).cell? _=some (.slice D _ G):=λo=>((a.alloc a.size o).cell (p:=⟨lb,lo+_,_⟩) b3).trans (by have:=I 0 (by decide);rw[H] at this;exact this)
   have d1:∀ o,(wr.alloc o).cell? _=some (.slice A _ E):=λo=>((a.alloc a.size o).cell b3).trans (by have:=I 1 (by decide);rw[H] at this;exact this)
   have d2:∀ o,(wr.alloc o).cell? _=some (.slice B _ F):=λo=>((a.alloc a.size o).cell b3).trans (by have:=I 2 (by decide);rw[H] at this;exact this)
   have i6:=hI a9;have g6:=hI a8;have h0:=hI b2;have g7:=hI b0;have g8:=hI b1;have q1:=b6.1;have q2:=b4.1;have q3:=b5.1;clear hC hI I H R L f0 f1 f2 f3 f4 f5 f6 f7 a9 a8 f8 e9 b2 b6 b0 b4 b1 b5;have l3:(0:Int)<=(k:Int):=by omega
   have l4:(k:Int)<(x.ldn:Int):=by have:=f.out;omega
   have z1:∀ o,(wr.alloc o).cell? _=some (.slice _ _ d4):=λo=>za (zd (zb a6 c) o) 1 _ rfl
   go_wp2_with fail;have d:Below _ V ((wr.alloc (.cells (s,la,lc,ca,cc) 140)).alloc (.cells #[(D,l.stn,G),(A,l.ron,E),(B,l.sen,F)] 145)):=(c.alloc c.size _).alloc (by have:=c.size;simp;omega) _
   have O:((wr.alloc _).alloc (.cells #[(D,l.stn,G),(A,l.ron,E),(B,l.sen,F)] 145)).heap[wr.heap.size]?=some (.cells (s,la,lc,ca,cc) 140 (0,0)):=zd (Jb wr _) _;have N:((wr.alloc (.cells (s,la,lc,ca,cc) 140)).alloc (.cells #[(D,l.stn,G),(A,l.ron,E),(B,l.sen,F)] 145)).heap[wr.heap.size+1]?=some (.cells #[(D,l.stn,G),(A,l.ron,E),(B,l.sen,F)] 145 (0,0)):=by simpa using Jb (wr.alloc _) _
   generalize ((wr.alloc _).alloc _)=X at d O N ⊢;clear c0 c1 c2 c3 c4 c5 c6 c7 d0 d1 d2 z1 a;have a:=ze r d;have s6:=za O 6 _ rfl;have s7:=za O 7 _ rfl;have l1:=za N 1 _ rfl;have l2:=za N 2 _ rfl;refine(zkv la D _ lc _ G _ _ _ rfl g9.2.2.1 a0.1 q1 (i6.below a) (h0.below a)).mono ?_;rintro e X1 ⟨⟨t1,rfl,d6⟩,g⟩;have a2:=hI d6;clear d6;have W:=zb O g;have U:=zb N g;have K:=ze d g;clear s6 s7 l1 l2 O N d a g;have O:=W;have N:=U;have d:=K;clear W U K;have a:=ze r d;have s6:=za O 6 _ rfl;have s7:=za O 7 _ rfl;have l1:=za N 1 _ rfl;have l2:=za N 2 _ rfl
   cases t1 with
   | false =>
    have v:Hid (¬ Zk x):=λh=>by have h:=h.2.2.2.1 k hlt;rw[← M.out,← S.out] at h;have:=a2.2 h.1;cases this
    go_wp2;go_ret;exact⟨zl v,a⟩
   | true =>
   have k2:=hI (a2.1 rfl);clear a2;go_wp2_with fail;refine(ziL ca A _ cc _ E _ _ _ rfl g9.2.2.2 a0.2.1 q2 (g6.below a) (g7.below a)).mono ?_;rintro e X2 ⟨⟨t2,rfl,e7⟩,g⟩;have a3:=hI e7;clear e7;have W:=zb O g;have U:=zb N g;have K:=ze d g;clear s6 s7 l1 l2 O N d a g;have O:=W;have N:=U;have d:=K;clear W U K;have a:=ze r d;have s6:=za O 6 _ rfl;have s7:=za O 7 _ rfl;have l1:=za N 1 _ rfl;have l2:=za N 2 _ rfl
   cases t2 with
   | false =>
    have v:Hid (¬ Zk x):=λh=>by have h:=h.2.2.2.1 k hlt;rw[← M.out,← S.out] at h;have:=a3.2 h.2.1;cases this
    go_wp2;go_ret;exact⟨zl v,a⟩
   | true =>
   have k3:=hI (a3.1 rfl);clear a3;go_wp2_with fail;refine(zji _ B _ F _ _ (by have:=a0.2.2;omega) q3 (g8.below a)).mono ?_
   rintro e X3 ⟨⟨t3,rfl,e8⟩,g⟩;have a4:=hI e8;clear e8;have W:=zb O g;have U:=zb N g;have K:=ze d g;clear s6 s7 l1 l2 O N d a g;have O:=W;have N:=U;have d:=K;clear W U K;have a:=ze r d;have s6:=za O 6 _ rfl;have s7:=za O 7 _ rfl;have l1:=za N 1 _ rfl;have l2:=za N 2 _ rfl
   cases t3 with
   | false =>
    have v:Hid (¬ Zk x):=λh=>by have h:=h.2.2.2.1 k hlt;rw[← M.out,← S.out] at h;have:=a4.2 h.2.2;cases this
    go_wp2;go_ret;exact⟨zl v,a⟩
   | true =>
   have k4:=hI (a4.1 rfl);clear a4;have d7:Hid (qm (x.sa k) (x.ld k)):=by show qm _ _;rw[← M.out,← S.out];exact⟨k2,k3,k4⟩
   clear s6 s7 l1 l2;go_wp2;go_roundw
   case rel=>exact⟨k+1,by omega,by go_num,λj hj=>by
    by_cases e:j=k
    ·subst e;exact d7
    ·exact HA j (by omega),d⟩
   case measure=>simp[intOf];omega
  ·obtain rfl:k=x.san:=by omega
   have i5:=hI HA;have i3:=hI c;have z2:=za (zb a6 c) 2 _ rfl;clear HA c a hk hlt;go_wp2;clear z2;go_loopw [6,73] (λ_ q wr=>∃ k,k<=x.bkn/\q=int i64 k/\(∀ j,j<k->Zt x j)/\Below V.heap.size V wr) (λ_ q _=>x.bkn - (intOf q).toNat)
   case atStart=>exact⟨0,Jq _,rfl,λj hj=>by omega,i3⟩
   case round =>
    obtain⟨k,hk,rfl,n,c⟩:=hrel;have HA:=hI n;clear n;have a:=ze r c
    by_cases hlt:k<x.bkn
    ·obtain⟨C,hC,hI⟩:=i4
     obtain⟨bb,bo,rfl,_⟩:=hC k hlt;have j8:=hI (hC.below a);have j9:Hid _:=λk hk=>(hI k hk).below a
     obtain⟨z0,z1,z2⟩:=ce3 (zb a6 c);clear hC hI;go_wp2_with fail;refine(zjo x b9 e4 bb bo e5 d4 d3 k C _ hlt a1 (g0.below a) j8 j9 k9).mono ?_;rintro e X ⟨⟨t,rfl,ht⟩,d⟩;have HT:=hI ht;clear ht z0 z1 z2
     cases t with
     | false =>
      have v:Hid (¬ Zk x):=λh=>by have:=HT.2 (h.2.2.2.2.1 k hlt);cases this
      go_wp2;go_ret;exact⟨zl v,ze a d⟩
     | true =>
      have HP:=hI (HT.1 rfl);clear HT;go_wp2;go_roundw
      case rel=>exact⟨k+1,by omega,by go_num,λj hj=>by
       by_cases e:j=k
       ·subst e;exact HP
       ·exact HA j (by omega),ze c d⟩
      case measure=>simp[intOf];omega
    ·obtain rfl:k=x.bkn:=by omega
     have k0:=hI HA;have j5:=hI c;have z0:=za (zb a6 c) 0 _ rfl;clear HA c a hk hlt i3;go_wp2;clear z0;go_loopw [7,8,9,10,11,12,14,84,95,96,97] (λ_ _ _ _ _ _ _ q _ _ _ wr=>∃ k,k<=x.san/\q=int i64 k/\(∀ j,j<k->zaQ x j)/\Below V.heap.size V wr) (λ_ _ _ _ _ _ _ q _ _ _ _=>x.san - (intOf q).toNat)
     case atStart=>exact⟨0,Jq _,rfl,λj hj=>by omega,j5⟩
     case round =>
      obtain⟨k,hk,rfl,n,c⟩:=hrel;have HA:=hI n;clear n;have a:=ze r c
      by_cases hlt:k<x.san
      ·obtain⟨sb,so,la,lc,ca,cc,rfl,f0,f1,f2,f3,f4,f5,f6,f7,a9,a8,f8,e9⟩:=g0 k hlt
       obtain⟨s,R⟩:∃ s,s=x.sa k:=⟨_,rfl⟩;rw[← R] at f0 f1 f2 f3 f4 f5 f6 f7 a9 a8 f8 e9;have M:=hI R;have g9:Hid (zoy s 1048576):=by rw[R];exact a1.1.2 k hlt
       have u:=Ja w _ f0;have c0:=(a.cell u).trans f0;have c1:=(a.cell (p:=⟨sb,_+1,_⟩) u).trans f1;have c2:=(a.cell (p:=⟨sb,_+2,_⟩) u).trans f2;have c3:=(a.cell (p:=⟨sb,_+3,_⟩) u).trans f3;have c4:=(a.cell (p:=⟨sb,_+4,_⟩) u).trans f4;have c5:=(a.cell (p:=⟨sb,_+5,_⟩) u).trans f5;have c6:=(a.cell (p:=⟨sb,_+6,_⟩) u).trans f6;have c7:=(a.cell (p:=⟨sb,_+7,_⟩) u).trans f7;obtain⟨C,hC,hI⟩:=i7;obtain⟨lb,lo,rfl,I⟩:=hC k (by have:=f.out;omega)
       obtain⟨l,L⟩:∃ l,l=x.ld k:=⟨_,rfl⟩;obtain⟨D,G,A,E,B,F,H,b2,b6,b0,b4,b1,b5⟩:=hI k (by have:=f.out;omega)
       rw[← L] at H b2 b6 b0 b4 b1 b5;have S:Hid _:=L;have a0:Hid (zY.Short l 1048576):=by rw[L];exact a1.out.2.1.2 k (by have:=f.out;omega)
       have b3:lb<w.heap.size:=Ja w _ (I 0 (by decide))
       have d0:∀ o,(wr.alloc o).cell? _=some (.slice D _ G):=λo=>((a.alloc a.size o).cell (p:=⟨lb,lo+_,_⟩) b3).trans (by have:=I 0 (by decide);rw[H] at this;exact this)
       have d1:∀ o,(wr.alloc o).cell? _=some (.slice A _ E):=λo=>((a.alloc a.size o).cell b3).trans (by have:=I 1 (by decide);rw[H] at this;exact this)
       have d2:∀ o,(wr.alloc o).cell? _=some (.slice B _ F):=λo=>((a.alloc a.size o).cell b3).trans (by have:=I 2 (by decide);rw[H] at this;exact this)
       have i6:=hI a9;have g6:=hI a8;have h0:=hI b2;have g7:=hI b0;have g8:=hI b1;have q1:=b6.1;have q2:=b4.1;have q3:=b5.1;clear hC hI I H R L f0 f1 f2 f3 f4 f5 f6 f7 a9 a8 f8 e9 b2 b6 b0 b4 b1 b5;have d7:=i5 k hlt;rw[← M.out,← S.out] at d7;have j7:=hI (λj hj=>zki d7.2.1 j hj)
       clear d7;have l3:(0:Int)<=(k:Int):=by omega
       have l4:(k:Int)<(x.ldn:Int):=by have:=f.out;omega
       have z1:∀ o,(wr.alloc o).cell? _=some (.slice _ _ d4):=λo=>za (zd (zb a6 c) o) 1 _ rfl
       have z2:∀ o p,((wr.alloc o).alloc p).cell? _=some (.slice e0 _ d3):=λo p=>za (zd (zd (zb a6 c) o) p) 2 _ rfl
       go_wp2;have d:Below _ V ((wr.alloc (.cells (s,la,lc,ca,cc) 140)).alloc (.cells #[(D,l.stn,G),(A,l.ron,E),(B,l.sen,F)] 145)):=(c.alloc c.size _).alloc (by have:=c.size;simp;omega) _
       have O:((wr.alloc _).alloc (.cells #[(D,l.stn,G),(A,l.ron,E),(B,l.sen,F)] 145)).heap[wr.heap.size]?=some (.cells (s,la,lc,ca,cc) 140 (0,0)):=zd (Jb wr _) _;have N:((wr.alloc (.cells (s,la,lc,ca,cc) 140)).alloc (.cells #[(D,l.stn,G),(A,l.ron,E),(B,l.sen,F)] 145)).heap[wr.heap.size+1]?=some (.cells #[(D,l.stn,G),(A,l.ron,E),(B,l.sen,F)] 145 (0,0)):=by simpa using Jb (wr.alloc _) _
       generalize ((wr.alloc _).alloc _)=X at d O N ⊢;generalize wr.heap.size=n5 at O N ⊢;clear c0 c1 c2 c3 c4 c5 c6 c7 d0 d1 d2 z1 z2 a c;go_loopw [10,11,12,14,97] (λl6 l7 l8 _ q wq=>∃ (i:Nat),i<=x.bkn/\q=int i64 i/\l6=int i64 (cnt (λi=>On x k i/\0<(x.bk i).len) i:Nat)/\l7=int i64 (cnt (λi=>On x k i/\0<(x.bk i).cl) i:Nat)/\l8=int i64 (cnt (On x k) i:Nat)/\(∀ j,j<i->On x k j->zbX s l (x.bk j))/\Below X.heap.size X wq) (λ_ _ _ _ q _=>x.bkn - (intOf q).toNat)
       case atStart=>exact⟨0,Jq _,rfl,rfl,rfl,rfl,λj hj=>by omega,bZ⟩
       case round =>
        obtain⟨i,hi,rfl,rfl,rfl,rfl,n,c⟩:=hrel;have HW:=hI n;clear n;have a:=ze (ze r d) c;obtain⟨m0,g3⟩:∃ m,m=cnt (λi=>On x k i/\0<(x.bk i).len) i:=⟨_,rfl⟩
        have m5:m0<=i:=by rw[g3];exact zhT _ _
        have T:=hI g3;rw[← g3];clear g3;obtain⟨m1,g4⟩:∃ m,m=cnt (λi=>On x k i/\0<(x.bk i).cl) i:=⟨_,rfl⟩
        have m6:m1<=i:=by rw[g4];exact zhT _ _
        have f:=hI g4;rw[← g4];clear g4;obtain⟨m2,g5⟩:∃ m,m=cnt (On x k) i:=⟨_,rfl⟩;have m7:m2<=i:=by rw[g5];exact zhT _ _
        have P:=hI g5;rw[← g5];clear g5
        by_cases hlt2:i<x.bkn
        ·obtain⟨C,hC,hI⟩:=i4
         obtain⟨bb,bo,rfl,I⟩:=hC i hlt2;obtain⟨b8,d5,H,h6,j4⟩:=hI i hlt2;obtain⟨b,hb⟩:∃ b,b=x.bk i:=⟨_,rfl⟩;rw[← hb] at H h6 j4;have z:Hid _:=hb;have k1:=hI h6;have j6:Hid (ql.Short b 1048576):=by rw[hb];exact a1.2.2.2 i hlt2
         have J:bb<w.heap.size:=Ja w _ (I 0 (by decide))
         have c0:wr.cell? _=some (.int _ _):=(a.cell (p:=⟨bb,bo+_,_⟩) J).trans (by have:=I 0 (by decide);rw[H] at this;exact this)
         have c1:wr.cell? _=some (.int _ _):=(a.cell J).trans (by have:=I 1 (by decide);rw[H] at this;exact this)
         have c2:wr.cell? _=some (.string _):=(a.cell J).trans (by have:=I 2 (by decide);rw[H] at this;exact this)
         have c3:wr.cell? _=some (.slice b8 _ d5):=(a.cell J).trans (by have:=I 3 (by decide);rw[H] at this;exact this)
         have c4:wr.cell? _=some (.int _ _):=(a.cell J).trans (by have:=I 4 (by decide);rw[H] at this;exact this)
         have c5:wr.cell? _=some (.int _ _):=(a.cell J).trans (by have:=I 5 (by decide);rw[H] at this;exact this)
         have c6:wr.cell? _=some (.int _ _):=(a.cell J).trans (by have:=I 6 (by decide);rw[H] at this;exact this)
         have c7:wr.cell? _=some (.int _ _):=(a.cell J).trans (by have:=I 7 (by decide);rw[H] at this;exact this)
         have c8:wr.cell? _=some (.bool _):=(a.cell J).trans (by have:=I 8 (by decide);rw[H] at this;exact this)
         have c9:wr.cell? _=some (.int _ _):=(a.cell J).trans (by have:=I 9 (by decide);rw[H] at this;exact this)
         have k6:wr.cell? _=some (.int _ _):=(a.cell J).trans (by have:=I 10 (by decide);rw[H] at this;exact this)
         have k7:wr.cell? _=some (.int _ _):=(a.cell J).trans (by have:=I 11 (by decide);rw[H] at this;exact this)
         have k8:wr.cell? _=some (.int _ _):=(a.cell J).trans (by have:=I 12 (by decide);rw[H] at this;exact this)
         clear hC hI I H hb h6 j4;go_wp2_with fail;have bB:=Jb wr (.cells (b,b8,d5) 150);have g:Below _ X (wr.alloc (.cells (b,b8,d5) 150)):=zk c _;generalize wr.alloc _=Y at bB g ⊢;generalize wr.heap.size=n4 at bB ⊢;clear c0 c1 c2 c3 c4 c5 c6 c7 c8 c9 k6 k7 k8 c a;refine(zft b b8 d5 _).mono ?_;rintro e Y1 ⟨rfl,a7⟩;have g1:=zb bB a7;have y:=ze g a7;clear bB g a7;obtain⟨t1,d6⟩:∃ t,t=decide (zez b):=⟨_,rfl⟩;rw[← d6];have a2:Hid (t1=true↔zez b):=by show _↔_;rw[d6,decide_eq_true_eq]
         clear d6
         cases t1 with
         | false =>
          have v:Hid (¬ On x k i):=λh=>by unfold On at h;rw[← z.out,← M.out] at h;have:=a2.2 h.1;cases this
          go_wp2;go_roundw
          case rel=>exact⟨i+1,by omega,by go_num,by rw[zae (λh=>v.out h.1),← T.out],by rw[zae (λh=>v.out h.1),← f.out],by rw[zae v.out,← P.out],λj hj ho=>by
           by_cases e:j=i
           ·subst e;exact absurd ho v
           ·exact HW j (by omega) ho,y⟩
          case measure=>simp[intOf];omega
         | true =>
          have i8:=hI (a2.1 rfl);clear a2;have y3:=za g1 3 _ rfl;have s0:=za (zb O y) 0 _ rfl;go_wp2_with fail;refine(zkV b8 _ d5 _ _ _ j6.2 (k1.below (ze (ze r d) y))).mono ?_;rintro e Y2 ⟨⟨t2,rfl,e7⟩,h7⟩;have h7:=h7.symm;subst h7;have a3:=hI e7;clear e7 y3 s0
          cases t2 with
          | false =>
           have v:Hid (¬ On x k i):=λh=>by unfold On at h;rw[← z.out,← M.out] at h;have:=a3.2 h.2;cases this
           go_wp2;go_roundw
           case rel=>exact⟨i+1,by omega,by go_num,by rw[zae (λh=>v.out h.1),← T.out],by rw[zae (λh=>v.out h.1),← f.out],by rw[zae v.out,← P.out],λj hj ho=>by
            by_cases e:j=i
            ·subst e;exact absurd ho v
            ·exact HW j (by omega) ho,y⟩
           case measure=>simp[intOf];omega
          | true =>
           have Q:Hid (On x k i):=by show On x k i;unfold On;rw[← z.out,← M.out];exact⟨i8,a3.1 rfl⟩
           clear a3 i8;obtain⟨y0,y1,y2,y3,y4,y5,y6,y7,y8,y9,l9,m3,m4⟩:=zeX g1;obtain⟨s0,s1,s2,s3,s4,s5,s6,s7⟩:=ce8 (zb O y);obtain⟨l0,l1,l2⟩:=ce3 (zb N y);have e6:=ze (ze r d) y;go_wp2_with fail;refine(zkM s la ca lc cc l D A B G E F b b8 d5 _ a0.1 a0.2.1 a0.2.2 (g6.below e6) (h0.below e6) (g7.below e6) (g8.below e6) j7).mono ?_;rintro e Y3 ⟨⟨t3,rfl,e8⟩,a7⟩;have a4:=hI e8;have j0:=zb g1 a7;have Z:=ze y a7;clear e8 y0 y1 y2 y3 y4 y5 y6 y7 y8 y9 l9 m3 m4 s0 s1 s2 s3 s4 s5 s6 s7 l0 l1 l2 g1 y a7 e6
           cases t3 with
           | false =>
            have v:Hid (¬ Zk x):=λh=>by have h:=(h.2.2.2.2.2 k hlt).1 i hlt2 Q;rw[← z.out,← M.out,← S.out] at h;have:=a4.2 h;cases this
            go_wp2;go_ret;exact⟨zl v,ze (ze r d) Z⟩
           | true =>
            have b7:Hid (zbX s l (x.bk i)):=by show zbX s l _;rw[← z.out];exact a4.1 rfl
            clear a4;have y5:=za j0 5 _ rfl;have y7:=za j0 7 _ rfl;have m8:IntKind.i64.wrap ((m0:Int)+1)=(m0:Int)+1:=by rw[Jk];omega
            have m9:IntKind.i64.wrap ((m1:Int)+1)=(m1:Int)+1:=by rw[Jk];omega
            have n0:IntKind.i64.wrap ((m2:Int)+1)=(m2:Int)+1:=by rw[Jk];omega
            by_cases u1:0<b.len
            ·have l5:=Jd u1
             have d9:=hI u1;clear u1
             by_cases u2:0<b.cl
             ·have i0:=Jd u2
              have a5:=hI u2;clear u2;go_wp2;go_roundw
              case rel=>exact⟨i+1,by omega,by go_num,by rw[Qy ⟨Q.out,by rw[← z.out];exact d9.out⟩,← T.out];simp,by rw[Qy ⟨Q.out,by rw[← z.out];exact a5.out⟩,← f.out];simp,by rw[Qy Q.out,← P.out];simp,λj hj ho=>by
               by_cases e:j=i
               ·subst e;exact b7
               ·exact HW j (by omega) ho,Z⟩
              case measure=>simp[intOf];omega
             ·have i0:=Jc u2
              have a5:=hI u2;clear u2;go_wp2;go_roundw
              case rel=>exact⟨i+1,by omega,by go_num,by rw[Qy ⟨Q.out,by rw[← z.out];exact d9.out⟩,← T.out];simp,by rw[zae (λh=>by have h1:=h.2;rw[← z.out] at h1;have h2:=a5.out;omega),← f.out],by rw[Qy Q.out,← P.out];simp,λj hj ho=>by
               by_cases e:j=i
               ·subst e;exact b7
               ·exact HW j (by omega) ho,Z⟩
              case measure=>simp[intOf];omega
            ·have l5:=Jc u1
             have d9:=hI u1;clear u1
             by_cases u2:0<b.cl
             ·have i0:=Jd u2
              have a5:=hI u2;clear u2;go_wp2;go_roundw
              case rel=>exact⟨i+1,by omega,by go_num,by rw[zae (λh=>by have h1:=h.2;rw[← z.out] at h1;have h2:=d9.out;omega),← T.out],by rw[Qy ⟨Q.out,by rw[← z.out];exact a5.out⟩,← f.out];simp,by rw[Qy Q.out,← P.out];simp,λj hj ho=>by
               by_cases e:j=i
               ·subst e;exact b7
               ·exact HW j (by omega) ho,Z⟩
              case measure=>simp[intOf];omega
             ·have i0:=Jc u2
              have a5:=hI u2;clear u2;go_wp2;go_roundw
              case rel=>exact⟨i+1,by omega,by go_num,by rw[zae (λh=>by have h1:=h.2;rw[← z.out] at h1;have h2:=d9.out;omega),← T.out],by rw[zae (λh=>by have h1:=h.2;rw[← z.out] at h1;have h2:=a5.out;omega),← f.out],by rw[Qy Q.out,← P.out];simp,λj hj ho=>by
               by_cases e:j=i
               ·subst e;exact b7
               ·exact HW j (by omega) ho,Z⟩
              case measure=>simp[intOf];omega
        ·obtain rfl:i=x.bkn:=by omega
         obtain⟨l0,l1,l2⟩:=ce3 (zb N c);have d8:Hid (zaQ x k↔l.stn=m0/\l.ron=m1/\l.sen=m2):=by
          show _↔_
          unfold zaQ;rw[← M.out,← S.out,T.out,f.out,P.out];exact⟨λh=>h.2,λh=>⟨HW,h⟩⟩
         have f9:=hI (ze d c);clear c T f P HW
         by_cases v1:l.stn=m0
         case neg =>
          have e1:((l.stn:Int) != (m0:Int))=true:=by simp;omega
          have v:Hid (¬ Zk x):=λh=>v1 (d8.1 (h.2.2.2.2.2 k hlt)).1
          clear v1;go_wp2;go_ret;exact⟨zl v,ze r f9⟩
         have e1:((l.stn:Int) != (m0:Int))=false:=by simp;omega
         by_cases v2:l.ron=m1
         case neg =>
          have e2:((l.ron:Int) != (m1:Int))=true:=by simp;omega
          have v:Hid (¬ Zk x):=λh=>v2 (d8.1 (h.2.2.2.2.2 k hlt)).2.1
          clear v1 v2;go_wp2;go_ret;exact⟨zl v,ze r f9⟩
         have e2:((l.ron:Int) != (m1:Int))=false:=by simp;omega
         by_cases v3:l.sen=m2
         case neg =>
          have e3:((l.sen:Int) != (m2:Int))=true:=by simp;omega
          have v:Hid (¬ Zk x):=λh=>v3 (d8.1 (h.2.2.2.2.2 k hlt)).2.2
          clear v1 v2 v3;go_wp2;go_ret;exact⟨zl v,ze r f9⟩
         have e3:((l.sen:Int) != (m2:Int))=false:=by simp;omega
         have k5:=hI (d8.2 ⟨v1,v2,v3⟩);clear v1 v2 v3 d8;go_wp2;go_roundw
         case rel=>exact⟨k+1,by omega,by go_num,λj hj=>by
          by_cases e:j=k
          ·subst e;exact k5
          ·exact HA j (by omega),f9⟩
         case measure=>simp[intOf];omega
      ·obtain rfl:k=x.san:=by omega
       have HY:Hid (Zk x):=⟨i9,f,P,i5,k0,HA⟩;clear HA;go_wp2;go_ret;exact⟨zR HY,a⟩
open Classical in
noncomputable instance (x:Off):Decidable (Zk x):=propDecidable _
end
def DopAns (x:Off)(a:Int)(y:OpD)(m base:Nat)(e:Ending)(w':World):Prop :=
 (Zk x/\zbn x.bkn x.bk a/\∃ x2 a1 c1 a2 c2 a3 c3 code name price rv L C A B D E,e=.returned (.tuple #[.agg #[.slice a1 x2.san c1,.slice a2 x2.ldn c2,.slice a3 x2.bkn c3],.agg #[int i64 code,int i64 name,int i64 price,rv],.bool true]) /\
  zF w' base (.slice a1 x2.san c1) (.slice a2 x2.ldn c2) (.slice a3 x2.bkn c3) x2.san x2.ldn x2.bkn x2 L C A B D E/\zhG x a y m x2 code name price/\RowsBe x a y m code w' rv) ∨
 (¬ (Zk x/\zbn x.bkn x.bk a)/\e=.returned (.tuple #[.agg #[True,True,True],.agg #[(),(),(),True],.bool false]))
theorem zmp (x:Off)(j i f o:Option Addr)(q p k r m:Nat)(F:Int)(y:OpD)(w:World)(hs:Off.Short x 1048576)(b5:qB w j x.san x.sa)(a8:ZG w i x.ldn x.ld)(a5:qO w f x.bkn x.bk)(f4:x.bkn<=k)(a9:zT w o y.lgn y.lg)(b6:qj o y.lgn r)(hl:y.lgn<=1048576)(ho:y.own.size<=1048576)(hm:zac y->In y.kind 4 8->y.name=(m:Int)+1/\m<=1048576) :
  Calls prog 8 #[.agg #[(j,x.san,q),(i,x.ldn,p),(f,x.bkn,k)],F,.agg (y,o,r)] w λe w'=>DopAns x F y m w.heap.size e w'/\Below w.heap.size w w':=by
 have HS:=hI hs;have G:Hid (_/\_/\_/\_/\_):=⟨b5,a8,a5,a9,b6⟩;have HN:=hI hm;clear hs b5 a8 a5 a9 b6 hm;have a:Below _ w ((((w.alloc (.cells #[(j,x.san,q),(i,x.ldn,p),(f,x.bkn,k)] 38)).alloc (.cells (y,o,r) 47)).alloc (.cells #[True,True,True] 38)).alloc (.cells #[(),(),(),True] 41)):=zk (zk (zk (zk bZ _) _) _) _;have O:=zd (zd (zd (Jb w (.cells #[(j,x.san,q),(i,x.ldn,p),(f,x.bkn,k)] 38)) (.cells (y,o,r) 47)) (.cells #[True,True,True] 38)) (.cells #[(),(),(),True] 41);have T:=zd (zd (zfT w (.cells #[(j,x.san,q),(i,x.ldn,p),(f,x.bkn,k)] 38) (.cells (y,o,r) 47)) (.cells #[True,True,True] 38)) (.cells #[(),(),(),True] 41);have t:=zd (show(((w.alloc (.cells #[(j,x.san,q),(i,x.ldn,p),(f,x.bkn,k)] 38)).alloc (.cells (y,o,r) 47)).alloc _).heap[w.heap.size+1+1]?=some (.cells #[True,True,True] 38 (0,0)) from by simpa using Jb ((w.alloc _).alloc _) _) (.cells #[(),(),(),True] 41)
 have s:((((w.alloc (.cells #[(j,x.san,q),(i,x.ldn,p),(f,x.bkn,k)] 38)).alloc (.cells (y,o,r) 47)).alloc (.cells #[True,True,True] 38)).alloc (.cells #[(),(),(),True] 41)).heap[w.heap.size+1+1+1]?=some (.cells #[(),(),(),True] 41 (0,0)):=by simpa using Jb (((w.alloc _).alloc _).alloc _) _
 go_enter func8,ntmps8;go_wp2_with fail;generalize ((((w.alloc _).alloc _).alloc _).alloc _)=W at a O T t s ⊢;refine(zmo x j i f q p k _ HS (G.1.below a) (G.2.1.below a) (G.2.2.1.below a) f4).mono ?_;rintro e V ⟨⟨t0,rfl,b7⟩,d⟩;have R:=hI b7;replace a:=ze a d;replace O:=zb O d;replace T:=zb T d;replace t:=zb t d;replace s:=zb s d;clear d W b7;obtain⟨f0,f1,f2⟩:=ce3 O
 cases t0 with
 | false =>
  have HF:Hid (¬ (_/\zbn x.bkn x.bk F)):=λh=>by have:=R.2 h.1;cases this
  obtain⟨s0,s1,s2⟩:=ce3 t;obtain⟨c0,c9,d0⟩:=fe3 t;obtain⟨t0,t1,t2,t3⟩:=ce4 s;obtain⟨d4,d5,d6,d7⟩:=fe4 s;have U:=(zkQ _ (w.heap.size+1+1) True True True).blk s (by show _;omega)
  have q2:=zeN t True True True;have q3:=(zaU _ (w.heap.size+1+1+1) () () () True).blk q2 (by show _;omega)
  have q4:=zcJ U () () () True;have P:=hI (zx.below (zx.below a a.size (zkQ _ (w.heap.size+1+1) True True True) (λb e=>by have e:=e;omega)) (by have:=a.size;simpa using this) (zaU _ (w.heap.size+1+1+1) () () () True) (λb e=>by have e:=e;omega))
  go_wp2;obtain⟨x0,x1,n⟩:=ce3 q3;obtain⟨z0,z1,z2,z3⟩:=ce4 q4;exact Jj (by simp[results,results8,go_sem,x0,x1,n,z0,z1,z2,z3]) rfl ⟨.inr ⟨HF.out,rfl⟩,P.out⟩
 | true =>
 have a1:=hI (R.1 rfl);clear R;go_wp2_with fail;refine(zmh j i f _ _ _ q p k x F _ (by have:=HS.2.2.1;omega) (G.2.2.1.below a)).mono ?_
 rintro e V2 ⟨⟨t1,rfl,b8⟩,d⟩;have S:=hI b8;replace a:=ze a d;replace O:=zb O d;replace T:=zb T d;replace t:=zb t d;replace s:=zb s d;clear d b8 f0 f1 f2 V
 cases t1 with
 | false =>
  have HF:Hid (¬ (Zk x/\_)):=λh=>by have:=S.2 h.2;cases this
  obtain⟨s0,s1,s2⟩:=ce3 t;obtain⟨c0,c9,d0⟩:=fe3 t;obtain⟨t0,t1,t2,t3⟩:=ce4 s;obtain⟨d4,d5,d6,d7⟩:=fe4 s;have U:=(zkQ _ (w.heap.size+1+1) True True True).blk s (by show _;omega)
  have q2:=zeN t True True True;have q3:=(zaU _ (w.heap.size+1+1+1) () () () True).blk q2 (by show _;omega)
  have q4:=zcJ U () () () True;have P:=hI (zx.below (zx.below a a.size (zkQ _ (w.heap.size+1+1) True True True) (λb e=>by have e:=e;omega)) (by have:=a.size;simpa using this) (zaU _ (w.heap.size+1+1+1) () () () True) (λb e=>by have e:=e;omega))
  go_wp2;obtain⟨x0,x1,n⟩:=ce3 q3;obtain⟨z0,z1,z2,z3⟩:=ce4 q4;exact Jj (by simp[results,results8,go_sem,x0,x1,n,z0,z1,z2,z3]) rfl ⟨.inr ⟨HF.out,rfl⟩,P.out⟩
 | true =>
 have Q:=hI (S.1 rfl);clear S;obtain⟨f0,f1,f2⟩:=ce3 O;obtain⟨h0,h1,h2,h3,h4,h5,h6,h7,h8,h9,e7,e8⟩:=zeW T;go_wp2_with fail;refine(l7Op_any x j i f o q p k r m F y _ HS (G.1.below a) (G.2.1.below a) (G.2.2.1.below a) (G.2.2.2.1.below a) G.2.2.2.2 hl ho a1 Q.1 Q.2 HN).mono ?_;rintro e u ⟨⟨n,Y,e1,Z,e2,d3,e3,l,name,price,rv,L,C,A,B,D,E,rfl,b4,b9,X⟩,H⟩;have e4:=hI (b4.lower a.size);have e6:=hI b9;obtain⟨J,N,K,rfl⟩:∃ J N K,rv=.slice J N K:=by
  rcases X with⟨h,_⟩|⟨M,b,_,_,h⟩
  ·exact⟨_,_,_,h⟩
  ·by_cases h9:y.kind=9
   ·obtain⟨_,_,_,h3⟩:=h.1 h9
    obtain⟨ao,c,e,_⟩:=zp h3;exact⟨ao,_,c,e⟩
   ·exact⟨_,0,0,h.2 h9⟩
 have e5:Hid _:=X;replace a:=ze a H;replace t:=zb t H;replace s:=zb s H;clear b4 b9 X H f0 f1 f2 h0 h1 h2 h3 h4 h5 h6 h7 h8 h9 e7 e8 O T V2;have e9:=zM s;go_upto_region 4 with fail;have pA:=zd (Jb u (.cells #[(Y,n.san,e1),(Z,n.ldn,e2),(d3,n.bkn,e3)] 38)) (.cells #[l,name,price,(J,N,K)] 41);have pB:=zfT u (.cells #[(Y,n.san,e1),(Z,n.ldn,e2),(d3,n.bkn,e3)] 38) (.cells #[l,name,price,(J,N,K)] 41);have v:Below _ u ((u.alloc (.cells #[(Y,n.san,e1),(Z,n.ldn,e2),(d3,n.bkn,e3)] 38)).alloc (.cells #[l,name,price,(J,N,K)] 41)):=zk (zk bZ _) _;have a2:=hI (e4.below v);have r2:=zb t v;have r3:=zb s v;have a6:=ze a v;have a3:Hid (zx u _ (λb=>b=w.heap.size+1+1∨b=w.heap.size+1+1+1)):=zx.of_below v
 generalize (u.alloc _).alloc _=wf at pA pB v a2 r2 r3 a6 a3 ⊢;generalize u.heap.size=I at pA pB e9 ⊢;have p0:=pA;have pT:=pB;have KS:Hid (∀ z:World,z.heap[I]?=some (.cells #[_,_,_] 38 _)->z.heap[I+1]?=some (.cells #[_,_,_,_] 41 _)->z.cell? _=some (Y,n.san,e1)/\z.cell? _=some (Z,n.ldn,e2)/\z.cell? _=some (d3,n.bkn,e3)/\z.cell? _=some (int i64 l)/\z.cell? _=some (int i64 name)/\z.cell? _=some (int i64 price)/\z.cell? _=some (J,N,K)):=λz h1 h2=>⟨za h1 0 _ rfl,za h1 1 _ rfl,za h1 2 _ rfl,za h2 0 _ rfl,za h2 1 _ rfl,za h2 2 _ rfl,za h2 3 _ rfl⟩
 obtain⟨s0,s1,s2⟩:=ce3 r2;obtain⟨c0,c9,d0⟩:=fe3 r2;obtain⟨t0,t1,t2,t3⟩:=ce4 r3;obtain⟨d4,d5,d6,d7⟩:=fe4 r3;go_region_held3 (λw'=>w'.cell? (I,0)=some (Y,n.san,e1)/\w'.cell? (I,1)=some (Z,n.ldn,e2)/\w'.cell? (I,2)=some (d3,n.bkn,e3)/\w'.cell? (I+1,0)=some (int i64 l)/\w'.cell? (I+1,1)=some (int i64 name)/\w'.cell? (I+1,2)=some (int i64 price)/\w'.cell? (I+1,3)=some (J,N,K))
  (first|(refine KS _ ?_ ?_ <;> (repeat(first|with_reducible exact p0|with_reducible exact pT|(with_reducible refine zK ?_)|(with_reducible refine zD ?_ _ _ ?_;rotate_left;(focus omega))))))
  (fail)
 obtain⟨a0,f7,f8,a4,a7⟩:=zie a6 a2.out r2 r3 (by omega) (by omega) (int i64 l) (int i64 name) (int i64 price) (.slice J N K) rfl
 have e0:=hI (a0.below (Jh bZ));have d8:=hI (Jh a4);have d9:=hI (a7.trans (zx.of_below (Jh bZ)));clear a0 a4 a7;obtain⟨x0,x1,f9⟩:=ce3 (zK f7);obtain⟨z0,z1,z2,z3⟩:=ce4 (zK f8);go_wp2;refine Jj (by simp[results,results8,go_sem,x0,x1,f9,z0,z1,z2,z3]) rfl ⟨.inl ⟨a1.out,Q.out,n,Y,e1,Z,e2,d3,e3,_,_,_,.slice J N K,L,C,A,B,D,E,rfl,?_,e6.out,?_⟩,d8.out⟩
 ·exact e0
 ·rcases e5 with h|⟨M,b,f5,f6,h⟩
  ·exact .inl h
  ·exact .inr ⟨M,b,f5,f6,zeQ h (a3.trans d9) (λg e=>by rcases e with e|e;exact⟨_,_,by rw[e];exact t,by decide⟩;exact⟨_,_,by rw[e];exact s,by decide⟩)⟩
end Go.Proofs.YtmdnjgihooflfaaGreatDoor
