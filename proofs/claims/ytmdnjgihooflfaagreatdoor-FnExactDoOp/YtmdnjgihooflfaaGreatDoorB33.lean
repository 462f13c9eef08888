/-
  OWN TEXT: RoomsI0, OffI, DopI, KitRg, SpecOp, SpecBk, SpecOff.
-/
import Derived.Deep.RegionHeld3
import Derived.Deep.DeepCutAuto
import Derived.Great.Walk
import Derived.Deep.LoopGhost
import Derived.Test.YtmdnjgihooflfaaGreatDoorB32
namespace Go.Proofs.YtmdnjgihooflfaaGreatDoor
open Go.RowKit
open Go.Value (int)
open Go.IntKind (i64)
open Tryz
set_option maxHeartbeats 64000000
set_option maxRecDepth 100000
theorem zjm (g bo:Option Addr)(m l n c:Nat)(p:zH)(S:Nat->qN)(w:World)(i:p.n=m)(t:m<=1048576)(u:n<=1048576)(s:n<=c)(j:zG w g p)(k:qp w bo n S) :
  Calls prog 179 #[.slice g m l,.slice bo n c] w λe w'=>qX (Qr p n S) e/\Below w.heap.size w w':=by
 have q:=hI j;have r:=hI k;have o:=hI i;clear j k i;go_enter func179,ntmps179;go_wp2_with fail;refine(zbh g bo m l n c p S _ o.out t u s q.out r.out).mono ?_;rintro e w1 ⟨b,a⟩;unfold zmI six at b
 rcases b with⟨d,rfl⟩|⟨d,rfl⟩
 ·have f:=hI (zct.1 d)
  clear d;go_wp2;go_ret;exact⟨zR f.out,(by first|exact a|exact zk a _)⟩
 ·have f:Hid (¬ Qr p n S):=λh=>d (zct.2 h)
  clear d;go_wp2;go_ret;exact⟨zl f.out,(by first|exact a|exact zk a _)⟩
theorem zjn (x:Off)(a5 a4:Option Addr)(c9 b9:Nat)(w:World)(hs:Off.Short x 1048576)(a6:qB w a5 x.san x.sa)(r:ZG w a4 x.ldn x.ld) :
  Calls prog 98 #[(a5,x.san,c9),(a4,x.ldn,b9)] w λe w'=>qX (x.ldn=x.san/\∀ k,k<x.san->qm (x.sa k) (x.ld k)) e/\Below w.heap.size w w':=by
 have b8:=hI a6;have b4:=hI r;have a1:=hI hs;have n1:=hs.1.1;clear a6 r hs
 by_cases g1:x.ldn=x.san
 case neg =>
  have e1:((x.ldn:Int) != (x.san:Int))=true:=by simp;omega
  have I:Hid (¬ (_/\∀ k,k<x.san->qm (x.sa k) (x.ld k))):=λh=>g1 h.1
  clear g1;go_enter func98,ntmps98;go_wp2;go_ret;exact⟨zl I,bZ⟩
 have e1:((x.ldn:Int) != (x.san:Int))=false:=by simp;omega
 have HE:=hI g1;clear g1;go_enter func98,ntmps98;go_wp2;clear e1;go_loopw [5,6,7,15] (λ_ _ _ i wr=>∃ k,k<=x.san/\i=int i64 k/\(∀ j,j<k->qm (x.sa j) (x.ld j))/\Below w.heap.size w wr) (λ_ _ _ i _=>x.san - (intOf i).toNat)
 case atStart=>exact⟨0,Jq _,rfl,λj hj=>by omega,bZ⟩
 case round =>
  obtain⟨k,hk,rfl,G,a⟩:=hrel;have HA:=hI G;clear G
  by_cases hlt:k<x.san
  ·obtain⟨U,so,la,lc,ca,cc,rfl,f0,f1,f2,f3,f4,f5,f6,f7,N,M,b1,b0⟩:=b8 k hlt
   obtain⟨s,Q⟩:∃ s,s=x.sa k:=⟨_,rfl⟩;have F:=a1.1.2 k hlt;rw[← Q] at f0 f1 f2 f3 f4 f5 f6 f7 N M b1 b0 F;have u:=hI Q;have m:=Ja w _ f0;have c0:=(a.cell m).trans f0;have c1:=(a.cell (p:=⟨U,_+1,_⟩) m).trans f1;have c2:=(a.cell (p:=⟨U,_+2,_⟩) m).trans f2;have c3:=(a.cell (p:=⟨U,_+3,_⟩) m).trans f3;have c4:=(a.cell (p:=⟨U,_+4,_⟩) m).trans f4;have c5:=(a.cell (p:=⟨U,_+5,_⟩) m).trans f5;have c6:=(a.cell (p:=⟨U,_+6,_⟩) m).trans f6;have c7:=(a.cell (p:=⟨U,_+7,_⟩) m).trans f7;obtain⟨C,hC,hI⟩:=b4;have E:k<x.ldn:=by have:=HE.out;omega
   obtain⟨lb,lo,rfl,hc⟩:=hC k E;obtain⟨l,r⟩:∃ l,l=x.ld k:=⟨_,rfl⟩;have O:=a1.2.1.2 k E;obtain⟨z,D,v,A,y,B,eC,S,Y,P,W,R,X⟩:=hI k E;rw[← r] at eC S Y P W R X O;have t:Hid _:=r;have T:lb<w.heap.size:=Ja w _ (hc 0 (by decide))
   have d0:∀ o,(wr.alloc o).cell? _=some (.slice z _ D):=λo=>((zk a o).cell (p:=⟨lb,lo+_,_⟩) T).trans (by have:=hc 0 (by decide);rw[eC] at this;exact this)
   have d1:∀ o,(wr.alloc o).cell? _=some (.slice v _ A):=λo=>((zk a o).cell T).trans (by have:=hc 1 (by decide);rw[eC] at this;exact this)
   have d2:∀ o,(wr.alloc o).cell? _=some (.slice y _ B):=λo=>((zk a o).cell T).trans (by have:=hc 2 (by decide);rw[eC] at this;exact this)
   have b3:=hI N;have b2:=hI M;have a3:Hid (_/\_):=⟨S,Y.1⟩;have Z:Hid (_/\_):=⟨P,W.1⟩;have a0:Hid (_/\_):=⟨R,X.1⟩;have H:=hI O;have a2:Hid (_/\_):=⟨F.2.2.1,F.2.2.2⟩;have h0:(0:Int)<=(k:Int):=by omega
   have h1:(k:Int)<(x.ldn:Int):=by omega
   clear hC hI hc eC Q r f0 f1 f2 f3 f4 f5 f6 f7 N M b1 b0 S Y P W R X O F E;have b:=zk (zk a (.cells (s,la,lc,ca,cc) 140)) (.cells #[(z,l.stn,D),(v,l.ron,A),(y,l.sen,B)] 145);have n:((wr.alloc _).alloc (.cells #[(z,l.stn,D),(v,l.ron,A),(y,l.sen,B)] 145)).heap[wr.heap.size]?=some (.cells (s,la,lc,ca,cc) 140 (0,0)):=zd (Jb wr _) _;have q:=zoT n;have y5:=za n 5 _ rfl;have m0:=za q 0 _ rfl;go_wp2_with fail;generalize hBx:wr.heap.size=Bx at n q y5 m0 ⊢;generalize (wr.alloc _).alloc _=V at b n q y5 m0 ⊢;clear hBx c0 c1 c2 c3 c4 c5 c6 c7 d0 d1 d2 y5 m0 a;refine(zkZ la z _ lc _ D _ _ _ rfl a2.1 H.1 a3.2 (b3.below b) (a3.1.below b)).mono ?_;rintro e V0 ⟨⟨t0,rfl,a7⟩,c⟩;have J:=hI a7;have g:=zb n c;have f:=zb q c;have d:=ze b c;clear n q b c a7;have n:=g;have q:=f;have b:=d;clear g f d
   cases t0 with
   | false =>
    have I:Hid (¬ (x.ldn=x.san/\∀ k,k<x.san->qm (x.sa k) (x.ld k))):=λh=>by have h:=h.2 k hlt;rw[← u.out,← t.out] at h;have:=J.2 ((QO _ _ _).1 h.1);cases this
    go_wp2;go_ret;exact⟨zl I,b⟩
   | true =>
   have b5:=hI (J.1 rfl);clear J;have y6:=za n 6 _ rfl;have m1:=za q 1 _ rfl;go_wp2_with fail;clear y6 m1;refine(zjm ca v _ cc _ A _ _ _ rfl a2.2 H.2.1 Z.2 (b2.below b) (Z.1.below b)).mono ?_;rintro e V1 ⟨⟨t1,rfl,a8⟩,c⟩;have K:=hI a8;have g:=zb n c;have f:=zb q c;have d:=ze b c;clear n q b c a8;have n:=g;have q:=f;have b:=d;clear g f d
   cases t1 with
   | false =>
    have I:Hid (¬ (x.ldn=x.san/\∀ k,k<x.san->qm (x.sa k) (x.ld k))):=λh=>by have h:=h.2 k hlt;rw[← u.out,← t.out] at h;have:=K.2 (h.2.1);cases this
    go_wp2;go_ret;exact⟨zl I,b⟩
   | true =>
   have b6:=hI (K.1 rfl);clear K;have m2:=za q 2 _ rfl;have y7:=za n 7 _ rfl;go_wp2_with fail;clear y7 m2;refine(zeG _ y _ B _ _ (by have:=H.2.2;omega) a0.2 (a0.1.below b)).mono ?_
   rintro e V2 ⟨⟨t2,rfl,a9⟩,c⟩;have L:=hI a9;have g:=zb n c;have f:=zb q c;have d:=ze b c;clear n q b c a9;have n:=g;have q:=f;have b:=d;clear g f d
   cases t2 with
   | false =>
    have I:Hid (¬ (x.ldn=x.san/\∀ k,k<x.san->qm (x.sa k) (x.ld k))):=λh=>by have h:=h.2 k hlt;rw[← u.out,← t.out] at h;have:=L.2 (h.2.2);cases this
    go_wp2;go_ret;exact⟨zl I,b⟩
   | true =>
   have b7:=hI (L.1 rfl);clear L;go_wp2;go_roundw
   case rel=>exact⟨k+1,by omega,by go_num,λj hj=>by
    by_cases e:j=k
    ·subst e;rw[← u.out,← t.out];exact⟨(QO _ _ _).2 b5,b6,b7⟩
    ·exact HA j (by omega),b⟩
   case measure=>simp[intOf];omega
  ·obtain rfl:k=x.san:=by omega
   go_wp2;go_ret;exact⟨zR ⟨HE,HA⟩,a⟩
theorem zgg {x:Off}{i:Nat}:Zt x i↔(x.bk i).name=i+1/\(In (x.bk i).who 1 9999/\¬ Has (zlk x.bk) i (x.bk i).who)/\zhH x.san x.sa (x.bk i):=by
 unfold Zt zhH
 constructor
 ·rintro⟨h1,h2,h3,a,b,c,d,h8,h9⟩
  exact⟨h1,⟨h2,λ⟨j,f,e⟩=>h8 j f e⟩,h3,a,b,c,h9,d⟩
 ·rintro⟨h1,⟨h2,h8⟩,h3,a,b,c,h9,d⟩
  exact⟨h1,h2,h3,a,b,c,d,λj f e=>h8 ⟨j,f,e⟩,h9⟩
theorem zfX (x:Off)(t I:Option Addr)(B n:Nat)(w:World)(X:Off.Short x 1048576)(hT:QJ x.san x.sa)(J:qB w t x.san x.sa)(V:qO w I x.bkn x.bk)(a1:x.bkn<=n) :
  Calls prog 99 #[(t,x.san,B),(I,x.bkn,n)] w λe w'=>qX (x.bkn<=30/\∀ i,i<x.bkn->Zt x i) e/\Below w.heap.size w w':=by
 have F:=hI J;have A:=hI X;have Z:=hI hT;have n1:=X.1.1;obtain⟨C,hC,hI⟩:=V;have L:=hI hC;have M:Hid _:=hI;clear J X hT hC hI
 by_cases g1:x.bkn<=30
 case neg =>
  have N:decide ((30:Int)<(x.bkn:Int))=true:=by simp;omega
  have z:Hid (¬ (_/\∀ i,i<x.bkn->Zt x i)):=λh=>g1 h.1
  clear g1;go_enter func99,ntmps99;go_wp2;go_ret;exact⟨zl z,bZ⟩
 have N:decide ((30:Int)<(x.bkn:Int))=false:=by simp;omega
 go_enter func99,ntmps99;go_wp2;clear N;go_loopw [5,6,12] (λ_ _ i wr=>∃ k,k<=x.bkn/\i=int i64 k/\(∀ j,j<k->Zt x j)/\Below w.heap.size w wr) (λ_ _ i _=>x.bkn - (intOf i).toNat)
 case atStart=>exact⟨0,Jq _,rfl,λj P=>by omega,bZ⟩
 case round =>
  obtain⟨k,hk,rfl,y,c⟩:=hrel;have Y:=hI y;clear y
  by_cases hlt:k<x.bkn
  ·obtain⟨bb,bo,rfl,q⟩:=L k hlt
   obtain⟨r,s,o,D,_⟩:=M k hlt;obtain⟨b,O⟩:∃ b,b=x.bk k:=⟨_,rfl⟩;rw[← O] at o D;have K:=hI O;have E:=hI D;have G:Hid (ql.Short b 1048576):=by rw[O];exact A.2.2.2 k hlt
   have d:bb<w.heap.size:=Ja w _ (q 0 (by decide))
   have c0:wr.cell? _=some (.int _ _):=(c.cell (p:=⟨bb,bo+_,_⟩) d).trans (by have:=q 0 (by decide);rw[o] at this;exact this)
   have c1:wr.cell? _=some (.int _ _):=(c.cell d).trans (by have:=q 1 (by decide);rw[o] at this;exact this)
   have c2:wr.cell? _=some (.string _):=(c.cell d).trans (by have:=q 2 (by decide);rw[o] at this;exact this)
   have c3:wr.cell? _=some (.slice r _ s):=(c.cell d).trans (by have:=q 3 (by decide);rw[o] at this;exact this)
   have c4:wr.cell? _=some (.int _ _):=(c.cell d).trans (by have:=q 4 (by decide);rw[o] at this;exact this)
   have c5:wr.cell? _=some (.int _ _):=(c.cell d).trans (by have:=q 5 (by decide);rw[o] at this;exact this)
   have c6:wr.cell? _=some (.int _ _):=(c.cell d).trans (by have:=q 6 (by decide);rw[o] at this;exact this)
   have c7:wr.cell? _=some (.int _ _):=(c.cell d).trans (by have:=q 7 (by decide);rw[o] at this;exact this)
   have c8:wr.cell? _=some (.bool _):=(c.cell d).trans (by have:=q 8 (by decide);rw[o] at this;exact this)
   have c9:wr.cell? _=some (.int _ _):=(c.cell d).trans (by have:=q 9 (by decide);rw[o] at this;exact this)
   have S:wr.cell? _=some (.int _ _):=(c.cell d).trans (by have:=q 10 (by decide);rw[o] at this;exact this)
   have T:wr.cell? _=some (.int _ _):=(c.cell d).trans (by have:=q 11 (by decide);rw[o] at this;exact this)
   have U:wr.cell? _=some (.int _ _):=(c.cell d).trans (by have:=q 12 (by decide);rw[o] at this;exact this)
   clear q o O D;have f:=zk c (.cells (b,r,s) 150);have a:=Jb wr (.cells (b,r,s) 150);go_upto_region 6 with fail;generalize hBx:wr.heap.size=Bx at a ⊢;generalize wr.alloc _=W at f a ⊢;clear hBx c0 c1 c2 c3 c4 c5 c6 c7 c8 c9 S T U;have l:=zM a;have z0:∀ g:zn W,g.val.cell? _=some (.int _ _):=λg=>(g.bel.cell l).trans (za a 0 _ rfl)
   have z1:∀ g:zn W,g.val.cell? _=some (.int _ _):=λg=>(g.bel.cell l).trans (za a 1 _ rfl)
   have z2:∀ g:zn W,g.val.cell? _=some (.string _):=λg=>(g.bel.cell l).trans (za a 2 _ rfl)
   have z3:∀ g:zn W,g.val.cell? _=some (.slice r _ s):=λg=>(g.bel.cell l).trans (za a 3 _ rfl)
   have z4:∀ g:zn W,g.val.cell? _=some (.int _ _):=λg=>(g.bel.cell l).trans (za a 4 _ rfl)
   have z5:∀ g:zn W,g.val.cell? _=some (.int _ _):=λg=>(g.bel.cell l).trans (za a 5 _ rfl)
   have z6:∀ g:zn W,g.val.cell? _=some (.int _ _):=λg=>(g.bel.cell l).trans (za a 6 _ rfl)
   have z7:∀ g:zn W,g.val.cell? _=some (.int _ _):=λg=>(g.bel.cell l).trans (za a 7 _ rfl)
   have z8:∀ g:zn W,g.val.cell? _=some (.bool _):=λg=>(g.bel.cell l).trans (za a 8 _ rfl)
   have z9:∀ g:zn W,g.val.cell? _=some (.int _ _):=λg=>(g.bel.cell l).trans (za a 9 _ rfl)
   have a5:∀ g:zn W,g.val.cell? _=some (.int _ _):=λg=>(g.bel.cell l).trans (za a 10 _ rfl)
   have a6:∀ g:zn W,g.val.cell? _=some (.int _ _):=λg=>(g.bel.cell l).trans (za a 11 _ rfl)
   have a7:∀ g:zn W,g.val.cell? _=some (.int _ _):=λg=>(g.bel.cell l).trans (za a 12 _ rfl)
   clear a;have a4:IntKind.i64.wrap ((k:Int)+1)=(k:Int)+1:=by rw[Jk];omega
   have a2:(0:Int)<=(k:Int):=by omega
   have a3:(k:Int)<=(n:Int):=by omega
   have a0:k<=n:=by omega
   by_cases p1:b.name=(k:Int)+1
   case neg =>
    have N:(b.name != (k:Int)+1)=true:=by simpa using p1
    have z:Hid (¬ (x.bkn<=30/\∀ i,i<x.bkn->_)):=λh=>p1 (by rw[K.out];exact(zgg.1 (h.2 k hlt)).1)
    clear p1;refine zh (by kernel_rfl) (by kernel_rfl) ?_
    repeat(first|go_big_quiet_skip|(go_big_quiet_want;go_big_quiet_op;first|go_big_quiet_on))
    refine Jl ?_;rintro _ ⟨g,rfl⟩;go_wp2;go_ret;exact⟨zl z,ze f g.bel⟩
   have N:(b.name != (k:Int)+1)=false:=by simpa using p1
   have P1:=hI p1;clear p1
   by_cases p2:In b.who 1 9999/\¬ Has (zlk x.bk) k b.who
   case neg =>
    have H:=hI p2;have z:Hid (¬ (x.bkn<=30/\∀ i,i<x.bkn->_)):=λh=>p2 (by rw[K.out];exact(zgg.1 (h.2 k hlt)).2.1)
    clear p2;refine zh (by kernel_rfl) (by kernel_rfl) ?_
    repeat(first|go_big_quiet_skip|(go_big_quiet_want;go_big_quiet_op;first|go_big_quiet_on|(apply Jg;refine⟨λg=>?_,?_⟩;(focus(go_at_call 50;refine zf (v:=.bool false) ((zcZ _ k n _ _ _ (by omega) ⟨C,(L.upto (by omega)).below (ze f g.bel),λj P=>(M j (by omega)).below (ze f g.bel)⟩).mono ?_);rintro e Q ⟨⟨bb,rfl,u⟩,m⟩;obtain rfl:=Bool.eq_false_iff.2 (λe=>H (u.1 e));exact⟨rfl,m⟩));go_big_quiet_on)))
    refine Jl ?_;rintro _ ⟨g,rfl⟩;go_wp2;go_ret;exact⟨zl z,ze f g.bel⟩
   have H:=hI p2;clear p2
   by_cases p3:zhH x.san x.sa b
   case neg =>
    have R:=hI p3;have z:Hid (¬ (x.bkn<=30/\∀ i,i<x.bkn->_)):=λh=>p3 (by rw[K.out];exact(zgg.1 (h.2 k hlt)).2.2)
    clear p3;refine zh (by kernel_rfl) (by kernel_rfl) ?_
    repeat(first|go_big_quiet_skip|(go_big_quiet_want;go_big_quiet_op;first|go_big_quiet_on|(apply Jg;refine⟨λg=>?_,?_⟩;(focus(go_at_call 50;refine zf (v:=.bool true) ((zcZ _ k n _ _ _ (by omega) ⟨C,(L.upto (by omega)).below (ze f g.bel),λj P=>(M j (by omega)).below (ze f g.bel)⟩).mono ?_);rintro e Q ⟨⟨bb,rfl,u⟩,m⟩;obtain rfl:=u.2 H;exact⟨rfl,m⟩));go_big_quiet_on)|(apply Jg;refine⟨λg=>?_,?_⟩;(focus(go_at_call 181;refine zf (v:=.bool false) ((zdB _ _ t B b r s _ n1 A.1.2 G Z (F.below (ze f g.bel)) (E.below (ze f g.bel))).mono ?_);rintro e Q ⟨⟨bb,rfl,u⟩,m⟩;obtain rfl:=Bool.eq_false_iff.2 (λe=>R (u.1 e));exact⟨rfl,m⟩));go_big_quiet_on)))
    refine Jl ?_;rintro _ ⟨g,rfl⟩;go_wp2;go_ret;exact⟨zl z,ze f g.bel⟩
   have R:=hI p3;have HK:=hI (zgg.2 (by rw[← K.out];exact⟨P1,H,p3⟩))
   clear p3;refine zh (by kernel_rfl) (by kernel_rfl) ?_
   repeat(first|go_big_quiet_skip|(go_big_quiet_want;go_big_quiet_op;first|go_big_quiet_on|(apply Jg;refine⟨λg=>?_,?_⟩;(focus(go_at_call 50;refine zf (v:=.bool true) ((zcZ _ k n _ _ _ (by omega) ⟨C,(L.upto (by omega)).below (ze f g.bel),λj P=>(M j (by omega)).below (ze f g.bel)⟩).mono ?_);rintro e Q ⟨⟨bb,rfl,u⟩,m⟩;obtain rfl:=u.2 H;exact⟨rfl,m⟩));go_big_quiet_on)|(apply Jg;refine⟨λg=>?_,?_⟩;(focus(go_at_call 181;refine zf (v:=.bool true) ((zdB _ _ t B b r s _ n1 A.1.2 G Z (F.below (ze f g.bel)) (E.below (ze f g.bel))).mono ?_);rintro e Q ⟨⟨bb,rfl,u⟩,m⟩;obtain rfl:=u.2 R;exact⟨rfl,m⟩));go_big_quiet_on)))
   refine Jl ?_;rintro _ ⟨g,rfl⟩;go_wp2;go_roundw
   case rel=>exact⟨k+1,by omega,by go_num,λj P=>by
    by_cases e:j=k
    ·subst e;exact HK
    ·exact Y j (by omega),ze f g.bel⟩
   case measure=>simp[intOf];omega
  ·obtain rfl:k=x.bkn:=by omega
   go_wp2;go_ret;exact⟨zR ⟨g1,Y⟩,c⟩
theorem zmm (x:Off)(E L v:Option Addr)(H G y:Nat)(w:World)(hs:Off.Short x 1048576)(d5:qB w E x.san x.sa)(z:ZG w L x.ldn x.ld)(d3:qO w v x.bkn x.bk)(g5:x.bkn<=y) :
  Calls prog 49 #[.agg #[(E,x.san,H),(L,x.ldn,G),(v,x.bkn,y)]] w λe w'=>qX (Zk x) e/\Below w.heap.size w w':=by
 have K:=hI d5;have b8:=hI z;have b5:=hI d3;have u:=hI hs;have n1:=hs.1.1;clear d5 z d3 hs;have f:Below _ w (w.alloc (.cells #[(E,x.san,H),(L,x.ldn,G),(v,x.bkn,y)] 38)):=zk bZ _;have o:=zoP f;go_enter func49,ntmps49;go_wp2_with fail;generalize w.alloc _=V at f o ⊢;refine(zhf E _ H _ _ n1 u.1.2 (K.below f)).mono ?_;rintro e V0 ⟨⟨t0,rfl,d6⟩,m⟩;have Z:=hI d6;have q:=zb o m;have g:=ze f m;clear o f m d6;have o:=q;have f:=g;clear q g;obtain⟨o0,o1,o2⟩:=ce3 o
 cases t0 with
 | false =>
  have W:Hid (¬ Zk x):=λh=>by have:=Z.2 (h.1);cases this
  go_wp2;go_ret;exact⟨zl W,f⟩
 | true =>
 have d0:=hI (Z.1 rfl);clear Z;go_wp2_with fail;clear o0 o1 o2;refine(zjn x E L H G _ u (K.below f) (b8.below f)).mono ?_;rintro e V1 ⟨⟨t1,rfl,d7⟩,m⟩;have a0:=hI d7;have q:=zb o m;have g:=ze f m;clear o f m d7;have o:=q;have f:=g;clear q g;obtain⟨o0,o1,o2⟩:=ce3 o
 cases t1 with
 | false =>
  have W:Hid (¬ Zk x):=λh=>by have:=a0.2 (⟨h.2.1,h.2.2.2.1⟩);cases this
  go_wp2;go_ret;exact⟨zl W,f⟩
 | true =>
 have J:=hI (a0.1 rfl);clear a0;go_wp2_with fail;clear o0 o1 o2;refine(zfX x E v H y _ u d0 (K.below f) (b5.below f) g5).mono ?_;rintro e V2 ⟨⟨t2,rfl,d8⟩,m⟩;have a1:=hI d8;have q:=zb o m;have g:=ze f m;clear o f m d8;have o:=q;have f:=g;clear q g;obtain⟨o0,o1,o2⟩:=ce3 o
 cases t2 with
 | false =>
  have W:Hid (¬ Zk x):=λh=>by have:=a1.2 (⟨h.2.2.1,h.2.2.2.2.1⟩);cases this
  go_wp2;go_ret;exact⟨zl W,f⟩
 | true =>
 have Y:=hI (a1.1 rfl);clear a1;go_wp2;clear o0 o1 o2;obtain⟨C,hC,hI⟩:=b5;have HC:=hI hC;have HI:Hid _:=hI;have e5:Hid _:=o;have U:Hid _:=f;clear hC hI o f;go_loopw [3,4,28] (λ_ _ i wr=>∃ k,k<=x.san/\i=int i64 k/\(∀ j,j<k->zaQ x j)/\Below V2.heap.size V2 wr) (λ_ _ i _=>x.san - (intOf i).toNat)
 case atStart=>exact⟨0,Jq _,rfl,λj hj=>by omega,bZ⟩
 case round =>
  obtain⟨k,hk,rfl,T,A⟩:=hrel;have HA:=hI T;clear T
  by_cases hlt:k<x.san
  ·have n:=ze U A
   obtain⟨sb,so,la,lc,ca,cc,rfl,f0,f1,f2,f3,f4,f5,f6,f7,d4,a8,e1,e0⟩:=K k hlt;obtain⟨s,O⟩:∃ s,s=x.sa k:=⟨_,rfl⟩;rw[← O] at f0 f1 f2 f3 f4 f5 f6 f7 d4 a8 e1 e0;have d1:=hI O;have r:=Ja w _ f0;have c0:=(n.cell r).trans f0;have c1:=(n.cell (p:=⟨sb,_+1,_⟩) r).trans f1;have c2:=(n.cell (p:=⟨sb,_+2,_⟩) r).trans f2;have c3:=(n.cell (p:=⟨sb,_+3,_⟩) r).trans f3;have c4:=(n.cell (p:=⟨sb,_+4,_⟩) r).trans f4;have c5:=(n.cell (p:=⟨sb,_+5,_⟩) r).trans f5;have c6:=(n.cell (p:=⟨sb,_+6,_⟩) r).trans f6;have c7:=(n.cell (p:=⟨sb,_+7,_⟩) r).trans f7;obtain⟨D,hD,hJ⟩:=b8;have N:k<x.ldn:=by have:=J.1;omega
   obtain⟨lb,lo,rfl,hc⟩:=hD k N;obtain⟨l,z⟩:∃ l,l=x.ld k:=⟨_,rfl⟩;have a9:=u.2.1.2 k N;obtain⟨a4,a7,a2,a5,a3,a6,eC,b3,e4,b1,e2,b2,e3⟩:=hJ k N;rw[← z] at eC b3 e4 b1 e2 b2 e3 a9;have b9:=hI z;have b4:lb<w.heap.size:=Ja w _ (hc 0 (by decide))
   have HD:Hid (∀ w',Below _ w w'->w'.cell? _=some (.slice a4 _ a7)/\w'.cell? _=some (.slice a2 _ a5)/\w'.cell? _=some (.slice a3 _ a6)):=λw' h =>
    ⟨(h.cell (p:=⟨lb,lo+_,_⟩) b4).trans (by have:=hc 0 (by decide);rw[eC] at this;exact this),(h.cell b4).trans (by have:=hc 1 (by decide);rw[eC] at this;exact this),(h.cell b4).trans (by have:=hc 2 (by decide);rw[eC] at this;exact this)⟩
   have e6:=hI a8;have f8:=hI b3;have e8:=hI b1;have e9:=hI b2;have e7:=hI a9;have b0:=J.2 k hlt;rw[← O,← z] at b0;have c9:=hI b0;have h0:(0:Int)<=(k:Int):=by omega
   have h1:(k:Int)<(x.ldn:Int):=by omega
   clear hD hJ hc eC O z f0 f1 f2 f3 f4 f5 f6 f7 d4 a8 e1 e0 b3 e4 b1 e2 b2 e3 a9 N b0;have M:=zk A (.cells (s,la,lc,ca,cc) 140);have B:=Jb wr (.cells (s,la,lc,ca,cc) 140);go_upto_region 6 with fail;generalize hBx:wr.heap.size=Q at B ⊢;generalize wr.alloc _=X at M B ⊢;clear hBx c0 c1 c2 c3 c4 c5 c6 c7 A n;have o:=zb e5 M;have d2:=ze U M;have BW:Hid (∀ w',_->Below _ w w'):=λw' h=>ze d2 h
   have KS:Hid (∀ w',Below _ X w'->(w'.cell? _=some (.int _ _)/\w'.cell? _=some (.string _)/\w'.cell? _=some (.string _)/\w'.cell? _=some (.int _ _)/\w'.cell? _=some (.int _ _)/\w'.cell? _=some (.slice la _ lc)/\w'.cell? _=some (.slice ca _ cc)/\w'.cell? _=some (.int _ _) /\
     w'.cell? _=some (.slice _ _ G)/\w'.cell? _=some (.slice v _ y) /\
     _/\_/\_)):=λw' h=>by
    have S:=zb B h;have g2:=zb o h;have g3:=HD w' (ze d2 h);exact⟨za S 0 _ rfl,za S 1 _ rfl,za S 2 _ rfl,za S 3 _ rfl,za S 4 _ rfl,za S 5 _ rfl,za S 6 _ rfl,za S 7 _ rfl,za g2 1 _ rfl,za g2 2 _ rfl,g3.1,g3.2.1,g3.2.2⟩
   obtain⟨P,hP⟩:∃ P,P=λi=>OnB (x.bk i) s.id:=⟨_,rfl⟩
   have b6:Hid (∀ w',_->Calls _ 101 _ w' λe w2=>(∃ R c,e=.returned (.slice R (onL P _).length c)/\w2.ownsRow _ 150 13 (.slice R (onL P _).length c) (onL P _).length (zgY C P _))/\_):=λw' h =>
    (zeg v _ y _ C s.id w' u.out.2.2.1 u.out.2.2.2 (HC.out.below h) (λj hj=>(HI.out j hj).below h)).mono λ_ _ ⟨⟨R,c,a,_,b⟩,d⟩=>by
     rw[hP];exact⟨⟨R,c,a,zu b h.size⟩,d⟩
   have b7:Hid (∀ w' R c,_->w'.ownsRow w.heap.size 150 13 (.slice R (onL P x.bkn).length c) (onL P x.bkn).length (zgY C P x.bkn)->Calls _ 100 _ w' λe w2=>qX _ e/\Below _ w' w2):=λw' R c h ho=>by
    have g7:zgV s l (onL P x.bkn).length (λj=>x.bk (onI P x.bkn j))↔zaQ x k:=by
     have:=just_iff (by rw[← d1.out,← b9.out];exact c9.out) (λi hi=>(Y.out.2 i hi).2.2.2.2.1)
     rw[hP,d1.out,b9.out];exact this
    refine(zjl s l _ _ _ la ca a4 a2 a3 R lc cc a7 a5 a6 c w' (Jp (onL_le P _) u.out.2.2.1) e7.out (zki c9.out.2.1) (e6.out.below h) (f8.out.below h) (e8.out.below h) (e9.out.below h) (QT.of_own ho) (λj hj=>(HI.out _ (zmJ P _ j hj).1).below h)).mono ?_
    rintro e w2 ⟨⟨b,rfl,hb⟩,hd⟩;exact⟨⟨b,rfl,by rw[hb,g7]⟩,hd⟩
   clear hP o B;go_cut [28,45] (λi c wx=>i=int i64 k/\zll (zaQ x k) c/\Below w.heap.size w wx/\Below V2.heap.size V2 wx)
   case first =>
    go_region_held3 (λw'=>w'.cell? (Q,0)=some (int i64 s.id)/\w'.cell? (Q,1)=some (.string s.fr)/\w'.cell? (Q,2)=some (.string s.dst)/\w'.cell? (Q,3)=some (int i64 s.dep)/\w'.cell? (Q,4)=some (int i64 s.arr)/\w'.cell? (Q,5)=some (la,s.la.n,lc)/\w'.cell? (Q,6)=some (ca,s.ca.n,cc)/\w'.cell? (Q,7)=some (int i64 s.most) /\
      w'.cell? (w.heap.size,1)=some (some (lb,lo),x.ldn,G)/\w'.cell? (w.heap.size,2)=some (v,x.bkn,y) /\
      w'.cell? (lb,lo+k*3)=some (a4,l.stn,a7)/\w'.cell? (lb,lo+k*3+1)=some (a2,l.ron,a5)/\w'.cell? (lb,lo+k*3+2)=some (a3,l.sen,a6))
     ((refine KS _ ?_;exact(by repeat(first|exact bZ|refine Jh ?_|refine ze ?_ I|refine ze ?_ F))))
     (first
      | (go_at_call 101;refine Jm (b6 _ (BW _ (by repeat(first | exact bZ | refine Jh ?_ | refine ze ?_ I | refine ze ?_ F)))) ?_;rintro e w4 ⟨⟨f9,c4,rfl,g6⟩,I⟩)
      | (go_at_call 100;refine Jm (b7 _ f9 c4 (BW _ (by repeat(first | exact bZ | refine Jh ?_ | refine ze ?_ I | refine ze ?_ F))) (zo (by repeat(first | exact bZ | refine Jh ?_ | refine ze ?_ F)) g6)) ?_;rintro e w5 ⟨⟨t5,rfl,d9⟩,F⟩))
    all_goals
     go_wp2;go_meet;refine⟨rfl,?_,BW _ (by repeat(first|exact bZ|refine Jh ?_|refine ze ?_ I|refine ze ?_ F)),ze M (by repeat(first|exact bZ|refine Jh ?_|refine ze ?_ I|refine ze ?_ F))⟩
     cases t5 with
     | true=>exact Q5 (d9.1 rfl)
     | false=>exact QP (λh=>by have:=d9.2 h;cases this)
   case rest =>
    obtain⟨rfl,⟨t,rfl,ht⟩,g0,g4⟩:=hcut;have HT:=hI ht;clear ht KS BW b6 b7 HD
    cases t with
    | true =>
     have W:Hid (¬ Zk x):=λh=>by have:=HT.2 (h.2.2.2.2.2 k hlt);cases this
     go_wp2;go_ret;exact⟨zl W,g0⟩
    | false =>
     have HK:=hI (HT.1 rfl);clear HT;go_wp2;go_roundw
     case rel=>exact⟨k+1,by omega,by go_num,λj hj=>by
      by_cases e:j=k
      ·subst e;exact HK
      ·exact HA j (by omega),g4⟩
     case measure=>simp[intOf];omega
  ·obtain rfl:k=x.san:=by omega
   have HY:Hid (Zk x):=⟨d0,J.1,Y.1,J.2,Y.2,HA⟩;have n:=ze U A;clear HA;go_wp2;go_ret;exact⟨zR HY,n⟩
theorem zdC {u:World}{a c:Nat}{r s t n o p q:Value}(h3:u.heap[a]?=some (.cells #[r,s,t] 38 (0,0)))(j:u.heap[c]?=some (.cells #[n,o,p,q] 41 (0,0)))(v1 v2 v3 d f g h:Value) :
  (qt u a v1 v2 v3).heap[c]?=some (.cells #[n,o,p,q] 41 (0,0))/\(ZK (qt u a v1 v2 v3) c d f g h).heap[a]?=some (.cells #[v1,v2,v3] 38 (0,0))/\(ZK (qt u a v1 v2 v3) c d f g h).heap[c]?=some (.cells #[d,f,g,h] 41 (0,0))/\zx u (qt u a v1 v2 v3) (λb=>b=a)/\zx (qt u a v1 v2 v3) (ZK (qt u a v1 v2 v3) c d f g h) (λb=>b=c):=by
 have i:c≠a:=λe=>by
  rw[e,h3] at j;simp at j
 have k:=QG u a v1 v2 v3;have l:=QH (qt u a v1 v2 v3) c d f g h;have m:=k.blk j i;exact⟨m,l.blk (zcq h3 v1 v2 v3) (show _ from λe=>i e.symm),zcJ m d f g h,k,l⟩
theorem zhn {w u f g:World}{c d:Nat}(a:Below w.heap.size w u)(h3:w.heap.size<=c)(h4:w.heap.size<=d)(h:zx u f (λb=>b=c))(i:zx f g (λb=>b=d)):Below w.heap.size w g:=by
 have q:=zx.below a a.size h (λb e=>by have e:=e;omega)
 exact zx.below q q.size i (λb e=>by have e:=e;omega)
theorem zmn (x:Off)(a1 a2 a3 P:Option Addr)(c1 c2 c3 Y m:Nat)(l:Int)(y:OpD)(pe:Nat->Addr)(w:World)(hs:Off.Short x 1048576)(hF:Zm w)(hT:Zq w/\Zu w)(he:qY w pe)(hg:w.cell? (0,0)=some (.iface 284 (.agg #[.pointer (some (12,92))])))
  (d6:Off.Is w [.slice a1 x.san c1,.slice a2 x.ldn c2,.slice a3 x.bkn c3] x) (d4:zT w P y.lgn y.lg) (d8:qj P y.lgn Y) (ho:y.own.size<=1048576) (hl:y.lgn<=1048576) (hm:zac y->In y.kind 4 8->y.name=(m:Int)+1) :
  Calls prog 11 #[.agg #[(a1,x.san,c1),(a2,x.ldn,c2),(a3,x.bkn,c3)],l,.agg (y,P,Y)] w λe w'=>(∃ x2 code name price N T ok,Res x l y m x2 code name price N T ok/\zmO w.heap.size w.heap.size x2 code name price N T ok e w')/\Below w.heap.size w w':=by
 have HS:=hI hs;have HT:Hid (_/\_/\_):=⟨hF,hT,he⟩;have HG:=hI hg;have a7:=hI d6;have c0:Hid (_/\_):=⟨d4,d8⟩;have e3:=hI hm;obtain⟨b0,b1,b2,b3,d9⟩:=zcT w (.cells #[.slice a1 x.san c1,.slice a2 x.ldn c2,.slice a3 x.bkn c3] 38) (.cells #[int i64 l] 3) (.cells #[int i64 y.kind,.string y.own,int i64 y.name,.slice P y.lgn Y,int i64 y.pe,int i64 y.len,int i64 y.hei,int i64 y.cl,.bool y.all,int i64 y.be,int i64 y.unt,int i64 y.now] 47) (.cells #[.slice none 0 0,.slice none 0 0,.slice none 0 0] 38);have b4:=Jb ((((w.alloc (.cells #[(a1,x.san,c1),(a2,x.ldn,c2),(a3,x.bkn,c3)] 38)).alloc (.cells #[l] 3)).alloc (.cells (y,P,Y) 47)).alloc (.cells #[True,True,True] 38)) (.cells #[(),(),(),True] 41);rw[d9] at b4;have HD:Hid (DSit (((((w.alloc _).alloc _).alloc _).alloc _).alloc (.cells #[int i64 0,int i64 0,int i64 0,.slice none 0 0] 41)) _ _ _ _ _ _ l _):=⟨zd b0 _,zd b1 _,zd b2 _⟩;have X:Hid ((((((w.alloc _).alloc _).alloc _).alloc _).alloc (.cells #[int i64 0,int i64 0,int i64 0,.slice none 0 0] 41)).heap[_+1+1]?=_):=zd b3 _;have R:=hI b4;have I:Below _ w (((((w.alloc (.cells #[(a1,x.san,c1),(a2,x.ldn,c2),(a3,x.bkn,c3)] 38)).alloc (.cells #[l] 3)).alloc (.cells (y,P,Y) 47)).alloc (.cells #[True,True,True] 38)).alloc (.cells #[(),(),(),True] 41)):=zk (zk (zk (zk (zk bZ _) _) _) _) _;clear hs hF hT he hg d6 d4 d8 hm b0 b1 b2 b3 b4 d9;go_enter func11,ntmps11;obtain⟨f0,f1,f2⟩:=ce3 HD.out.bo;go_wp2_with fail;generalize (((((w.alloc _).alloc _).alloc _).alloc _).alloc _)=U at HD X R I f0 f1 f2 ⊢;obtain⟨_,_,_,_,_,_,e0,h1,s1,h2,s2,h3,s3⟩:=(a7.out.below I)
 cases e0
 refine(zmm x a1 a2 a3 c1 c2 c3 U HS.out h1 h2 h3 s3.1).mono ?_;rintro e U1 ⟨⟨tb,rfl,a6⟩,hb⟩;clear h1 s1 h2 s2 h3 s3 f0 f1 f2;replace HD:=hI (HD.out.below hb);replace X:=hI (zb X.out hb);replace R:=hI (zb R.out hb);replace I:=ze I hb;clear hb;have M:=hI a6;clear a6
 cases tb with
 | false =>
  have HN:Hid (¬ (_/\zbn x.bkn x.bk l)):=λh=>by have:=M.out.2 h.1;cases this
  have d:=hI (zdC X.out R.out (.slice none 0 0) (.slice none 0 0) (.slice none 0 0) (int i64 0) (int i64 0) (int i64 0) (.slice none 0 0));have n:=hI (zhn I (by omega) (by omega) d.out.2.2.2.1 d.out.2.2.2.2)
  obtain⟨p0,p1,p2⟩:=ce3 X.out;obtain⟨g0,S,g2⟩:=fe3 X.out;obtain⟨q0,q1,q2,V⟩:=ce4 R.out;obtain⟨k0,k1,k2,k3⟩:=fe4 R.out;unfold ZK qt at d n;obtain⟨e9,f4,f5,f6⟩:=ce4 d.out.1;obtain⟨e5,e6,e7,e8⟩:=fe4 d.out.1;go_wp2;have Z3:=d.out.2.1;have Z4:=d.out.2.2.1;obtain⟨z0,z1,z2⟩:=ce3 Z3;obtain⟨t0,t1,t2,t3⟩:=ce4 Z4;refine Jj (v:=.tuple #[.agg #[.slice none 0 0,.slice none 0 0,.slice none 0 0],.agg #[int i64 0,int i64 0,int i64 0,.slice none 0 0],.bool false]) (by simp[results,results11,go_sem,z0,z1,z2,t0,t1,t2,t3]) rfl ?_
  exact⟨⟨_,0,0,0,0,zeM [],_,.inr ⟨HN.out,rfl,rfl,rfl,rfl,rfl,rfl⟩,zmO.no x _ _ _ _⟩,n.out⟩
 | true =>
 have a4:=hI (M.out.1 rfl);clear M;have f2:=za HD.out.bo 2 _ rfl;have g0:=za HD.out.bb 0 _ rfl;go_wp2_with fail;obtain⟨_,_,_,_,_,_,e0,h1,s1,h2,s2,h3,s3⟩:=(a7.out.below I)
 cases e0
 refine(zcZ a3 _ c3 _ l U1 (by have:=a4.out.2.2.1;omega) h3).mono ?_
 rintro e j ⟨⟨tb,rfl,a6⟩,hb⟩;clear h1 s1 h2 s2 h3 s3 f2 g0;replace HD:=hI (HD.out.below hb);replace X:=hI (zb X.out hb);replace R:=hI (zb R.out hb);replace I:=ze I hb;clear hb;have M:Hid (_↔zbn _ _ l):=a6.trans ⟨λh=>⟨h.1,λi hi e=>h.2 ⟨i,hi,e⟩⟩,λh=>⟨h.1,λ⟨i,hi,e⟩=>h.2 i hi e⟩⟩
 clear a6
 cases tb with
 | false =>
  have HN:Hid (¬ (Zk x/\_)):=λh=>by have:=M.out.2 h.2;cases this
  have d:=hI (zdC X.out R.out (.slice none 0 0) (.slice none 0 0) (.slice none 0 0) (int i64 0) (int i64 0) (int i64 0) (.slice none 0 0));have n:=hI (zhn I (by omega) (by omega) d.out.2.2.2.1 d.out.2.2.2.2)
  obtain⟨p0,p1,p2⟩:=ce3 X.out;obtain⟨g0,S,g2⟩:=fe3 X.out;obtain⟨q0,q1,q2,V⟩:=ce4 R.out;obtain⟨k0,k1,k2,k3⟩:=fe4 R.out;unfold ZK qt at d n;obtain⟨e9,f4,f5,f6⟩:=ce4 d.out.1;obtain⟨e5,e6,e7,e8⟩:=fe4 d.out.1;go_wp2;have Z3:=d.out.2.1;have Z4:=d.out.2.2.1;obtain⟨z0,z1,z2⟩:=ce3 Z3;obtain⟨t0,t1,t2,t3⟩:=ce4 Z4;refine Jj (v:=.tuple #[.agg #[.slice none 0 0,.slice none 0 0,.slice none 0 0],.agg #[int i64 0,int i64 0,int i64 0,.slice none 0 0],.bool false]) (by simp[results,results11,go_sem,z0,z1,z2,t0,t1,t2,t3]) rfl ?_
  exact⟨⟨_,0,0,0,0,zeM [],_,.inr ⟨HN.out,rfl,rfl,rfl,rfl,rfl,rfl⟩,zmO.no x _ _ _ _⟩,n.out⟩
 | true =>
 have a9:=hI (M.out.1 rfl);clear M;have e4:∀ (fn) (first cap) (w),(Instr.makeFunc fn _ cap).run prog w=.ok (.func fn first cap) w:=λ_ _ _ _=>rfl
 have X3:((j.alloc _).alloc (.cells #[int i64 0,int i64 0,int i64 0,.slice none 0 0] 41)).heap[j.heap.size]?=some (.cells #[.slice none 0 0,.slice none 0 0,.slice none 0 0] 38 (0,0)):=zd (Jb j _) _;have X4:=zoT X3;have a0:Below _ j ((j.alloc (.cells #[True,True,True] 38)).alloc (.cells #[(),(),(),True] 41)):=zk (zk bZ _) _;go_wp2_with fail;generalize (j.alloc _).alloc _=t at X3 X4 a0 ⊢;have HX:Hid (_/\_):=⟨X3,X4⟩;have f8:=zM X4;have f7:=zM R.out;have J:Below _ w (t.alloc (.cells #[.nilIface] 92)):=zk (ze I a0) _;have Z:Below _ t (t.alloc (.cells #[.nilIface] 92)):=zk bZ _;have d0:=(HD.out.below a0).below Z;refine(zmk 52 _ t
  (λW=>W.heap[t.heap.size]?=some (.cells #[.nilIface] 92 (0,0))/\Dop1W x l y m (t.heap.size+1) (j.heap.size) (j.heap.size+1) W/\Below j.heap.size j W)
  (λu W=>W.heap[t.heap.size]?=some (.cells #[.nilIface] 92 (0,0))/\(∃ c,1<=c/\c<=8/\u=.agg #[.iface 391 (.pointer (some (pe c)))]/\zhG x l y m x (c:Int) 0 0)/\Below j.heap.size j W) (λ_ _=>by kernel_rfl) ?_).mono ?_
 ·refine(dop1_any x a1 a2 a3 P c1 c2 c3 Y m _ _ _ _ _ l y pe _ a4.out HS.out a9.out (HT.out.1.below J) ⟨HT.out.2.1.1.below J,HT.out.2.1.2.below J⟩ (HT.out.2.2.below J) (a7.out.below J) (c0.out.1.below J) c0.out.2 ho hl e3.out d0 (zb X3 Z) (zb X4 Z) (by omega)).mono ?_
  rintro e W ⟨hA,hk⟩;have hn:=hk.blk (Jb t _) (show ¬ (t.heap.size=j.heap.size∨t.heap.size=j.heap.size+1) by omega)
  have H:=zx.below (ze a0 Z) (ze a0 Z).size hk (λb e=>by have e:=e;omega)
  refine⟨hn,?_⟩
  rcases hA with⟨rfl,hW⟩|⟨c,S,g8,rfl,Q⟩
  ·exact .inl ⟨rfl,hn,by simpa using hW,H⟩
  ·exact .inr ⟨_,rfl,hn,⟨c,S,g8,rfl,Q⟩,H⟩
 clear X3 X4 d0 Z J e4;have n0:=λw=>zgW underlying92 w
 have n1:=λw v=>Z9 96 v underlying92 w
 rintro e w4 (⟨rfl,W,⟨hn,hW,H⟩,rfl⟩|⟨u,rfl,W,⟨hn,⟨c,S,g8,rfl,Q⟩,H⟩,rfl⟩)
 ·obtain⟨x2,b1,d1,b2,d2,b3,d3,name,price,ra,N,rc,T,L,C,A,B,D,E,e1,e2,d5,Q,d7,b7⟩:=hW
  have kk:=(zx.refl W (λb=>b=t.heap.size)).set (a:=⟨t.heap.size,0,none⟩) rfl .nilIface
  have Y3:Hid _:=kk.blk e1 (show ¬ j.heap.size=t.heap.size by omega)
  have Y4:Hid _:=kk.blk e2 (show ¬ j.heap.size+1=t.heap.size by omega)
  have F:=hI (d5.box kk hn (by decide))
  have s:Hid _:=kk.own b7 (λb e=>zQ b7 hn (by decide) b e)
  have z:Below _ j (W.setCell _ .nilIface):=H.setCell (p:=(t.heap.size,0)) (by show j.heap.size<=t.heap.size;omega) _
  have O:Hid (_/\_):=⟨Q,d7⟩;clear e1 e2 d5 Q d7 b7 H hn kk;generalize W.setCell _ _=u4 at Y3 Y4 F s z ⊢;have k:Below _ j (u4.alloc (.cells #[.nilIface] 96)):=zk z _;have hp:Below _ u4 (u4.alloc (.cells #[.nilIface] 96)):=zk bZ _;replace Y3:=hI (zb Y3.out hp);replace Y4:=hI (zb Y4.out hp);replace F:=hI (F.out.below hp);replace s:Hid _:=zo hp s.out;clear z hp;go_upto_region 8 with fail;generalize u4.alloc _=u5 at Y3 Y4 F s k ⊢;have r:Below u5.heap.size u5 _:=bZ.drew;replace Y3:=hI (zb Y3.out r);replace Y4:=hI (zb Y4.out r);replace F:=hI (F.out.below r);replace s:Hid _:=zo r s.out;replace k:=ze k r;refine qg 5 5 (λu=>u.cell? _=some (.slice b1 _ d1)/\u.cell? _=some (.slice b2 _ d2)/\u.cell? _=some (.slice b3 _ d3)/\u.cell? _=some (.int _ 0)/\u.cell? _=some (.int _ _)/\u.cell? _=some (.int _ _)/\u.cell? _=some (.slice ra N rc)) rfl (by kernel_rfl) (⟨za Y3.out 0 _ rfl,za Y3.out 1 _ rfl,za Y3.out 2 _ rfl,za Y4.out 0 _ rfl,za Y4.out 1 _ rfl,za Y4.out 2 _ rfl,za Y4.out 3 _ rfl⟩) (λhS=>?_)
  simp only[List.replicate_succ,List.replicate_zero];clear r;generalize u5.drew=u6 at Y3 Y4 F s k hS ⊢;have V:=zb X.out k;have q4:=zb R.out k;have d:=hI (zdC V q4 (.slice b1 x2.san d1) (.slice b2 x2.ldn d2) (.slice b3 x2.bkn d3) (int i64 0) (int i64 name) (int i64 price) (.slice ra N rc));have n:=hI (zhn (ze I k) (by omega) (by omega) d.out.2.2.2.1 d.out.2.2.2.2)
  have W3:Hid _:=d.out.2.2.2.1.blk Y3.out (show ¬ j.heap.size=w.heap.size+1+1+1 by omega)
  have W4:Hid _:=d.out.2.2.2.1.blk Y4.out (show ¬ j.heap.size+1=w.heap.size+1+1+1 by omega)
  have W5:Hid _:=d.out.2.2.2.2.blk W3.out (show ¬ j.heap.size=w.heap.size+1+1+1+1 by omega)
  have W6:Hid _:=d.out.2.2.2.2.blk W4.out (show ¬ j.heap.size+1=w.heap.size+1+1+1+1 by omega)
  have a5:=hI ((F.out.box d.out.2.2.2.1 V (by decide)).box d.out.2.2.2.2 d.out.1 (by decide))
  have r3:=d.out.2.2.2.1.own s.out (λb e=>zQ s.out V (by decide) b e)
  have c9:Hid _:=d.out.2.2.2.2.own r3 (λb e=>zQ r3 d.out.1 (by decide) b e)
  clear r3 q4;unfold ZK qt at d n W3 W4 W5 W6 a5 c9
  iterate 2 (refine tFN 0 (v:=?_) rfl (by kernel_rfl) (λ_ _ _ h=>h) rfl (by assumption) ?_ ?_;rotate_left;(focus(intro w' h;(try dsimp only at h);go_simp;try with_reducible rfl));simp only[Act.put,sB,sZ,sS])
  obtain⟨p0,p1,p2⟩:=ce3 V;obtain⟨g0,S,g2⟩:=fe3 V;refine zj (rs:=[2]) (by kernel_rfl) (by simp) ?_
  refine zc.consL rfl (λK G=>?_) zc.nil
  go_simp;refine G.out _ _ (⟨za W3.out 0 _ rfl,za W3.out 1 _ rfl,za W3.out 2 _ rfl,za W4.out 0 _ rfl,za W4.out 1 _ rfl,za W4.out 2 _ rfl,za W4.out 3 _ rfl⟩) (λhS=>?_)
  clear G K p0 p1 p2 g0 S g2 V;simp only[sZ,sS];obtain⟨p0,p1,p2,p3⟩:=ce4 d.out.1;obtain⟨g0,S,g2,g3⟩:=fe4 d.out.1;refine zj (rs:=[3]) (by kernel_rfl) (by simp) ?_
  refine zc.consL rfl (λK G=>?_) zc.nil
  go_simp;refine G.out _ _ (⟨za W5.out 0 _ rfl,za W5.out 1 _ rfl,za W5.out 2 _ rfl,za W6.out 0 _ rfl,za W6.out 1 _ rfl,za W6.out 2 _ rfl,za W6.out 3 _ rfl⟩) (λhS=>?_)
  clear G K p0 p1 p2 p3 g0 S g2 g3;simp only[sZ,sS]
  (refine tFN 4 (v:=?_) rfl (by kernel_rfl) (λ_ _ _ h=>h) rfl (by assumption) ?_ ?_;rotate_left;(focus(intro w' h;(try dsimp only at h);go_simp;try with_reducible rfl));simp only[Act.put,sB,sZ,sS])
  refine zX (by kernel_rfl) ?_ _
  clear hS;go_wp2;have Z3:=d.out.2.1;have Z4:=d.out.2.2.1;obtain⟨z0,z1,z2⟩:=ce3 Z3;obtain⟨t0,t1,t2,t3⟩:=ce4 Z4;refine Jj (v:=.tuple #[.agg #[.slice b1 x2.san d1,.slice b2 x2.ldn d2,.slice b3 x2.bkn d3],.agg #[int i64 0,int i64 name,int i64 price,.slice ra N rc],.bool true]) (by simp[results,results11,go_sem,z0,z1,z2,t0,t1,t2,t3]) rfl ?_
  exact⟨⟨x2,0,_,_,N,T,_,.inl ⟨⟨a4.out,a9.out⟩,rfl,O.out.1,O.out.2⟩,b1,d1,b2,d2,b3,d3,ra,rc,L,C,A,B,D,E,rfl,a5.out.lower (by omega),zu c9.out (by omega)⟩,n.out⟩
 ·have z:Below _ j (W.setCell _ (.iface 96 (.agg #[.iface 391 (.pointer (some (pe c)))]))):=H.setCell (p:=⟨t.heap.size,0,none⟩) (by show j.heap.size<=t.heap.size;omega) _
  have O:Hid (_/\_/\_):=⟨Q,S,g8⟩;clear Q H hn S g8;generalize W.setCell _ _=u4 at z ⊢;have k:Below _ j (u4.alloc (.cells #[.nilIface] 96)):=zk z _;have HR:=Jb u4 (.cells #[.nilIface] 96);have b5:=hI z.size;clear z;go_wp2_with fail;generalize u4.alloc _=u5 at k HR ⊢;generalize u4.heap.size=gr at HR b5 ⊢;refine(as_hit _ _ _ u5 rfl ?_ (za HR 0 _ rfl) (zg HR 0)).mono ?_
  ·exact((ze I k).cell (Ja w _ HG.out)).trans HG.out
  rintro e u6 ⟨rfl,b8⟩;have hp:=zk (zk (zk (zk (Ji _ u5) (.cells #[.pointer (some ⟨gr,0,none⟩)] 98)) (.cells #[.pointer (some ⟨12,98,none⟩),.pointer (some ⟨u5.heap.size,0,none⟩),.int .u64 150] 186)) (.cells #[.pointer (some ⟨12,98,none⟩),.pointer (some ⟨u5.heap.size,0,none⟩),.int .u64 150] 186)) (.cells #[.iface 391 (.pointer (some (pe c)))] 96);have o:Hid (u6.heap[gr]?=some (.cells #[.iface 391 (.pointer (some (pe c)))] 96 (0,0))):=by rw[b8];exact zm (zb HR hp) 0 _
  have f:Below j.heap.size j u6:=by rw[b8];exact(ze k hp).setCell b5.out _
  clear b8 hp HR k;go_upto_region 10 with fail;have r:Below u6.heap.size u6 _:=bZ.drew;replace o:=hI (zb o.out r);replace f:=ze f r;have g:=hI (HD.out.below f);refine qg 9 9 (λu=>u.cell? _=some (.slice a1 _ c1)/\u.cell? _=some (.slice a2 _ c2)/\u.cell? _=some (.slice a3 _ c3)/\u.cell? _=some (.iface 391 _)) rfl (by kernel_rfl) (⟨za g.out.bo 0 _ rfl,za g.out.bo 1 _ rfl,za g.out.bo 2 _ rfl,za o.out 0 _ rfl⟩) (λhS=>?_)
  simp only[List.replicate_succ,List.replicate_zero];clear r;generalize u6.drew=u7 at o f g hS ⊢
  (refine tFN 0 (v:=?_) rfl (by kernel_rfl) (λ_ _ _ h=>h) rfl (by assumption) ?_ ?_;rotate_left;(focus(intro w' h;(try dsimp only at h);go_simp;try with_reducible rfl));simp only[Act.put,sB,sZ,sS])
  iterate 2 (refine tFN 2 (v:=?_) rfl (by kernel_rfl) (λ_ _ _ h=>h) rfl (by assumption) ?_ ?_;rotate_left;(focus(intro w' h;(try dsimp only at h);go_simp;try with_reducible rfl));simp only[Act.put,sB,sZ,sS])
  refine zj (rs:=[1]) (by kernel_rfl) (by simp) ?_
  refine zc.consL rfl (λK G=>?_) zc.nil
  go_simp;go_at_call 54;refine Jm (zeh x a1 a2 a3 c1 c2 c3 u7 HS.out (λi hi=>(a4.out.2.2.2.2.1 i hi).2.2.2.1.1) ((a7.out.below I).below f)) ?_
  rintro e u8 ⟨⟨n1,n2,n3,L,C,A,B,D,E,rfl,a8⟩,q⟩;have b6:=hI (a8.lower f.size);dsimp only;replace f:=ze f q;replace o:=hI (zb o.out q);replace g:=hI (g.out.below q);refine G.out _ _ (⟨za g.out.bo 0 _ rfl,za g.out.bo 1 _ rfl,za g.out.bo 2 _ rfl,za o.out 0 _ rfl⟩) (λhS=>?_)
  clear G K q a8;simp only[sZ,sS];refine zj (rs:=[4]) (by kernel_rfl) (by simp) ?_
  refine zc.consL rfl (λK G=>?_) zc.nil
  go_simp;go_at_call 56;refine Jm (znB pe c u8 ((HT.out.2.2.below I).below f) O.out.2.1 O.out.2.2) ?_;rintro e u9 ⟨rfl,q⟩;dsimp only;replace f:=ze f q;replace o:=hI (zb o.out q);replace g:=hI (g.out.below q);replace b6:=hI (b6.out.below q);refine G.out _ _ (⟨za g.out.bo 0 _ rfl,za g.out.bo 1 _ rfl,za g.out.bo 2 _ rfl,za o.out 0 _ rfl⟩) (λhS=>?_)
  clear G K q;simp only[sZ,sS]
  (refine tFN 5 (v:=?_) rfl (by kernel_rfl) (λ_ _ _ h=>h) rfl (by assumption) ?_ ?_;rotate_left;(focus(intro w' h;(try dsimp only at h);go_simp;try with_reducible rfl));simp only[Act.put,sB,sZ,sS])
  have V:=zb X.out f;have q4:=zb R.out f;have d:=hI (zdC V q4 (.slice (some ⟨n1,0,none⟩) x.san x.san) (.slice (some ⟨n2,0,none⟩) x.ldn x.ldn) (.slice (some ⟨n3,0,none⟩) x.bkn x.bkn) (int i64 c) (int i64 0) (int i64 0) (.slice none 0 0));have n:=hI (zhn (ze I f) (by omega) (by omega) d.out.2.2.2.1 d.out.2.2.2.2)
  have b9:=b5.out;have W3:Hid _:=d.out.2.2.2.1.blk g.out.bo (show ¬ w.heap.size=w.heap.size+1+1+1 by omega)
  have W4:Hid _:=d.out.2.2.2.1.blk o.out (show ¬ gr=w.heap.size+1+1+1 by omega)
  have W5:Hid _:=d.out.2.2.2.2.blk W3.out (show ¬ w.heap.size=w.heap.size+1+1+1+1 by omega)
  have W6:Hid _:=d.out.2.2.2.2.blk W4.out (show ¬ gr=w.heap.size+1+1+1+1 by omega)
  have a5:=hI ((b6.out.box d.out.2.2.2.1 V (by decide)).box d.out.2.2.2.2 d.out.1 (by decide))
  clear q4 b9;unfold ZK qt at d n W3 W4 W5 W6 a5;obtain⟨p0,p1,p2⟩:=ce3 V;obtain⟨g0,S,g2⟩:=fe3 V;refine zj (rs:=[6]) (by kernel_rfl) (by simp) ?_
  refine zc.consL rfl (λK G=>?_) zc.nil
  go_simp;refine G.out _ _ (⟨za W3.out 0 _ rfl,za W3.out 1 _ rfl,za W3.out 2 _ rfl,za W4.out 0 _ rfl⟩) (λhS=>?_)
  clear G K p0 p1 p2 g0 S g2 V;simp only[sZ,sS];obtain⟨p0,p1,p2,p3⟩:=ce4 d.out.1;obtain⟨g0,S,g2,g3⟩:=fe4 d.out.1;refine zj (rs:=[7]) (by kernel_rfl) (by simp) ?_
  refine zc.consL rfl (λK G=>?_) zc.nil
  go_simp;refine G.out _ _ (⟨za W5.out 0 _ rfl,za W5.out 1 _ rfl,za W5.out 2 _ rfl,za W6.out 0 _ rfl⟩) (λhS=>?_)
  clear G K p0 p1 p2 p3 g0 S g2 g3;simp only[sZ,sS]
  (refine tFN 8 (v:=?_) rfl (by kernel_rfl) (λ_ _ _ h=>h) rfl (by assumption) ?_ ?_;rotate_left;(focus(intro w' h;(try dsimp only at h);go_simp;try with_reducible rfl));simp only[Act.put,sB,sZ,sS])
  refine zX (by kernel_rfl) ?_ _
  clear hS;go_wp2;have Z3:=d.out.2.1;have Z4:=d.out.2.2.1;obtain⟨z0,z1,z2⟩:=ce3 Z3;obtain⟨t0,t1,t2,t3⟩:=ce4 Z4;refine Jj (v:=.tuple #[.agg #[.slice (some ⟨n1,0,none⟩) x.san x.san,.slice (some ⟨n2,0,none⟩) x.ldn x.ldn,.slice (some ⟨n3,0,none⟩) x.bkn x.bkn],.agg #[int i64 c,int i64 0,int i64 0,.slice none 0 0],.bool true]) (by simp[results,results11,go_sem,z0,z1,z2,t0,t1,t2,t3]) rfl ?_
  have f9:=(ze I f).size;exact⟨⟨x,c,0,0,0,zeM [],_,.inl ⟨⟨a4.out,a9.out⟩,rfl,O.out.1,.inl ⟨rfl,λ_=>by have:=O.out.2.1;omega⟩⟩,_,_,_,_,_,_,_,0,L,C,A,B,D,E,rfl,a5.out.lower (by omega),zbS _ _ _ _⟩,n.out⟩
section
open Go.RowKit
theorem QK {u:World}{e a t v:Nat}{g h i j k l m n o p q r s c d:Value}(f:u.heap[e]?=some (.cells #[g,h,i] t (0,0)))(b:u.heap[a]?=some (.cells #[j,k,l,m,n,o,p,q,r,s,c,d] v (0,0))) :
  u.cell? (e,0)=some g/\u.cell? (e,1)=some h/\u.cell? (e,2)=some i/\u.cell? (a,0)=some j/\u.cell? (a,1)=some k/\u.cell? (a,2)=some l/\u.cell? (a,3)=some m/\u.cell? (a,4)=some n/\u.cell? (a,5)=some o/\u.cell? (a,6)=some p/\u.cell? (a,7)=some q/\u.cell? (a,8)=some r/\u.cell? (a,9)=some s/\u.cell? (a,10)=some c/\u.cell? (a,11)=some d :=
 ⟨za f 0 g rfl,za f 1 h rfl,za f 2 i rfl,za b 0 j rfl,za b 1 k rfl,za b 2 l rfl,za b 3 m rfl,za b 4 n rfl,za b 5 o rfl,za b 6 p rfl,za b 7 q rfl,za b 8 r rfl,za b 9 s rfl,za b 10 c rfl,za b 11 d rfl⟩
abbrev DP:=Nat->Off->Int->Int->Int->Nat->(Nat->zcB)->Bool->Prop
def zla (P:DP)(base:Nat)(e:Ending)(u:World):Prop:=∃ rb x2 code name price N T ok,P rb x2 code name price N T ok/\zmO base rb x2 code name price N T ok e u
def DopB (P:DP)(base a b:Nat)(ok:Bool)(z:World):Prop :=
 ∃ rb x2 code name price N T,P rb x2 code name price N T ok/\∃ a1 c1 a2 c2 a3 c3 ar cr L C A B D E,z.heap[a]?=some (.cells #[.slice a1 x2.san c1,.slice a2 x2.ldn c2,.slice a3 x2.bkn c3] 38 (0,0))/\z.heap[b]?=some (.cells #[int i64 code,int i64 name,int i64 price,.slice ar N cr] 41 (0,0))/\zF z base (.slice a1 x2.san c1) (.slice a2 x2.ldn c2) (.slice a3 x2.bkn c3) x2.san x2.ldn x2.bkn x2 L C A B D E/\z.ownsRow rb 203 5 (.slice ar N cr) N (qW T N)
theorem zla.below {P:DP}{base:Nat}{e:Ending}{u c:World}(h:zla P base e u)(b:Below u.heap.size u c):zla P base e c:=by
 obtain⟨m,n,a,name,price,N,T,ok,l,d,c1,f,c2,g,c3,i,j,L,C,A,B,D,E,rfl,k,hr⟩:=h;exact⟨m,n,_,_,_,N,T,ok,l,d,c1,f,c2,g,c3,i,j,L,C,A,B,D,E,rfl,k.below b,zo b hr⟩
structure RG (w u:World)(j k:Nat)(ca d:Array Value)(x:Off)(y:OpD)(P:DP)(h i:Option Nat)(f g:Option (List Value))(r:Option Ending):Prop where
 bel:Below w.heap.size w u
 a:u.heap[j]?=some (.cells ca 26 (0,0))
 b:u.heap[k]?=some (.cells d 31 (0,0))
 h8:∀ q,h=some q->w.heap.size<=q/\u.heap[q]?=some (.cells #[True,True,True] 38 (0,0))
 h9:∀ q,i=some q->w.heap.size<=q/\u.heap[q]?=some (.cells #[(),(),(),True] 41 (0,0))
 i1:∀ c,f=some c->Off.Is u c x
 i2:∀ c,g=some c->OpD.Is u c y
 hr:∀ e,r=some e->zla P w.heap.size e u
section
variable {w u u' : World} {pA pB : Nat} {ca cb : Array Value} {x : Off} {y : OpD} {P : DP} {p8 p9 : Option Nat} {k1 k2 : Option (List Value)} {r : Option Ending}
theorem RG.below (h:RG w u pA pB ca cb x y P p8 p9 k1 k2 r)(a:Below u.heap.size u u'):RG w u' pA pB ca cb x y P p8 p9 k1 k2 r :=
 ⟨ze h.bel a,zb h.a a,zb h.b a,λq e=>⟨(h.h8 q e).1,zb (h.h8 q e).2 a⟩,λq e=>⟨(h.h9 q e).1,zb (h.h9 q e).2 a⟩,λc e=>(h.i1 c e).below a,λc e=>(h.i2 c e).below a,λe q=>(h.hr e q).below a⟩
theorem RG.al8 (h:RG w u pA pB ca cb x y P none p9 k1 k2 r):RG w (u.alloc (.cells #[True,True,True] 38)) pA pB ca cb x y P (some u.heap.size) p9 k1 k2 r:=by
 have k:=h.below (zk (Ji _ u) (.cells #[True,True,True] 38));exact⟨k.bel,k.a,k.b,λq e=>by cases e;exact⟨h.bel.size,Jb u _⟩,k.h9,k.i1,k.i2,k.hr⟩
theorem RG.al9 (h:RG w u pA pB ca cb x y P p8 none k1 k2 r):RG w (u.alloc (.cells #[(),(),(),True] 41)) pA pB ca cb x y P p8 (some u.heap.size) k1 k2 r:=by
 have k:=h.below (zk (Ji _ u) (.cells #[(),(),(),True] 41));exact⟨k.bel,k.a,k.b,k.h8,λq e=>by cases e;exact⟨h.bel.size,Jb u _⟩,k.i1,k.i2,k.hr⟩
theorem RG.off (h:RG w u pA pB ca cb x y P p8 p9 none k2 r)(cs:List Value)(b:Off.Short x 1048576)(g:Off.Is w cs x) :
  Calls prog 9 #[.agg cs.toArray] u λe d=>∃ c,e=.returned (.agg c.toArray)/\Hid (RG w d pA pB ca cb x y P p8 p9 (some c) k2 r):=by
 refine(zdi cs x u b (g.below h.bel)).mono ?_;rintro e d ⟨c,rfl,a,f⟩;have k:=h.below f;exact⟨c,rfl,k.bel,k.a,k.b,k.h8,k.h9,λq e=>by cases e;exact a.is b,k.i2,k.hr⟩
theorem RG.op (h:RG w u pA pB ca cb x y P p8 p9 k1 none r)(cs:List Value)(b:OpD.Short y 1048576)(g:OpD.Is w cs y) :
  Calls prog 10 #[.agg cs.toArray] u λe d=>∃ c,e=.returned (.agg c.toArray)/\Hid (RG w d pA pB ca cb x y P p8 p9 k1 (some c) r):=by
 refine(ziu cs y u b (g.below h.bel)).mono ?_;rintro e d ⟨c,rfl,a,f⟩;have k:=h.below f;exact⟨c,rfl,k.bel,k.a,k.b,k.h8,k.h9,k.i1,λq e=>by cases e;exact a.is b,k.hr⟩
theorem RG.dop {c d:List Value}(h:RG w u pA pB ca cb x y P p8 p9 (some c) (some d) none)(F:FuncId)(j:Int)(o:∀ c d u,Below w.heap.size w u->Off.Is u c x->OpD.Is u d y->Calls prog F #[.agg c.toArray,j,.agg d.toArray] u λe m=>zla P u.heap.size e m/\Below u.heap.size u m) :
  Calls prog F #[.agg c.toArray,int i64 j,.agg d.toArray] u λe m=>∃ b n1 c1 f n2 c2 g n3 c3 a name price i n l ok,e=.returned (.tuple #[.agg #[.slice b n1 c1,.slice f n2 c2,.slice g n3 c3],.agg #[int i64 a,int i64 name,int i64 price,.slice i n l],.bool ok]) /\
   Hid (RG w m pA pB ca cb x y P p8 p9 (some c) (some d) (some (.returned (.tuple #[.agg #[.slice b n1 c1,.slice f n2 c2,.slice g n3 c3],.agg #[int i64 a,int i64 name,int i64 price,.slice i n l],.bool ok])))):=by
 refine(o c d u h.bel (h.i1 c rfl) (h.i2 d rfl)).mono ?_;rintro e m ⟨⟨t,v,a,name,price,N,T,ok,s,b,c1,f,c2,g,c3,i,l,L,C,A,B,D,E,rfl,r,hr⟩,p⟩;have k:=h.below p;exact⟨b,_,c1,f,_,c2,g,_,c3,_,_,_,i,N,l,ok,rfl,k.bel,k.a,k.b,k.h8,k.h9,k.i1,k.i2,λq e=>by cases e;exact⟨t,v,_,_,_,N,T,ok,s,b,c1,f,c2,g,c3,i,l,L,C,A,B,D,E,rfl,r.lower h.bel.size,hr⟩⟩
theorem RG.fin {d j k l m n c1 c2 c3 r:Nat}{f g i o:Option Addr}{a name price:Int}{ok:Bool}(h:RG w u pA pB ca cb x y P (some d) (some j) k1 k2 (some (.returned (.tuple #[.agg #[.slice f k c1,.slice g l c2,.slice i m c3],.agg #[int i64 a,int i64 name,int i64 price,.slice o n r],.bool ok])))) :
  (u.heap[d]?=some (.cells #[True,True,True] 38 (0,0))/\(qt u d (f,k,c1) (g,l,c2) (i,m,c3)).heap[j]?=some (.cells #[(),(),(),True] 41 (0,0))) /\
  ((qt u d (f,k,c1) (g,l,c2) (i,m,c3)).heap[pA]?=some (.cells ca 26 (0,0))/\(qt u d (f,k,c1) (g,l,c2) (i,m,c3)).heap[pB]?=some (.cells cb 31 (0,0))) /\
  ((ZK (qt u d (f,k,c1) (g,l,c2) (i,m,c3)) j a name price (o,n,r)).heap[pA]?=some (.cells ca 26 (0,0))/\(ZK (qt u d (f,k,c1) (g,l,c2) (i,m,c3)) j a name price (o,n,r)).heap[pB]?=some (.cells cb 31 (0,0))) /\
  DopB P w.heap.size d j ok (ZK (qt u d (f,k,c1) (g,l,c2) (i,m,c3)) j a name price (o,n,r))/\Below w.heap.size w (ZK (qt u d (f,k,c1) (g,l,c2) (i,m,c3)) j a name price (o,n,r))/\w.heap.size<=d/\w.heap.size<=j:=by
 obtain⟨Q,h8⟩:=h.h8 d rfl;obtain⟨R,h9⟩:=h.h9 j rfl;have c:=zdC h8 h9 (f,k,c1) (g,l,c2) (i,m,c3) a name price (o,n,r);have G:∀ {p q:Nat} {A B} {s t},u.heap[p]?=some (.cells A s _)->u.heap[q]?=some (.cells B t (0,0))->s≠t->p≠q:=λI O J e=>by
  subst e;rw[I] at O
  cases O
  exact J rfl
 have v:=c.2.2.2.1.blk h.a (G h.a h8 (by decide))
 have z:=c.2.2.2.1.blk h.b (G h.b h8 (by decide))
 obtain⟨rb,x2,H,K,F,N,T,a4,I,U,X,V,Y,M,Z,W,a0,L,C,A,B,D,E,he,ho,hr⟩:=h.hr _ rfl
 cases he
 have S:=c.2.2.2.1.own hr (λb e=>zQ hr h8 (by decide) b e)
 exact⟨⟨h8,c.1⟩,⟨v,z⟩,⟨c.2.2.2.2.blk v (G h.a h9 (by decide)),c.2.2.2.2.blk z (G h.b h9 (by decide))⟩,
  ⟨rb,x2,_,_,_,_,T,I,f,c1,g,c2,i,c3,o,r,L,C,A,B,D,E,c.2.1,c.2.2.1,(ho.box c.2.2.2.1 h8 (by decide)).box c.2.2.2.2 c.1 (by decide),c.2.2.2.2.own S (λb e=>zQ S c.1 (by decide) b e)⟩,zhn h.bel Q R c.2.2.2.1 c.2.2.2.2,Q,R⟩
end
end
theorem l7Op_any (x:Off)(s q p K:Option Addr)(G F t Q m:Nat)(a6:Int)(y:OpD)(w:World)(hs:Off.Short x 1048576)(m1:qB w s x.san x.sa)(l5:ZG w q x.ldn x.ld)(l2:qO w p x.bkn x.bk)(l6:zT w K y.lgn y.lg)(m2:qj K y.lgn Q)(hl:y.lgn<=1048576)(ho:y.own.size<=1048576)(hO:Zk x)(hb:In a6 1 9999)(hx:∀ i,i<x.bkn->(x.bk i).who≠a6)(hm:zac y->In y.kind 4 8->y.name=(m:Int)+1/\m<=1048576) :
  Calls prog 44 #[.agg #[(s,x.san,G),(q,x.ldn,F),(p,x.bkn,t)],a6,.agg (y,K,Q)] w λe w'=>OpAns x a6 y m w.heap.size e w'/\Below w.heap.size w w':=by
 have HS:=hI hs;have HM:Hid (qB w s x.san x.sa/\ZG w q x.ldn x.ld/\qO w p x.bkn x.bk/\zT w K y.lgn y.lg/\qj K y.lgn Q):=⟨m1,l5,l2,l6,m2⟩;have HG:Hid (Zk x/\In a6 1 9999/\∀ i,i<x.bkn->(x.bk i).who≠a6):=⟨hO,hb,hx⟩;have HN:=hI hm;have o8:x.san<=6:=hO.1.1;have l1:x.bkn<=30:=hO.2.2.1;have f4:=hI hO.2.1;clear hs m1 l5 l2 l6 m2 hO hb hx hm;have n:Below w.heap.size w ((((w.alloc (.cells #[(s,x.san,G),(q,x.ldn,F),(p,x.bkn,t)] 38)).alloc (.cells (y,K,Q) 47)).alloc (.cells #[True,True,True] 38)).alloc (.cells #[(),(),(),True] 41)):=zk (zk (zk (zk bZ _) _) _) _;have O:=zd (zd (zd (Jb w (.cells #[(s,x.san,G),(q,x.ldn,F),(p,x.bkn,t)] 38)) (.cells (y,K,Q) 47)) (.cells #[True,True,True] 38)) (.cells #[(),(),(),True] 41);have P:=zd (zd (zfT w (.cells #[(s,x.san,G),(q,x.ldn,F),(p,x.bkn,t)] 38) (.cells (y,K,Q) 47)) (.cells #[True,True,True] 38)) (.cells #[(),(),(),True] 41);have N:=zd (show(((w.alloc (.cells #[(s,x.san,G),(q,x.ldn,F),(p,x.bkn,t)] 38)).alloc (.cells (y,K,Q) 47)).alloc (.cells #[True,True,True] 38)).heap[w.heap.size+1+1]?=some (.cells #[True,True,True] 38 (0,0)) from by simpa using Jb ((w.alloc (.cells #[(s,x.san,G),(q,x.ldn,F),(p,x.bkn,t)] 38)).alloc (.cells (y,K,Q) 47)) (.cells #[True,True,True] 38)) (.cells #[(),(),(),True] 41)
 have H:=nw4B3 n;go_enter func44,ntmps44;go_wp2_with fail;generalize ((((w.alloc (.cells #[(s,x.san,G),(q,x.ldn,F),(p,x.bkn,t)] 38)).alloc (.cells (y,K,Q) 47)).alloc (.cells #[True,True,True] 38)).alloc (.cells #[(),(),(),True] 41))=W at n O P N H ⊢;refine(zmb s q p K x.san x.ldn x.bkn G F t Q m x y _ (by omega) (by omega) hl (by omega) (HM.out.1.below n) (HM.out.2.2.1.below n) ⟨K,Q,rfl,HM.out.2.2.2.1.below n,HM.out.2.2.2.2⟩ HN.out).mono ?_
 rintro e V ⟨⟨d,rfl,e9⟩,d6⟩;have k2:=hI e9;clear e9;replace n:=ze n d6;replace O:=zb O d6;replace P:=zb P d6;replace N:=zb N d6;replace H:=zb H d6;clear d6 W;obtain⟨f0,f1,f2⟩:=ce3 O
 by_cases hc:d=0
 case neg =>
  have d1:(d != 0)=true:=by simpa using hc
  have d2:(d == 0)=false:=by simpa using hc
  have HC:=hI hc;clear hc;go_wp2_with fail;refine(zdx s q p x.san x.ldn x.bkn G F t x _ rfl rfl rfl HS.out (HM.out.1.below n) (HM.out.2.1.below n) (HM.out.2.2.1.below n)).mono ?_;rintro e V9 ⟨⟨a1,c1,a2,c2,a3,c3,L9,C9,A9,B9,D9,E9,rfl,a0⟩,c0⟩;have e8:=ze n c0;have r2:=zb N c0;have R:=zb H c0;obtain⟨S,b5,b6,T,_⟩:=zie e8 (a0.lower n.size) r2 R (by omega) (by omega) d () () True rfl
  have a9:Hid _:=S;have a8:Hid _:=T;clear S T a0;obtain⟨s0,s1,s2⟩:=ce3 r2;obtain⟨g5,g6,g7⟩:=fe3 r2;obtain⟨t0,t1,t2,t3⟩:=ce4 R;obtain⟨g8,g9,i0,i3⟩:=fe4 R;go_wp2;obtain⟨x0,x1,x2⟩:=ce3 b5;obtain⟨z0,z1,z2,z3⟩:=ce4 b6;exact Jj (v:=.tuple #[.agg #[(a1,x.san,c1),(a2,x.ldn,c2),(a3,x.bkn,c3)],.agg #[d,(),(),True]]) (by simp[results,results44,go_sem,x0,x1,x2,z0,z1,z2,z3]) rfl ⟨⟨x,_,_,_,_,_,_,_,_,_,_,_,_,_,_,_,_,rfl,a9.out,.inl ⟨HC.out,rfl,rfl,rfl,k2.out⟩,.inl ⟨rfl,λ_=>HC.out⟩⟩,a8.out⟩
 subst hc;have o9:w.heap.size+1+1+1<V.heap.size:=zM H;have a4:Hid (ZZ x y m):=znX k2.out (λh1 h2=>(HN.out h1 h2).1)
 go_wp2_with fail;refine(zdx s q p x.san x.ldn x.bkn G F t x _ rfl rfl rfl HS.out (HM.out.1.below n) (HM.out.2.1.below n) (HM.out.2.2.1.below n)).mono ?_;rintro e V2 ⟨⟨a1,c1,a2,c2,a3,c3,L,C,A,B,D,E,rfl,a0⟩,I⟩;have k7:=hI a0;have i5:w.heap.size<=V.heap.size:=n.size;replace n:=ze n I;replace O:=zb O I;replace P:=zb P I;replace N:=zb N I;replace H:=zb H I;have e6:=hI (zM H);clear f0 f1 f2 a0;have g0:∀ o,(V2.alloc o).cell? (w.heap.size,0)=some (s,x.san,G):=λo=>za (zd O o) 0 _ rfl
 have g1:∀ o,(V2.alloc o).cell? (w.heap.size,1)=some (q,x.ldn,F):=λo=>za (zd O o) 1 _ rfl
 have g2:∀ o,(V2.alloc o).cell? (w.heap.size,2)=some (p,x.bkn,t):=λo=>za (zd O o) 2 _ rfl
 have h0:∀ o,(V2.alloc o).cell? (w.heap.size+1,0)=some (int i64 y.kind):=λo=>za (zd P o) 0 _ rfl
 have h1:∀ o,(V2.alloc o).cell? (w.heap.size+1,1)=some (.string y.own):=λo=>za (zd P o) 1 _ rfl
 have h2:∀ o,(V2.alloc o).cell? (w.heap.size+1,2)=some (int i64 y.name):=λo=>za (zd P o) 2 _ rfl
 have h3:∀ o,(V2.alloc o).cell? (w.heap.size+1,3)=some (K,y.lgn,Q):=λo=>za (zd P o) 3 _ rfl
 have h4:∀ o,(V2.alloc o).cell? (w.heap.size+1,4)=some (int i64 y.pe):=λo=>za (zd P o) 4 _ rfl
 have h5:∀ o,(V2.alloc o).cell? (w.heap.size+1,5)=some (int i64 y.len):=λo=>za (zd P o) 5 _ rfl
 have h6:∀ o,(V2.alloc o).cell? (w.heap.size+1,6)=some (int i64 y.hei):=λo=>za (zd P o) 6 _ rfl
 have h7:∀ o,(V2.alloc o).cell? (w.heap.size+1,7)=some (int i64 y.cl):=λo=>za (zd P o) 7 _ rfl
 have h8:∀ o,(V2.alloc o).cell? (w.heap.size+1,8)=some (.bool y.all):=λo=>za (zd P o) 8 _ rfl
 have h9:∀ o,(V2.alloc o).cell? (w.heap.size+1,9)=some (int i64 y.be):=λo=>za (zd P o) 9 _ rfl
 have j7:∀ o,(V2.alloc o).cell? (w.heap.size+1,10)=some (int i64 y.unt):=λo=>za (zd P o) 10 _ rfl
 have j8:∀ o,(V2.alloc o).cell? (w.heap.size+1,11)=some (int i64 y.now):=λo=>za (zd P o) 11 _ rfl
 go_wp2_with fail;have bQ:=Jb V2 (.cells #[(a1,x.san,c1),(a2,x.ldn,c2),(a3,x.bkn,c3)] 38);have i6:V.heap.size<=V2.heap.size:=I.size;have j3:Hid (zF (V2.alloc (.cells #[(a1,x.san,c1),(a2,x.ldn,c2),(a3,x.bkn,c3)] 38)) V.heap.size (a1,x.san,c1) (a2,x.ldn,c2) (a3,x.bkn,c3) x.san x.ldn x.bkn x L C A B D E):=k7.out.below (zk bZ _);replace n:=zk n (.cells #[(a1,x.san,c1),(a2,x.ldn,c2),(a3,x.bkn,c3)] 38);replace O:=zd O (.cells #[(a1,x.san,c1),(a2,x.ldn,c2),(a3,x.bkn,c3)] 38);replace P:=zd P (.cells #[(a1,x.san,c1),(a2,x.ldn,c2),(a3,x.bkn,c3)] 38);replace N:=zd N (.cells #[(a1,x.san,c1),(a2,x.ldn,c2),(a3,x.bkn,c3)] 38);replace H:=zd H (.cells #[(a1,x.san,c1),(a2,x.ldn,c2),(a3,x.bkn,c3)] 38);have o3:w.heap.size+1+1+1<V2.heap.size:=e6.out;generalize V2.alloc (.cells #[(a1,x.san,c1),(a2,x.ldn,c2),(a3,x.bkn,c3)] 38)=X at bQ j3 n O P N H ⊢;have c9:=zM bQ;generalize V2.heap.size=qb at bQ i6 o3 c9 ⊢;have m0:=hI c9;clear c9;clear e6 g0 g1 g2 h0 h1 h2 h3 h4 h5 h6 h7 h8 h9 j7 j8 k7 I V2;refine(zlR s q p K x.san x.ldn x.bkn G F t Q m x y a6 _ (by omega) HS.out.2.2.2 hl (HM.out.2.2.1.below n) (HM.out.2.2.2.1.below n) (λhk=>⟨(a4.out.2.2 (zaR hk)).1,(a4.out.2.2 (zaR hk)).2.1⟩)).mono ?_
 rintro e Y ⟨v,rfl,g4,b4⟩;have f6:=hI (zeK HG.out.1 a4.out HG.out.2.1 HG.out.2.2);obtain⟨l,f7⟩:∃ l,l=qk x a6 y m:=⟨_,rfl⟩;rw[← f7] at g4 f6;have HL:=hI f7;have p6:l.length<=1000:=by
  rw[f7];unfold qk;have q1:=zjg a4.out.1;have q2:=QD true (x.bk m).who ⟨(x.bk m).pe,(x.bk m).len,(x.bk m).hei,(x.bk m).cl,(x.bk m).all,(x.bk m).be⟩ (x.bk m).lg (x.bk m).lgn;have q3:=QD false a6 ⟨y.pe,y.len,y.hei,y.cl,y.all,y.be⟩ y.lg y.lgn;have q4:Qt y.kind->(x.bk m).lgn<=3:=λhk=>(HG.out.1.2.2.2.2.1 m (a4.out.2.2 (zaR hk)).2.1).2.2.2.1.2.1
  rw[List.length_append];have p1:(if Qt y.kind then Zh true (x.bk m).who ⟨(x.bk m).pe,(x.bk m).len,(x.bk m).hei,(x.bk m).cl,(x.bk m).all,(x.bk m).be⟩ (x.bk m).lg (x.bk m).lgn else []).length<=9:=by
   by_cases c:Qt y.kind
   ·rw[Jf c];have:=q4 c;omega
   ·rw[Je c];decide
  have p2:(if zJ y.kind then Zh false a6 ⟨y.pe,y.len,y.hei,y.cl,y.all,y.be⟩ y.lg y.lgn else []).length<=9:=by
   by_cases c:zJ y.kind
   ·rw[Jf c];omega
   ·rw[Je c];decide
  omega
 clear f7;obtain⟨aw,cw,rfl,w1,w2,w3⟩:=zp g4;have k9:=hI g4;have f5:=hI (j3.out.below b4);have m4:X.heap.size<=Y.heap.size:=b4.size;replace n:=ze n b4;replace O:=zb O b4;replace P:=zb P b4;replace N:=zb N b4;replace H:=zb H b4;replace bQ:=zb bQ b4;have o5:qb<X.heap.size:=m0.out;clear g4 b4 w1 w2 w3 j3;rw[f4.out] at f5 bQ ⊢;have i4:Hid (∀ wr,zx Y wr (λb=>(Value.slice a2 x.san c2).ownBlock=some b)->Below w.heap.size w wr/\wr.heap[w.heap.size]?=some (.cells #[(s,x.san,G),(q,x.ldn,F),(p,x.bkn,t)] 38 (0,0))/\wr.heap[w.heap.size+1]?=some (.cells (y,K,Q) 47 (0,0))/\wr.heap[w.heap.size+1+1]?=some (.cells #[True,True,True] 38 (0,0))/\wr.heap[w.heap.size+1+1+1]?=some (.cells #[(),(),(),True] 41 (0,0))/\wr.ownsRow X.heap.size 159 10 (aw,l.length,cw) l.length (zgE l)):=λwr hk=>by
  have J:∀ b,(Value.slice a2 x.san c2).ownBlock=some b->V.heap.size<=b:=λb e=>(f5.out.ld.row.lt b e).1
  exact⟨zx.below n n.size hk (λb e=>Jp i5 (J b e)),hk.blk O (λe=>by have:=J _ e;omega),hk.blk P (λe=>by have:=J _ e;omega),hk.blk N (λe=>by have:=J _ e;omega),hk.blk H (λe=>by have:=J _ e;omega),hk.own k9.out (λg h1 h2=>zI f5.out.ld.row k9.out (by decide) g h2 h1)⟩
 go_wp2;go_loopw [11,12,30] (λ_ _ i wr=>∃ (j:Nat) (M:Nat->zY) (A B D:Nat->Value),j<=l.length/\i=int i64 j/\Hid (zav x l j M)/\Hid (zF wr V.heap.size (a1,x.san,c1) (a2,x.san,c2) (a3,x.bkn,c3) x.san x.san x.bkn { x with ld:=M } L C A B D E)/\Hid (wr.heap[qb]?=some (.cells #[(a1,x.san,c1),(a2,x.san,c2),(a3,x.bkn,c3)] 38 (0,0)))/\Hid (zx Y wr (λb=>(Value.slice a2 x.san c2).ownBlock=some b))) (λ_ _ i _=>l.length - (intOf i).toNat)
 case atStart=>exact⟨0,x.ld,_,_,_,Jq _,rfl,zav.start HG.out.1 (λv hv=>(f6.out.2 v hv).1),f5.out,bQ,zx.refl _ _⟩
 case round =>
  clear O P N H bQ n;obtain⟨j,M,A,B,D,hj,rfl,a5,j2,k1,j0⟩:=hrel;obtain⟨f,O,P,N,H,j9⟩:=i4.out wr j0.out
  by_cases hlt:j<l.length
  ·obtain⟨v,hv⟩:∃ v,l[j]?=some v:=⟨l[j],List.getElem?_eq_getElem hlt⟩
   have HV:=hI hv;have d9:Hid (WkOk x v):=(f6.out.2 v (List.mem_of_getElem? hv)).2;obtain⟨gw,rfl,_,p3⟩:=qh j9 (by omega)
   have a7:Hid (∀ r u,r<10->(wkC v)[r]?=some u->wr.cell? (gw,j*10+r)=some u):=λr u hr hu=>by
    rw[j9.cellAt (j*10+r) (by omega),zkX l j v HV.out r hr]
    exact hu
   have n3:wr.cell? (gw,j*10)=some (int i64 v.leg):=a7.out 0 _ (by decide) rfl
   have n4:=a7.out 1 _ (by decide) rfl
   have n5:=a7.out 2 _ (by decide) rfl
   have n6:=a7.out 3 _ (by decide) rfl
   have n7:=a7.out 4 _ (by decide) rfl
   have n8:=a7.out 5 _ (by decide) rfl
   have n9:=a7.out 6 _ (by decide) rfl
   have o0:=a7.out 7 _ (by decide) rfl
   have o1:=a7.out 8 _ (by decide) rfl
   have o2:=a7.out 9 _ (by decide) rfl
   clear hv j9;obtain⟨k,hk⟩:∃ k,zW x.sa v.leg x.san=k:=⟨_,rfl⟩;have HK:=hI hk;have b9:Hid (k<x.san):=by have h:=d9.out.2.1;rw[hk] at h;exact h
   clear hk;have i1:(0:Int)<=(j:Int):=by omega
   have i2:(j:Int)<(l.length:Int):=by omega
   go_wp2_with fail;have f8:Below wr.heap.size wr (wr.alloc (.cells #[v.leg,(v.res:Int),v.goes,v.who,v.p.pe,v.p.len,v.p.hei,v.p.cl,v.p.all,v.p.be] 159)):=zk bZ _;have k5:=hI (j2.out.below f8);have k0:Hid ((wr.alloc (.cells #[v.leg,(v.res:Int),v.goes,v.who,v.p.pe,v.p.len,v.p.hei,v.p.cl,v.p.all,v.p.be] 159)).heap[qb]?=some (.cells #[(a1,x.san,c1),(a2,x.san,c2),(a3,x.bkn,c3)] 38 (0,0))):=zd k1.out _;have k3:=hI (j0.out.trans (zx.of_below f8));generalize wr.alloc (.cells #[v.leg,(v.res:Int),v.goes,v.who,v.p.pe,v.p.len,v.p.hei,v.p.cl,v.p.all,v.p.be] 159)=wa at f8 k5 k0 k3 ⊢;clear n3 n4 n5 n6 n7 n8 n9 o0 o1 o2 O P N H f f8;refine(l7Do_any qb V.heap.size x.san x.bkn k c1 c2 c3 a1 a2 a3 v { x with ld:=M } L C A B D E wa k0.out k5.out (by omega) HK.out b9.out (a5.out.good k b9.out) d9.out.1 (λhg=>a5.out.there HV.out HK.out b9.out hg) (λhg=>by have h:=(d9.out.2.2 hg).2.1.1;unfold In at h ⊢;omega)).mono ?_
   rintro e wd ⟨d,z,A',B',D',rfl,m5,l7,l9,l4⟩;have j4:=hI m5;have n0:=hI l7;have n1:Hid _:=l9;have k4:=hI (k3.out.trans l4);clear m5 l7 l9 l4
   by_cases hc:d=0
   ·subst hc
    go_wp2;go_roundw
    case rel=>exact⟨j+1,zht M k z,A',B',D',by omega,by go_num,a5.out.next f6.out.1 HV.out HK.out b9.out d9.out j4.out,n0.out,n1.out,k4.out⟩
    case measure=>simp[intOf];omega
   ·have d1:(d != 0)=true:=by simpa using hc
    have d2:(d == 0)=false:=by simpa using hc
    have HC:=hI hc;clear hc;obtain⟨f,O,P,N,H,_⟩:=i4.out wd k4.out;have m6:z=M k:=by
     rcases j4.out.on (a5.out.good k b9.out) (a5.out.comes HV.out HK.out b9.out d9.out) with⟨h,_⟩|⟨_,h⟩
     ·exact absurd h HC.out
     ·exact h
    have n2:Hid (qV (x.sa k) v (M k) d (M k)):=by have h:=j4.out;rw[m6] at h;exact h
    clear m6;obtain⟨f0,f1,f2⟩:=ce3 O;go_wp2_with fail;refine(zdx s q p x.san x.ldn x.bkn G F t x _ rfl rfl rfl HS.out (HM.out.1.below f) (HM.out.2.1.below f) (HM.out.2.2.1.below f)).mono ?_;rintro e V9 ⟨⟨a1,c1,a2,c2,a3,c3,L9,C9,A9,B9,D9,E9,rfl,a0⟩,c0⟩;have e8:=ze f c0;have r2:=zb N c0;have R:=zb H c0;obtain⟨S,b5,b6,T,_⟩:=zie e8 (a0.lower f.size) r2 R (by omega) (by omega) d () () True rfl
    have a9:Hid _:=S;have a8:Hid _:=T;clear S T a0;obtain⟨s0,s1,s2⟩:=ce3 r2;obtain⟨g5,g6,g7⟩:=fe3 r2;obtain⟨t0,t1,t2,t3⟩:=ce4 R;obtain⟨g8,g9,i0,i3⟩:=fe4 R;go_wp2;obtain⟨x0,x1,x2⟩:=ce3 b5;obtain⟨z0,z1,z2,z3⟩:=ce4 b6;exact Jj (v:=.tuple #[.agg #[(a1,x.san,c1),(a2,x.ldn,c2),(a3,x.bkn,c3)],.agg #[d,(),(),True]]) (by simp[results,results44,go_sem,x0,x1,x2,z0,z1,z2,z3]) rfl ⟨⟨x,_,_,_,_,_,_,_,_,_,_,_,_,_,_,_,_,rfl,a9.out,.inr (.inl ⟨a4.out,HC.out,rfl,rfl,rfl,j,M,v,k,by rw[← HL.out];exact a5.out,by rw[← HL.out];exact HV.out,HK.out,b9.out,n2.out⟩),.inl ⟨rfl,λ_=>HC.out⟩⟩,a8.out⟩
  ·obtain rfl:j=l.length:=by omega
   obtain⟨h0,h1,h2,h3,h4,h5,h6,h7,h8,h9,j7,j8⟩:=zeW P;go_wp2_with fail;refine(l7End_any qb V.heap.size x.san x.bkn c1 c2 c3 Q m a1 a2 a3 K a6 y { x with ld:=M } L C A B D E wr k1.out j2.out rfl rfl f4.out (Jp (Jp i6 (Nat.le_of_lt (Nat.lt_of_lt_of_le o5 m4))) j0.out.size) (HM.out.2.2.2.1.below f) HM.out.2.2.2.2 (λh0 a ea=>by obtain⟨b',o7,e',o4⟩:=HM.out.2.2.2.1 0 h0;rw[ea] at e';cases e';have h1:=Ja w _ o4;have h2:b'<w.heap.size:=h1;show b'<V.heap.size;omega) a4.out HG.out.1.1 l1 ⟨HS.out.1,⟨HS.out.2.1.1,λi hi=>by have h:=a5.out.good i (by have:=f4.out;have h9:i<x.ldn:=hi;omega);exact⟨by have:=((QO _ _ _).1 h.1).2.1;show(M i).stn<=_;omega,by have:=h.2.1.2.1;show(M i).ron<=_;omega,by have:=h.2.2.2.1;show(M i).sen<=_;omega⟩⟩,HS.out.2.2⟩ (λi hi=>(HG.out.1.2.2.2.2.1 i hi).2.2.2.1)).mono ?_
   rintro e we ⟨x3,d,name,price,l3,e0,e4,rv,E',rfl,g3,l8,f9,d7⟩;obtain⟨ra,rn,rc,rfl⟩:∃ ra rn rc,rv=.slice ra rn rc:=by
    by_cases h9:y.kind=9
    ·obtain⟨_,_,_,h3⟩:=g3.1 h9
     obtain⟨ao,c,e,_⟩:=zp h3;exact⟨ao,_,c,e⟩
    ·exact⟨none,0,0,g3.2 h9⟩
   have b7:=hI l3;have k8:=hI g3;have j1:=hI l8;have J:∀ b,b=qb∨(Value.slice a3 x.bkn c3).ownBlock=some b->V.heap.size<=b:=λb e=>by
    rcases e with e|e
    ·omega
    ·exact(j2.out.bk.row.lt b e).1
   replace O:=d7.blk O (λe=>by have:=J _ e;omega)
   replace P:=d7.blk P (λe=>by have:=J _ e;omega)
   replace N:=d7.blk N (λe=>by have:=J _ e;omega)
   replace H:=d7.blk H (λe=>by have:=J _ e;omega)
   replace f:=zx.below f f.size d7 (λb e=>by have:=J _ e;omega)
   clear h0 h1 h2 h3 h4 h5 h6 h7 h8 h9 j7 j8 l3 g3 l8 d7 J;have p4:∀ o,(we.alloc o).cell? (w.heap.size+1,0)=some (int i64 y.kind):=λo=>za (zd P o) 0 _ rfl
   by_cases hc:d=0/\y.kind≠1
   case neg =>
    have HC:Hid (d≠0∨y.kind=1):=by
     by_cases h:d=0
     ·exact .inr (by by_cases h2:y.kind=1;exact h2;exact absurd ⟨h,h2⟩ hc)
     ·exact .inl h
    have o6:=k8.out.2 (b7.out.nine HC.out)
    cases o6
    clear hc
    by_cases hc:d=0
    ·have hk:y.kind=1:=by rcases HC.out with h|h;exact absurd hc h;exact h
     subst hc;have d1:(y.kind == 1)=true:=by simpa using hk
     have p5:=hk;clear hk;have bT:=Jb we (.cells #[(),name,price,True] 41);have e5:w.heap.size+1+1+1<we.heap.size:=zM H;go_upto_region 14 with fail;replace O:=zd O (.cells #[(),name,price,True] 41);have j5:=N;have j6:=H;replace N:=zd N (.cells #[(),name,price,True] 41);replace H:=zd H (.cells #[(),name,price,True] 41);replace f:=zk f (.cells #[(),name,price,True] 41);have d8:=zd f9 (.cells #[(),name,price,True] 41);have d0:Hid _:=j1.out.below (zk bZ (.cells #[(),name,price,True] 41));have d4:Hid (zx we (we.alloc (.cells #[(),name,price,True] 41)) (λb=>b=w.heap.size+1+1∨b=w.heap.size+1+1+1)):=zx.of_below (zk bZ _)
     generalize we.alloc (.cells #[(),name,price,True] 41)=wf at bT O N H f d8 d0 d4 ⊢;generalize we.heap.size=U at bT e5 ⊢;have p0:=O;have pT:=bT;have KS:Hid (∀ z:World,z.heap[w.heap.size]?=some (.cells #[(s,x.san,G),(q,x.ldn,F),(p,x.bkn,t)] 38 (0,0))->z.heap[U]?=some (.cells #[(),name,price,True] 41 (0,0))->z.cell? (w.heap.size,0)=some (s,x.san,G)/\z.cell? (w.heap.size,1)=some (q,x.ldn,F)/\z.cell? (w.heap.size,2)=some (p,x.bkn,t)/\z.cell? (U,0)=some ()/\z.cell? (U,1)=some (int i64 name)/\z.cell? (U,2)=some (int i64 price)/\z.cell? (U,3)=some True):=λz h1 h2=>⟨za h1 0 _ rfl,za h1 1 _ rfl,za h1 2 _ rfl,za h2 0 _ rfl,za h2 1 _ rfl,za h2 2 _ rfl,za h2 3 _ rfl⟩
     have i8:Hid (∀ Z,Below wf.heap.size wf Z->Calls prog 70 #[.agg #[.slice s x.san G,.slice q x.ldn F,.slice p x.bkn t]] Z λe u=>(∃ d1 e1 d2 e2 d3 e3 L C A B D E,e=.returned (.agg #[.slice d1 x.san e1,.slice d2 x.ldn e2,.slice d3 x.bkn e3])/\Hid (zF u w.heap.size (.slice d1 x.san e1) (.slice d2 x.ldn e2) (.slice d3 x.bkn e3) x.san x.ldn x.bkn x L C A B D E))/\Below wf.heap.size wf u):=λZ hZ=>by
      refine(zdx s q p x.san x.ldn x.bkn G F t x Z rfl rfl rfl HS.out (HM.out.1.below (ze f hZ)) (HM.out.2.1.below (ze f hZ)) (HM.out.2.2.1.below (ze f hZ))).mono ?_;rintro e u ⟨⟨d1,e1,d2,e2,d3,e3,L',C',A',B',D',E',rfl,h⟩,hb⟩;exact⟨⟨d1,e1,d2,e2,d3,e3,L',C',A',B',D',E',rfl,h.lower (ze f hZ).size⟩,ze hZ hb⟩
     go_region_held3 (λw'=>w'.cell? (w.heap.size,0)=some (s,x.san,G)/\w'.cell? (w.heap.size,1)=some (q,x.ldn,F)/\w'.cell? (w.heap.size,2)=some (p,x.bkn,t)/\w'.cell? (U,0)=some ()/\w'.cell? (U,1)=some (int i64 name)/\w'.cell? (U,2)=some (int i64 price)/\w'.cell? (U,3)=some True)
      (first|(refine KS.out _ ?_ ?_ <;> (repeat(first|with_reducible exact p0|with_reducible exact pT|(with_reducible refine zK ?_)|(with_reducible refine zD ?_ _ _ ?_;rotate_left;(focus omega))))))
      (first
       | (go_simp;go_at_call 70;(with_reducible refine Jm (i8.out _ ?_) ?_);(focus(repeat(first | exact bZ | refine Jh ?_ | refine zk ?_ _)));rintro e u2 ⟨⟨d1,e1,d2,e2,d3,e3,L9,C9,A9,B9,D9,E9,rfl,a0⟩,I⟩;have i7:=hI I;replace p0:=zb p0 I;replace pT:=zb pT I;have r2:=zb N I;have R:=zb H I;have s0:=za r2 0 _ rfl;have g5:=zg r2 0;have s1:=za r2 1 _ rfl;have g6:=zg r2 1;have s2:=za r2 2 _ rfl;have g7:=zg r2 2;have t0:=za R 0 _ rfl;have g8:=zg R 0;have t1:=za R 1 _ rfl;have g9:=zg R 1;have t2:=za R 2 _ rfl;have i0:=zg R 2;have t3:=za R 3 _ rfl;have i3:=zg R 3;dsimp only))
     ·have e7:=ze f i7.out
      obtain⟨S,b5,b6,T,b8⟩:=zie e7 a0.out r2 R (by omega) (by omega) () name price True rfl
      have a9:Hid _:=S;have a8:Hid _:=T;have i9:Hid _:=b8;clear S T b8;obtain⟨x0,x1,x2⟩:=ce3 b5;obtain⟨z0,z1,z2,z3⟩:=ce4 b6;go_wp2;exact Jj (v:=.tuple #[.agg #[(d1,x.san,e1),(d2,x.ldn,e2),(d3,x.bkn,e3)],.agg #[(),name,price,True]]) (by simp[results,results44,go_sem,x0,x1,x2,z0,z1,z2,z3]) rfl ⟨⟨x,_,_,_,_,_,_,_,_,_,_,_,_,_,_,_,_,rfl,a9.out,.inr (.inr ⟨a4.out,M,x3,by rw[← HL.out];exact a5.out,b7.out,λ_=>rfl,λh=>absurd HC.out h⟩),.inl ⟨rfl,λh9=>absurd h9 (b7.out.nine HC.out)⟩⟩,a8.out⟩
    ·have d1:(d != 0)=true:=by simpa using hc
     have d2:(d == 0)=false:=by simpa using hc
     clear hc;have bT:=Jb we (.cells #[d,name,price,True] 41);have e5:w.heap.size+1+1+1<we.heap.size:=zM H;go_upto_region 14 with fail;replace O:=zd O (.cells #[d,name,price,True] 41);have j5:=N;have j6:=H;replace N:=zd N (.cells #[d,name,price,True] 41);replace H:=zd H (.cells #[d,name,price,True] 41);replace f:=zk f (.cells #[d,name,price,True] 41);have d8:=zd f9 (.cells #[d,name,price,True] 41);have d0:Hid _:=j1.out.below (zk bZ (.cells #[d,name,price,True] 41));have d4:Hid (zx we (we.alloc (.cells #[d,name,price,True] 41)) (λb=>b=w.heap.size+1+1∨b=w.heap.size+1+1+1)):=zx.of_below (zk bZ _)
     generalize we.alloc (.cells #[d,name,price,True] 41)=wf at bT O N H f d8 d0 d4 ⊢;generalize we.heap.size=U at bT e5 ⊢;have p0:=O;have pT:=bT;have KS:Hid (∀ z:World,z.heap[w.heap.size]?=some (.cells #[(s,x.san,G),(q,x.ldn,F),(p,x.bkn,t)] 38 (0,0))->z.heap[U]?=some (.cells #[d,name,price,True] 41 (0,0))->z.cell? (w.heap.size,0)=some (s,x.san,G)/\z.cell? (w.heap.size,1)=some (q,x.ldn,F)/\z.cell? (w.heap.size,2)=some (p,x.bkn,t)/\z.cell? (U,0)=some (int i64 d)/\z.cell? (U,1)=some (int i64 name)/\z.cell? (U,2)=some (int i64 price)/\z.cell? (U,3)=some True):=λz h1 h2=>⟨za h1 0 _ rfl,za h1 1 _ rfl,za h1 2 _ rfl,za h2 0 _ rfl,za h2 1 _ rfl,za h2 2 _ rfl,za h2 3 _ rfl⟩
     have i8:Hid (∀ Z,Below wf.heap.size wf Z->Calls prog 70 #[.agg #[.slice s x.san G,.slice q x.ldn F,.slice p x.bkn t]] Z λe u=>(∃ d1 e1 d2 e2 d3 e3 L C A B D E,e=.returned (.agg #[.slice d1 x.san e1,.slice d2 x.ldn e2,.slice d3 x.bkn e3])/\Hid (zF u w.heap.size (.slice d1 x.san e1) (.slice d2 x.ldn e2) (.slice d3 x.bkn e3) x.san x.ldn x.bkn x L C A B D E))/\Below wf.heap.size wf u):=λZ hZ=>by
      refine(zdx s q p x.san x.ldn x.bkn G F t x Z rfl rfl rfl HS.out (HM.out.1.below (ze f hZ)) (HM.out.2.1.below (ze f hZ)) (HM.out.2.2.1.below (ze f hZ))).mono ?_;rintro e u ⟨⟨d1,e1,d2,e2,d3,e3,L',C',A',B',D',E',rfl,h⟩,hb⟩;exact⟨⟨d1,e1,d2,e2,d3,e3,L',C',A',B',D',E',rfl,h.lower (ze f hZ).size⟩,ze hZ hb⟩
     go_region_held3 (λw'=>w'.cell? (w.heap.size,0)=some (s,x.san,G)/\w'.cell? (w.heap.size,1)=some (q,x.ldn,F)/\w'.cell? (w.heap.size,2)=some (p,x.bkn,t)/\w'.cell? (U,0)=some (int i64 d)/\w'.cell? (U,1)=some (int i64 name)/\w'.cell? (U,2)=some (int i64 price)/\w'.cell? (U,3)=some True)
      (first|(refine KS.out _ ?_ ?_ <;> (repeat(first|with_reducible exact p0|with_reducible exact pT|(with_reducible refine zK ?_)|(with_reducible refine zD ?_ _ _ ?_;rotate_left;(focus omega))))))
      (first
       | (go_simp;go_at_call 70;(with_reducible refine Jm (i8.out _ ?_) ?_);(focus(repeat(first | exact bZ | refine Jh ?_ | refine zk ?_ _)));rintro e u2 ⟨⟨d1,e1,d2,e2,d3,e3,L9,C9,A9,B9,D9,E9,rfl,a0⟩,I⟩;have i7:=hI I;replace p0:=zb p0 I;replace pT:=zb pT I;have r2:=zb N I;have R:=zb H I;have s0:=za r2 0 _ rfl;have g5:=zg r2 0;have s1:=za r2 1 _ rfl;have g6:=zg r2 1;have s2:=za r2 2 _ rfl;have g7:=zg r2 2;have t0:=za R 0 _ rfl;have g8:=zg R 0;have t1:=za R 1 _ rfl;have g9:=zg R 1;have t2:=za R 2 _ rfl;have i0:=zg R 2;have t3:=za R 3 _ rfl;have i3:=zg R 3;dsimp only))
     ·have e7:=ze f i7.out
      obtain⟨S,b5,b6,T,b8⟩:=zie e7 a0.out r2 R (by omega) (by omega) d name price True rfl
      have a9:Hid _:=S;have a8:Hid _:=T;have i9:Hid _:=b8;clear S T b8;obtain⟨x0,x1,x2⟩:=ce3 b5;obtain⟨z0,z1,z2,z3⟩:=ce4 b6;go_wp2;exact Jj (v:=.tuple #[.agg #[(d1,x.san,e1),(d2,x.ldn,e2),(d3,x.bkn,e3)],.agg #[d,name,price,True]]) (by simp[results,results44,go_sem,x0,x1,x2,z0,z1,z2,z3]) rfl ⟨⟨x,_,_,_,_,_,_,_,_,_,_,_,_,_,_,_,_,rfl,a9.out,.inr (.inr ⟨a4.out,M,x3,by rw[← HL.out];exact a5.out,b7.out,λ_=>rfl,λh=>absurd HC.out h⟩),.inl ⟨rfl,λh9=>absurd h9 (b7.out.nine HC.out)⟩⟩,a8.out⟩
   obtain⟨hc,hk⟩:=hc;subst hc;have d1:(y.kind == 1)=false:=by simpa using hk
   have m9:=hI hk;clear hk;have m3:x3.san=x.san/\x3.ldn=x.san:=⟨b7.out.size.1,b7.out.size.2.trans f4.out⟩;obtain⟨p8,m8,p7,m7,d5,l0⟩:=x3;obtain⟨e1,e2⟩:=m3;dsimp only at e1 e2 f9;subst e1;subst e2;have k6:=hI j1.out;have bT:=Jb we (.cells #[(),name,price,(ra,rn,rc)] 41);have e5:w.heap.size+1+1+1<we.heap.size:=zM H;go_upto_region 15 with fail;replace O:=zd O (.cells #[(),name,price,(ra,rn,rc)] 41);have j5:=N;have j6:=H;replace N:=zd N (.cells #[(),name,price,(ra,rn,rc)] 41);replace H:=zd H (.cells #[(),name,price,(ra,rn,rc)] 41);replace f:=zk f (.cells #[(),name,price,(ra,rn,rc)] 41);have d8:=zd f9 (.cells #[(),name,price,(ra,rn,rc)] 41);have d0:Hid _:=k6.out.below (zk bZ (.cells #[(),name,price,(ra,rn,rc)] 41));have d4:Hid (zx we (we.alloc (.cells #[(),name,price,(ra,rn,rc)] 41)) (λb=>b=w.heap.size+1+1∨b=w.heap.size+1+1+1)):=zx.of_below (zk bZ _)
   generalize we.alloc (.cells #[(),name,price,(ra,rn,rc)] 41)=wf at bT O N H f d8 d0 d4 ⊢;generalize we.heap.size=U at bT e5 ⊢;have p0:=d8;have pT:=bT;have KS:Hid (∀ z:World,z.heap[qb]?=some (.cells #[(a1,x.san,c1),(a2,x.san,c2),(e0,d5,e4)] 38 (0,0))->z.heap[U]?=some (.cells #[(),name,price,(ra,rn,rc)] 41 (0,0))->z.cell? (qb,0)=some (a1,x.san,c1)/\z.cell? (qb,1)=some (a2,x.san,c2)/\z.cell? (qb,2)=some (e0,d5,e4)/\z.cell? (U,0)=some ()/\z.cell? (U,1)=some (int i64 name)/\z.cell? (U,2)=some (int i64 price)/\z.cell? (U,3)=some (ra,rn,rc)):=λz h1 h2=>⟨za h1 0 _ rfl,za h1 1 _ rfl,za h1 2 _ rfl,za h2 0 _ rfl,za h2 1 _ rfl,za h2 2 _ rfl,za h2 3 _ rfl⟩
   have r2:=N;have R:=H;obtain⟨s0,s1,s2⟩:=ce3 r2;obtain⟨g5,g6,g7⟩:=fe3 r2;obtain⟨t0,t1,t2,t3⟩:=ce4 R;obtain⟨g8,g9,i0,i3⟩:=fe4 R;go_region_held3 (λw'=>w'.cell? (qb,0)=some (a1,x.san,c1)/\w'.cell? (qb,1)=some (a2,x.san,c2)/\w'.cell? (qb,2)=some (e0,d5,e4)/\w'.cell? (U,0)=some ()/\w'.cell? (U,1)=some (int i64 name)/\w'.cell? (U,2)=some (int i64 price)/\w'.cell? (U,3)=some (ra,rn,rc))
    (first|(refine KS.out _ ?_ ?_ <;> (repeat(first|with_reducible exact p0|with_reducible exact pT|(with_reducible refine zK ?_)|(with_reducible refine zD ?_ _ _ ?_;rotate_left;(focus omega))))))
    (fail)
   ·have e7:=f
    obtain⟨S,b5,b6,T,b8⟩:=zie e7 (d0.out.lower i5) r2 R (by omega) (by omega) () name price (ra,rn,rc) rfl
    have a9:Hid _:=S.below (Jh bZ);have a8:Hid _:=Jh T;have i9:Hid _:=b8.trans (zx.of_below (Jh bZ));clear S T b8;obtain⟨x0,x1,x2⟩:=ce3 (zK b5);obtain⟨z0,z1,z2,z3⟩:=ce4 (zK b6);go_wp2;refine Jj (v:=.tuple #[.agg #[(a1,x.san,c1),(a2,x.san,c2),(e0,d5,e4)],.agg #[(),name,price,(ra,rn,rc)]]) (by simp[results,results44,go_sem,x0,x1,x2,z0,z1,z2,z3]) rfl ⟨⟨⟨x.san,m8,x.san,m7,d5,l0⟩,a1,c1,a2,c2,e0,e4,0,name,price,.slice ra rn rc,L,C,A,B,D,E',rfl,?_,?_,?_⟩,a8.out⟩
    ·exact a9.out
    ·exact .inr (.inr ⟨a4.out,M,⟨x.san,m8,x.san,m7,d5,l0⟩,by rw[← HL.out];exact a5.out,b7.out,λh=>by rcases h with h|h;exact absurd rfl h;exact absurd h m9.out,λ_=>rfl⟩)
    ·exact .inr ⟨M,_,a4.out,by rw[← HL.out];exact a5.out,zeQ k8.out (d4.out.trans i9.out) (λg e=>by rcases e with e|e;exact⟨_,_,by rw[e];exact j5,by decide⟩;exact⟨_,_,by rw[e];exact j6,by decide⟩)⟩
theorem zjo (x:Off)(G T:Option Addr)(bb bo L U B:Nat)(i:Nat)(C:Nat->List Value)(w:World)(hi:i<x.bkn)(hs:Off.Short x 1048576)
  (b6:qB w G x.san x.sa) (hC:QT w (some (bb,bo)) x.bkn 13 C) (hI:∀ k,k<x.bkn->ql.Is w (C k) (x.bk k)) (e8:x.bkn<=B) :
  Calls prog 85 #[.agg #[.slice G x.san L,.slice T x.ldn U,.slice (some ⟨bb,bo,none⟩) x.bkn B],int i64 i] w λe w'=>qX (Zt x i) e/\Below w.heap.size w w':=by
 have d1:=hI b6;have HC:=hI hC;have HI:Hid _:=hI;have b5:=hI hs;have e7:=hs.2.2.1;clear b6 hC hI hs;obtain⟨b0,e6,e0,l⟩:=HC i hi;simp only[Option.some.injEq,Addr.mk.injEq,and_true] at e0;obtain⟨rfl,rfl⟩:=e0;obtain⟨A,D,g,a0,b9⟩:=HI i hi;obtain⟨b,hb⟩:∃ b,b=x.bk i:=⟨_,rfl⟩;rw[← hb] at g a0 b9;have s:=hI hb;have d0:=hI a0;have b4:Hid (ql.Short b 1048576):=by rw[hb];exact b5.2.2.2 i hi
 have a:bb<w.heap.size:=Ja w _ (l 0 (by decide))
 have g0:w.cell? (bb,bo+i*13)=some (int i64 b.name):=by have:=l 0 (by decide);rw[g] at this;exact this
 have g1:w.cell? (bb,bo+i*13+1)=some (int i64 b.who):=by have:=l 1 (by decide);rw[g] at this;exact this
 have g2:w.cell? (bb,bo+i*13+2)=some (.string b.own):=by have:=l 2 (by decide);rw[g] at this;exact this
 have g3:w.cell? (bb,bo+i*13+3)=some (A,b.lgn,D):=by have:=l 3 (by decide);rw[g] at this;exact this
 have g4:w.cell? (bb,bo+i*13+4)=some (int i64 b.pe):=by have:=l 4 (by decide);rw[g] at this;exact this
 have g5:w.cell? (bb,bo+i*13+5)=some (int i64 b.len):=by have:=l 5 (by decide);rw[g] at this;exact this
 have g6:w.cell? (bb,bo+i*13+6)=some (int i64 b.hei):=by have:=l 6 (by decide);rw[g] at this;exact this
 have g7:w.cell? (bb,bo+i*13+7)=some (int i64 b.cl):=by have:=l 7 (by decide);rw[g] at this;exact this
 have g8:w.cell? (bb,bo+i*13+8)=some (.bool b.all):=by have:=l 8 (by decide);rw[g] at this;exact this
 have g9:w.cell? (bb,bo+i*13+9)=some (int i64 b.be):=by have:=l 9 (by decide);rw[g] at this;exact this
 have V:w.cell? (bb,bo+i*13+10)=some (int i64 b.state):=by have:=l 10 (by decide);rw[g] at this;exact this
 have X:w.cell? (bb,bo+i*13+11)=some (int i64 b.unt):=by have:=l 11 (by decide);rw[g] at this;exact this
 have Y:w.cell? (bb,bo+i*13+12)=some (int i64 b.price):=by have:=l 12 (by decide);rw[g] at this;exact this
 have Z:Below _ w (w.alloc (.cells #[(G,x.san,L),(T,x.ldn,U),(some (bb,bo),x.bkn,B)] 38)):=zk bZ _;have bO:=zoP Z;have c0:=λo=>((zk (Ji _ w) o).cell a).trans g0
 have c1:=λo=>((zk (Ji _ w) o).cell a).trans g1
 have c2:=λo=>((zk (Ji _ w) o).cell a).trans g2
 have c3:=λo=>((zk (Ji _ w) o).cell a).trans g3
 have c4:=λo=>((zk (Ji _ w) o).cell a).trans g4
 have c5:=λo=>((zk (Ji _ w) o).cell a).trans g5
 have c6:=λo=>((zk (Ji _ w) o).cell a).trans g6
 have c7:=λo=>((zk (Ji _ w) o).cell a).trans g7
 have c8:=λo=>((zk (Ji _ w) o).cell a).trans g8
 have c9:=λo=>((zk (Ji _ w) o).cell a).trans g9
 have d3:=λo=>((zk (Ji _ w) o).cell a).trans V
 have d4:=λo=>((zk (Ji _ w) o).cell a).trans X
 have d5:=λo=>((zk (Ji _ w) o).cell a).trans Y
 clear l g a0 b9 hb g0 g1 g2 g3 g4 g5 g6 g7 g8 g9 V X Y;have d8:IntKind.i64.wrap ((i:Int)+1)=(i:Int)+1:=by rw[Jk];omega
 have e9:(0:Int)<=(i:Int):=by omega
 have f0:(i:Int)<(x.bkn:Int):=by omega
 have c:Below _ w ((w.alloc _).alloc (.cells (b,A,D) 150)):=zk Z _;have n:((w.alloc _).alloc (.cells (b,A,D) 150)).heap[w.heap.size]?=_:=zd bO _;have m:((w.alloc (.cells #[(G,x.san,L),(T,x.ldn,U),(some (bb,bo),x.bkn,B)] 38)).alloc (.cells (b,A,D) 150)).heap[w.heap.size+1]?=some (.cells (b,A,D) 150 (0,0)):=by simpa using Jb (w.alloc _) _
 clear Z bO
 by_cases n1:b.name=(i:Int)+1
 case neg =>
  have e1:(b.name != (i:Int)+1)=true:=by simpa using n1
  have y:Hid (¬ Zt x i):=λh=>n1 (by rw[s.out];exact h.1)
  clear n1;go_enter func85,ntmps85;go_wp2;go_ret;exact⟨zl y,c⟩
 have e1:(b.name != (i:Int)+1)=false:=by simpa using n1
 have a5:=hI n1;clear n1;go_enter func85,ntmps85;go_wp2_with fail;generalize (w.alloc _).alloc _=W at c n m ⊢;clear c0 c1 c2 c3 c4 c5 c6 c7 c8 c9 d3 d4 d5 e1 d8;obtain⟨y0,y1,y2,y3,y4,y5,y6,y7,y8,y9,E,F,K⟩:=zeX m;have z0:=za n 0 _ rfl;have z2:=za n 2 _ rfl;refine(Qz _ _).mono ?_;obtain⟨t0,a1⟩:∃ t,t=decide (In b.who 1 9999):=⟨_,rfl⟩;rw[← a1];have N:Hid (t0=true↔In b.who 1 9999):=by show _↔_;rw[a1,decide_eq_true_eq]
 clear a1;rintro e v ⟨rfl,z⟩;have z:=z.symm;subst z
 cases t0 with
 | false =>
  have y:Hid (¬ Zt x i):=λh=>by have h:=(show _ from h);unfold Zt at h;rw[← s.out] at h;have:=N.2 h.2.1;cases this
  go_wp2;go_ret;exact⟨zl y,c⟩
 | true =>
 have a6:=hI (N.1 rfl);clear N;go_wp2_with fail;refine(qS _ _ (by have:=b4.1;omega)).mono ?_
 obtain⟨t1,a2⟩:∃ t,t=decide (Zg b.own):=⟨_,rfl⟩;rw[← a2];have O:Hid (t1=true↔Zg b.own):=by show _↔_;rw[a2,decide_eq_true_eq]
 clear a2;rintro e v ⟨rfl,z⟩;have z:=z.symm;subst z
 cases t1 with
 | false =>
  have y:Hid (¬ Zt x i):=λh=>by have h:=(show _ from h);unfold Zt at h;rw[← s.out] at h;have:=O.2 h.2.2.1;cases this
  go_wp2;go_ret;exact⟨zl y,c⟩
 | true =>
 have a7:=hI (O.1 rfl);clear O;go_wp2_with fail;refine(zkO G A _ _ L D _ _ _ b5.1.1 b4.2 (d1.below c) (d0.below c)).mono ?_;rintro e v2 ⟨⟨t2,rfl,b7⟩,u⟩;have P:=hI b7;clear b7;have I:=zb n u;have H:=zb m u;have J:=ze c u;clear y0 y1 y2 y3 y4 y5 y6 y7 y8 y9 E F K z0 z2 c n m u;have c:=J;have n:=I;have m:=H;clear J I H;obtain⟨y0,y1,y2,y3,y4,y5,y6,y7,y8,y9,E,F,K⟩:=zeX m;have z0:=za n 0 _ rfl;have z2:=za n 2 _ rfl
 cases t2 with
 | false =>
  have y:Hid (¬ Zt x i):=λh=>by have h:=(show _ from h);unfold Zt at h;rw[← s.out] at h;have:=P.2 h.2.2.2.1;cases this
  go_wp2;go_ret;exact⟨zl y,c⟩
 | true =>
 have a8:=hI (P.1 rfl);clear P;go_wp2_with fail;refine(zaz _ _ _ _ _ _ _).mono ?_;rintro e v3 ⟨⟨t3,rfl,b8⟩,u⟩;have Q:=hI b8;clear b8;have I:=zb n u;have H:=zb m u;have J:=ze c u;clear y0 y1 y2 y3 y4 y5 y6 y7 y8 y9 E F K z0 z2 c n m u;have c:=J;have n:=I;have m:=H;clear J I H;obtain⟨y0,y1,y2,y3,y4,y5,y6,y7,y8,y9,E,F,K⟩:=zeX m;have z0:=za n 0 _ rfl;have z2:=za n 2 _ rfl
 cases t3 with
 | false =>
  have y:Hid (¬ Zt x i):=λh=>by have h:=(show _ from h);unfold Zt at h;rw[← s.out] at h;have:=Q.2 h.2.2.2.2.1;cases this
  go_wp2;go_ret;exact⟨zl y,c⟩
 | true =>
 have a9:=hI (Q.1 rfl);clear Q;go_wp2_with fail;refine(zt _ _ _ _).mono ?_;obtain⟨t4,a3⟩:∃ t,t=decide (In b.state 1 4):=⟨_,rfl⟩;rw[← a3];have R:Hid (t4=true↔In b.state 1 4):=by show _↔_;rw[a3,decide_eq_true_eq]
 clear a3;rintro e v ⟨rfl,z⟩;have z:=z.symm;subst z
 cases t4 with
 | false =>
  have y:Hid (¬ Zt x i):=λh=>by have h:=(show _ from h);unfold Zt at h;rw[← s.out] at h;have:=R.2 h.2.2.2.2.2.1;cases this
  go_wp2;go_ret;exact⟨zl y,c⟩
 | true =>
 have b1:=hI (R.1 rfl);clear R;go_wp2_with fail;refine(zt _ _ _ _).mono ?_;obtain⟨t5,a4⟩:∃ t,t=decide (In b.price 0 1000000):=⟨_,rfl⟩;rw[← a4];have S:Hid (t5=true↔In b.price 0 1000000):=by show _↔_;rw[a4,decide_eq_true_eq]
 clear a4;rintro e v ⟨rfl,z⟩;have z:=z.symm;subst z
 cases t5 with
 | false =>
  have y:Hid (¬ Zt x i):=λh=>by have h:=(show _ from h);unfold Zt at h;rw[← s.out] at h;have:=S.2 h.2.2.2.2.2.2.1;cases this
  go_wp2;go_ret;exact⟨zl y,c⟩
 | true =>
 have b3:=hI (S.1 rfl);clear S;have e5:(x.bkn:Int)<=(B:Int):=by omega
 have f1:(i:Int)<=(B:Int):=by omega
 go_wp2;clear y0 y1 y2 y3 y4 y5 y6 y7 y8 y9 E F K z0 z2;go_loopw [7,61] (λ_ q wr=>∃ k,k<=i/\q=int i64 k/\(∀ j,j<k->(x.bk j).who≠b.who)/\Below v3.heap.size v3 wr) (λ_ q _=>i - (intOf q).toNat)
 case atStart=>exact⟨0,Jq _,rfl,λj hj=>by omega,bZ⟩
 case round =>
  obtain⟨k,hk,rfl,M,r⟩:=hrel;have HA:=hI M;clear M
  by_cases hlt:k<i
  ·obtain⟨b2,o2,e2,l⟩:=HC k (by omega)
   simp only[Option.some.injEq,Addr.mk.injEq,and_true] at e2;obtain⟨rfl,rfl⟩:=e2;obtain⟨d2,d6,g,_,_⟩:=HI k (by omega)
   obtain⟨d,hd⟩:∃ d,d=x.bk k:=⟨_,rfl⟩;rw[← hd] at g;have HD:=hI hd;clear hd;have f:=ze c r;have g0:wr.cell? _=some (.int _ _):=(f.cell (p:=⟨bb,bo+_,_⟩) a).trans (by have:=l 0 (by decide);rw[g] at this;exact this)
   have g1:wr.cell? _=some (.int _ _):=(f.cell a).trans (by have:=l 1 (by decide);rw[g] at this;exact this)
   have g2:wr.cell? _=some (.string _):=(f.cell a).trans (by have:=l 2 (by decide);rw[g] at this;exact this)
   have g3:wr.cell? _=some (.slice d2 _ d6):=(f.cell a).trans (by have:=l 3 (by decide);rw[g] at this;exact this)
   have g4:wr.cell? _=some (.int _ _):=(f.cell a).trans (by have:=l 4 (by decide);rw[g] at this;exact this)
   have g5:wr.cell? _=some (.int _ _):=(f.cell a).trans (by have:=l 5 (by decide);rw[g] at this;exact this)
   have g6:wr.cell? _=some (.int _ _):=(f.cell a).trans (by have:=l 6 (by decide);rw[g] at this;exact this)
   have g7:wr.cell? _=some (.int _ _):=(f.cell a).trans (by have:=l 7 (by decide);rw[g] at this;exact this)
   have g8:wr.cell? _=some (.bool _):=(f.cell a).trans (by have:=l 8 (by decide);rw[g] at this;exact this)
   have g9:wr.cell? _=some (.int _ _):=(f.cell a).trans (by have:=l 9 (by decide);rw[g] at this;exact this)
   have V:wr.cell? _=some (.int _ _):=(f.cell a).trans (by have:=l 10 (by decide);rw[g] at this;exact this)
   have X:wr.cell? _=some (.int _ _):=(f.cell a).trans (by have:=l 11 (by decide);rw[g] at this;exact this)
   have Y:wr.cell? _=some (.int _ _):=(f.cell a).trans (by have:=l 12 (by decide);rw[g] at this;exact this)
   have y1:∀ o,(wr.alloc o).cell? _=some (.int _ _):=λo=>za (zd (zb m r) o) 1 _ rfl
   clear l g f
   by_cases e3:d.who=b.who
   ·have d7:(d.who == b.who)=true:=by simpa using e3
    have y:Hid (¬ Zt x i):=λh=>h.2.2.2.2.2.2.2.1 k hlt (by rw[← HD.out,← s.out];exact e3)
    clear e3;go_wp2;go_ret;exact⟨zl y,zk (ze c r) _⟩
   ·have d7:(d.who == b.who)=false:=by simpa using e3
    have y:Hid ((x.bk k).who≠b.who):=by rw[← HD.out];exact e3
    clear e3;go_wp2;go_roundw
    case rel=>exact⟨k+1,by omega,by go_num,λj hj=>by
     by_cases e:j=k
     ·subst e;exact y
     ·exact HA j (by omega),zk r _⟩
    case measure=>simp[intOf];omega
  ·obtain rfl:k=i:=by omega
   have f:=ze c r;have E:=za (zb m r) 10 _ rfl;have F:=za (zb m r) 11 _ rfl;have HF:Hid (Zt x k↔zaA b):=by
    show _↔_
    unfold Zt;rw[← s.out];exact⟨λh=>h.2.2.2.2.2.2.2.2,λh=>⟨a5,a6,a7,a8,a9,b1,b3,HA,h⟩⟩
   clear a5 a6 a7 a8 a9 b1 b3 HA r
   by_cases s1:b.state=1
   ·have d9:(b.state == 1)=true:=by simpa using s1
    have HU:Hid (zaA b↔In b.unt 0 10000):=by show _↔_;unfold zaA;rw[Jf (.inl s1)]
    clear s1;go_wp2_with (first|(go_at_call 148;refine sC (zt _ _ _ _) ?_))
    go_ret;exact⟨⟨_,rfl,by rw[decide_eq_true_eq,HF.out,HU.out]⟩,f⟩
   ·have d9:(b.state == 1)=false:=by simpa using s1
    by_cases s4:b.state=4
    ·have e4:(b.state == 4)=true:=by simpa using s4
     have HU:Hid (zaA b↔In b.unt 0 10000):=by show _↔_;unfold zaA;rw[Jf (.inr s4)]
     clear s1 s4;go_wp2_with (first|(go_at_call 148;refine sC (zt _ _ _ _) ?_))
     go_ret;exact⟨⟨_,rfl,by rw[decide_eq_true_eq,HF.out,HU.out]⟩,f⟩
    ·have e4:(b.state == 4)=false:=by simpa using s4
     have HU:Hid (zaA b↔b.unt=0):=by show _↔_;unfold zaA;rw[Je (λh=>by rcases h with h|h;exact s1 h;exact s4 h)]
     clear s1 s4;go_wp2;go_ret;exact⟨⟨_,rfl,by rw[beq_iff_eq,HF.out,HU.out]⟩,f⟩
section
open Go.RowKit
theorem zmo (x:Off)(d7 g0 f9:Option Addr)(g2 d9 d8:Nat)(w:World)(hs:Off.Short x 1048576)(j2:qB w d7 x.san x.sa)(G:ZG w g0 x.ldn x.ld)(j1:qO w f9 x.bkn x.bk)(k9:x.bkn<=d8) :
  Calls prog 42 #[.agg #[(d7,x.san,g2),(g0,x.ldn,d9),(f9,x.bkn,d8)]] w λe w'=>qX (Zk x) e/\Below w.heap.size w w':=by
 have f8:=hI j2;have i7:=hI G;have i4:=hI j1;have a1:=hI hs;have n1:=hs.1.1;have n2:=hs.2.1.1;have n3:=hs.2.2.1;clear j2 G j1 hs;have e0:Below _ w (w.alloc (.cells #[(d7,x.san,g2),(g0,x.ldn,d9),(f9,x.bkn,d8)] 38)):=zk bZ _;have bO:=zoP e0;go_enter func42,ntmps42;go_wp2_with fail;generalize w.alloc _=V0 at e0 bO ⊢;refine(zma d7 _ g2 _ _ n1 a1.1.2 (f8.below e0)).mono ?_;rintro e V ⟨⟨t0,rfl,j3⟩,h5⟩;have h4:=hI j3;have a6:=zb bO h5;have r:=ze e0 h5;clear j3 e0 bO h5 V0;obtain⟨z0,z1,z2⟩:=ce3 a6
 cases t0 with
 | false =>
  have v:Hid (¬ Zk x):=λh=>by have:=h4.2 h.1;cases this
  go_wp2;go_ret;exact⟨zl v,r⟩
 | true =>
 have i9:=hI (h4.1 rfl);clear h4
 by_cases m1:x.ldn=x.san
 case neg =>
  have e1:((x.ldn:Int) != (x.san:Int))=true:=by simp;omega
  have v:Hid (¬ Zk x):=λh=>m1 h.2.1
  clear m1;go_wp2;go_ret;exact⟨zl v,r⟩
 have e1:((x.ldn:Int) != (x.san:Int))=false:=by simp;omega
 by_cases m2:x.bkn<=30
 case neg =>
  have e2:decide ((30:Int)<(x.bkn:Int))=true:=by simp;omega
  have v:Hid (¬ Zk x):=λh=>m2 h.2.2.1
  clear m1 m2;go_wp2;go_ret;exact⟨zl v,r⟩
 have e2:decide ((30:Int)<(x.bkn:Int))=false:=by simp;omega
 have f:=hI m1;have J:=hI m2;clear m1;go_wp2;clear e1 e2 z0 z1 z2;go_loopw [3,4,5,37] (λ_ _ _ q wr=>∃ k,k<=x.san/\q=int i64 k/\(∀ j,j<k->qm (x.sa j) (x.ld j))/\Below V.heap.size V wr) (λ_ _ _ q _=>x.san - (intOf q).toNat)
 case atStart=>exact⟨0,Jq _,rfl,λj hj=>by omega,bZ⟩
 case round =>
  obtain⟨k,hk,rfl,n,c⟩:=hrel;have HA:=hI n;clear n;have a:=ze r c
  by_cases hlt:k<x.san
  ·obtain⟨sb,so,la,lc,ca,cc,rfl,f0,f1,f2,f3,f4,f5,f6,f7,a9,a8,e8,e7⟩:=f8 k hlt
   obtain⟨s,R⟩:∃ s,s=x.sa k:=⟨_,rfl⟩;rw[← R] at f0 f1 f2 f3 f4 f5 f6 f7 a9 a8 e8 e7;have H:=hI R;have g9:Hid (zoy s 1048576):=by rw[R];exact a1.1.2 k hlt
   have u:=Ja w _ f0;have c0:=(a.cell u).trans f0;have c1:=(a.cell (p:=⟨sb,_+1,_⟩) u).trans f1;have c2:=(a.cell (p:=⟨sb,_+2,_⟩) u).trans f2;have c3:=(a.cell (p:=⟨sb,_+3,_⟩) u).trans f3;have c4:=(a.cell (p:=⟨sb,_+4,_⟩) u).trans f4;have c5:=(a.cell (p:=⟨sb,_+5,_⟩) u).trans f5;have c6:=(a.cell (p:=⟨sb,_+6,_⟩) u).trans f6;have c7:=(a.cell (p:=⟨sb,_+7,_⟩) u).trans f7;obtain⟨C,hC,hI⟩:=i7;obtain⟨lb,lo,rfl,B⟩:=hC k (by have:=f.out;omega)
   obtain⟨l,G⟩:∃ l,l=x.ld k:=⟨_,rfl⟩;obtain⟨N,Q,L,O,M,P,A,b2,b6,b0,b4,b1,b5⟩:=hI k (by have:=f.out;omega)
   rw[← G] at A b2 b6 b0 b4 b1 b5;have S:Hid _:=G;have a0:Hid (zY.Short l 1048576):=by rw[G];exact a1.out.2.1.2 k (by have:=f.out;omega)
   have b3:lb<w.heap.size:=Ja w _ (B 0 (by decide))
   have d0:∀ o,(wr.alloc o).cell? _=some (.slice N _ Q):=λo=>((a.alloc a.size o).cell (p:=⟨lb,lo+_,_⟩) b3).trans (by have:=B 0 (by decide);rw[A] at this;exact this)
   have d1:∀ o,(wr.alloc o).cell? _=some (.slice L _ O):=λo=>((a.alloc a.size o).cell b3).trans (by have:=B 1 (by decide);rw[A] at this;exact this)
   have d2:∀ o,(wr.alloc o).cell? _=some (.slice M _ P):=λo=>((a.alloc a.size o).cell b3).trans (by have:=B 2 (by decide);rw[A] at this;exact this)
   have i6:=hI a9;have g6:=hI a8;have h0:=hI b2;have g7:=hI b0;have g8:=hI b1;have q1:=b6.1;have q2:=b4.1;have q3:=b5.1;clear hC hI B A R G f0 f1 f2 f3 f4 f5 f6 f7 a9 a8 e8 e7 b2 b6 b0 b4 b1 b5;have l3:(0:Int)<=(k:Int):=by omega
   have l4:(k:Int)<(x.ldn:Int):=by have:=f.out;omega
   have z1:∀ o,(wr.alloc o).cell? _=some (.slice _ _ d9):=λo=>za (zd (zb a6 c) o) 1 _ rfl
   go_wp2_with fail;have d:Below _ V ((wr.alloc (.cells (s,la,lc,ca,cc) 140)).alloc (.cells #[(N,l.stn,Q),(L,l.ron,O),(M,l.sen,P)] 145)):=(c.alloc c.size _).alloc (by have:=c.size;simp;omega) _
   have F:((wr.alloc _).alloc (.cells #[(N,l.stn,Q),(L,l.ron,O),(M,l.sen,P)] 145)).heap[wr.heap.size]?=some (.cells (s,la,lc,ca,cc) 140 (0,0)):=zd (Jb wr _) _;have I:=zoT F;generalize ((wr.alloc _).alloc _)=X at d F I ⊢;clear c0 c1 c2 c3 c4 c5 c6 c7 d0 d1 d2 z1 a;have a:=ze r d;have s6:=za F 6 _ rfl;have s7:=za F 7 _ rfl;have l1:=za I 1 _ rfl;have l2:=za I 2 _ rfl;refine(zkv la N _ lc _ Q _ _ _ rfl g9.2.2.1 a0.1 q1 (i6.below a) (h0.below a)).mono ?_;rintro e X1 ⟨⟨t1,rfl,d3⟩,g⟩;have a2:=hI d3;clear d3;have W:=zb F g;have U:=zb I g;have E:=ze d g;clear s6 s7 l1 l2 F I d a g;have F:=W;have I:=U;have d:=E;clear W U E;have a:=ze r d;have s6:=za F 6 _ rfl;have s7:=za F 7 _ rfl;have l1:=za I 1 _ rfl;have l2:=za I 2 _ rfl
   cases t1 with
   | false =>
    have v:Hid (¬ Zk x):=λh=>by have h:=h.2.2.2.1 k hlt;rw[← H.out,← S.out] at h;have:=a2.2 h.1;cases this
    go_wp2;go_ret;exact⟨zl v,a⟩
   | true =>
   have k2:=hI (a2.1 rfl);clear a2;go_wp2_with fail;refine(ziL ca L _ cc _ O _ _ _ rfl g9.2.2.2 a0.2.1 q2 (g6.below a) (g7.below a)).mono ?_;rintro e X2 ⟨⟨t2,rfl,e5⟩,g⟩;have a3:=hI e5;clear e5;have W:=zb F g;have U:=zb I g;have E:=ze d g;clear s6 s7 l1 l2 F I d a g;have F:=W;have I:=U;have d:=E;clear W U E;have a:=ze r d;have s6:=za F 6 _ rfl;have s7:=za F 7 _ rfl;have l1:=za I 1 _ rfl;have l2:=za I 2 _ rfl
   cases t2 with
   | false =>
    have v:Hid (¬ Zk x):=λh=>by have h:=h.2.2.2.1 k hlt;rw[← H.out,← S.out] at h;have:=a3.2 h.2.1;cases this
    go_wp2;go_ret;exact⟨zl v,a⟩
   | true =>
   have k3:=hI (a3.1 rfl);clear a3;go_wp2_with fail;refine(zji _ M _ P _ _ (by have:=a0.2.2;omega) q3 (g8.below a)).mono ?_
   rintro e X3 ⟨⟨t3,rfl,e6⟩,g⟩;have a4:=hI e6;clear e6;have W:=zb F g;have U:=zb I g;have E:=ze d g;clear s6 s7 l1 l2 F I d a g;have F:=W;have I:=U;have d:=E;clear W U E;have a:=ze r d;have s6:=za F 6 _ rfl;have s7:=za F 7 _ rfl;have l1:=za I 1 _ rfl;have l2:=za I 2 _ rfl
   cases t3 with
   | false =>
    have v:Hid (¬ Zk x):=λh=>by have h:=h.2.2.2.1 k hlt;rw[← H.out,← S.out] at h;have:=a4.2 h.2.2;cases this
    go_wp2;go_ret;exact⟨zl v,a⟩
   | true =>
   have k4:=hI (a4.1 rfl);clear a4;have d4:Hid (qm (x.sa k) (x.ld k)):=by show qm _ _;rw[← H.out,← S.out];exact⟨k2,k3,k4⟩
   clear s6 s7 l1 l2;go_wp2;go_roundw
   case rel=>exact⟨k+1,by omega,by go_num,λj hj=>by
    by_cases e:j=k
    ·subst e;exact d4
    ·exact HA j (by omega),d⟩
   case measure=>simp[intOf];omega
  ·obtain rfl:k=x.san:=by omega
   have i5:=hI HA;have i3:=hI c;have z2:=za (zb a6 c) 2 _ rfl;clear HA c a hk hlt;go_wp2;clear z2;go_loopw [6,73] (λ_ q wr=>∃ k,k<=x.bkn/\q=int i64 k/\(∀ j,j<k->Zt x j)/\Below V.heap.size V wr) (λ_ q _=>x.bkn - (intOf q).toNat)
   case atStart=>exact⟨0,Jq _,rfl,λj hj=>by omega,i3⟩
   case round =>
    obtain⟨k,hk,rfl,n,c⟩:=hrel;have HA:=hI n;clear n;have a:=ze r c
    by_cases hlt:k<x.bkn
    ·obtain⟨C,hC,hI⟩:=i4
     obtain⟨bb,bo,rfl,_⟩:=hC k hlt;have j8:=hI (hC.below a);have j9:Hid _:=λk hk=>(hI k hk).below a
     obtain⟨z0,z1,z2⟩:=ce3 (zb a6 c);clear hC hI;go_wp2_with fail;refine(zjo x d7 g0 bb bo g2 d9 d8 k C _ hlt a1 (f8.below a) j8 j9 k9).mono ?_;rintro e X ⟨⟨t,rfl,ht⟩,d⟩;have HT:=hI ht;clear ht z0 z1 z2
     cases t with
     | false =>
      have v:Hid (¬ Zk x):=λh=>by have:=HT.2 (h.2.2.2.2.1 k hlt);cases this
      go_wp2;go_ret;exact⟨zl v,ze a d⟩
     | true =>
      have HP:=hI (HT.1 rfl);clear HT;go_wp2;go_roundw
      case rel=>exact⟨k+1,by omega,by go_num,λj hj=>by
       by_cases e:j=k
       ·subst e;exact HP
       ·exact HA j (by omega),ze c d⟩
      case measure=>simp[intOf];omega
    ·obtain rfl:k=x.bkn:=by omega
     have k0:=hI HA;have j5:=hI c;have z0:=za (zb a6 c) 0 _ rfl;clear HA c a hk hlt i3;go_wp2;clear z0;go_loopw [7,8,9,10,11,12,14,84,95,96,97] (λ_ _ _ _ _ _ _ q _ _ _ wr=>∃ k,k<=x.san/\q=int i64 k/\(∀ j,j<k->zaQ x j)/\Below V.heap.size V wr) (λ_ _ _ _ _ _ _ q _ _ _ _=>x.san - (intOf q).toNat)
     case atStart=>exact⟨0,Jq _,rfl,λj hj=>by omega,j5⟩
     case round =>
      obtain⟨k,hk,rfl,n,c⟩:=hrel;have HA:=hI n;clear n;have a:=ze r c
      by_cases hlt:k<x.san
      ·obtain⟨sb,so,la,lc,ca,cc,rfl,f0,f1,f2,f3,f4,f5,f6,f7,a9,a8,e8,e7⟩:=f8 k hlt
       obtain⟨s,R⟩:∃ s,s=x.sa k:=⟨_,rfl⟩;rw[← R] at f0 f1 f2 f3 f4 f5 f6 f7 a9 a8 e8 e7;have H:=hI R;have g9:Hid (zoy s 1048576):=by rw[R];exact a1.1.2 k hlt
       have u:=Ja w _ f0;have c0:=(a.cell u).trans f0;have c1:=(a.cell (p:=⟨sb,_+1,_⟩) u).trans f1;have c2:=(a.cell (p:=⟨sb,_+2,_⟩) u).trans f2;have c3:=(a.cell (p:=⟨sb,_+3,_⟩) u).trans f3;have c4:=(a.cell (p:=⟨sb,_+4,_⟩) u).trans f4;have c5:=(a.cell (p:=⟨sb,_+5,_⟩) u).trans f5;have c6:=(a.cell (p:=⟨sb,_+6,_⟩) u).trans f6;have c7:=(a.cell (p:=⟨sb,_+7,_⟩) u).trans f7;obtain⟨C,hC,hI⟩:=i7;obtain⟨lb,lo,rfl,B⟩:=hC k (by have:=f.out;omega)
       obtain⟨l,G⟩:∃ l,l=x.ld k:=⟨_,rfl⟩;obtain⟨N,Q,L,O,M,P,A,b2,b6,b0,b4,b1,b5⟩:=hI k (by have:=f.out;omega)
       rw[← G] at A b2 b6 b0 b4 b1 b5;have S:Hid _:=G;have a0:Hid (zY.Short l 1048576):=by rw[G];exact a1.out.2.1.2 k (by have:=f.out;omega)
       have b3:lb<w.heap.size:=Ja w _ (B 0 (by decide))
       have d0:∀ o,(wr.alloc o).cell? _=some (.slice N _ Q):=λo=>((a.alloc a.size o).cell (p:=⟨lb,lo+_,_⟩) b3).trans (by have:=B 0 (by decide);rw[A] at this;exact this)
       have d1:∀ o,(wr.alloc o).cell? _=some (.slice L _ O):=λo=>((a.alloc a.size o).cell b3).trans (by have:=B 1 (by decide);rw[A] at this;exact this)
       have d2:∀ o,(wr.alloc o).cell? _=some (.slice M _ P):=λo=>((a.alloc a.size o).cell b3).trans (by have:=B 2 (by decide);rw[A] at this;exact this)
       have i6:=hI a9;have g6:=hI a8;have h0:=hI b2;have g7:=hI b0;have g8:=hI b1;have q1:=b6.1;have q2:=b4.1;have q3:=b5.1;clear hC hI B A R G f0 f1 f2 f3 f4 f5 f6 f7 a9 a8 e8 e7 b2 b6 b0 b4 b1 b5;have d4:=i5 k hlt;rw[← H.out,← S.out] at d4;have j7:=hI (λj hj=>zki d4.2.1 j hj)
       clear d4;have l3:(0:Int)<=(k:Int):=by omega
       have l4:(k:Int)<(x.ldn:Int):=by have:=f.out;omega
       have z1:∀ o,(wr.alloc o).cell? _=some (.slice _ _ d9):=λo=>za (zd (zb a6 c) o) 1 _ rfl
       have z2:∀ o p,((wr.alloc o).alloc p).cell? _=some (.slice f9 _ d8):=λo p=>za (zd (zd (zb a6 c) o) p) 2 _ rfl
       go_wp2;have d:Below _ V ((wr.alloc (.cells (s,la,lc,ca,cc) 140)).alloc (.cells #[(N,l.stn,Q),(L,l.ron,O),(M,l.sen,P)] 145)):=(c.alloc c.size _).alloc (by have:=c.size;simp;omega) _
       have F:((wr.alloc _).alloc (.cells #[(N,l.stn,Q),(L,l.ron,O),(M,l.sen,P)] 145)).heap[wr.heap.size]?=some (.cells (s,la,lc,ca,cc) 140 (0,0)):=zd (Jb wr _) _;have I:=zoT F;generalize ((wr.alloc _).alloc _)=X at d F I ⊢;generalize wr.heap.size=n5 at F I ⊢;clear c0 c1 c2 c3 c4 c5 c6 c7 d0 d1 d2 z1 z2 a c;go_loopw [10,11,12,14,97] (λl6 l7 l8 _ q wq=>∃ (i:Nat),i<=x.bkn/\q=int i64 i/\l6=int i64 (cnt (λi=>On x k i/\0<(x.bk i).len) i:Nat)/\l7=int i64 (cnt (λi=>On x k i/\0<(x.bk i).cl) i:Nat)/\l8=int i64 (cnt (On x k) i:Nat)/\(∀ j,j<i->On x k j->zbX s l (x.bk j))/\Below X.heap.size X wq) (λ_ _ _ _ q _=>x.bkn - (intOf q).toNat)
       case atStart=>exact⟨0,Jq _,rfl,rfl,rfl,rfl,λj hj=>by omega,bZ⟩
       case round =>
        obtain⟨i,hi,rfl,rfl,rfl,rfl,n,c⟩:=hrel;have HW:=hI n;clear n;have a:=ze (ze r d) c;obtain⟨m0,g3⟩:∃ m,m=cnt (λi=>On x k i/\0<(x.bk i).len) i:=⟨_,rfl⟩
        have m5:m0<=i:=by rw[g3];exact zhT _ _
        have T:=hI g3;rw[← g3];clear g3;obtain⟨m1,g4⟩:∃ m,m=cnt (λi=>On x k i/\0<(x.bk i).cl) i:=⟨_,rfl⟩
        have m6:m1<=i:=by rw[g4];exact zhT _ _
        have f:=hI g4;rw[← g4];clear g4;obtain⟨m2,g5⟩:∃ m,m=cnt (On x k) i:=⟨_,rfl⟩;have m7:m2<=i:=by rw[g5];exact zhT _ _
        have J:=hI g5;rw[← g5];clear g5
        by_cases hlt2:i<x.bkn
        ·obtain⟨C,hC,hI⟩:=i4
         obtain⟨bb,bo,rfl,B⟩:=hC i hlt2;obtain⟨b8,b9,A,h6,j4⟩:=hI i hlt2;obtain⟨b,hb⟩:∃ b,b=x.bk i:=⟨_,rfl⟩;rw[← hb] at A h6 j4;have z:Hid _:=hb;have k1:=hI h6;have j6:Hid (ql.Short b 1048576):=by rw[hb];exact a1.2.2.2 i hlt2
         have D:bb<w.heap.size:=Ja w _ (B 0 (by decide))
         have c0:wr.cell? _=some (.int _ _):=(a.cell (p:=⟨bb,bo+_,_⟩) D).trans (by have:=B 0 (by decide);rw[A] at this;exact this)
         have c1:wr.cell? _=some (.int _ _):=(a.cell D).trans (by have:=B 1 (by decide);rw[A] at this;exact this)
         have c2:wr.cell? _=some (.string _):=(a.cell D).trans (by have:=B 2 (by decide);rw[A] at this;exact this)
         have c3:wr.cell? _=some (.slice b8 _ b9):=(a.cell D).trans (by have:=B 3 (by decide);rw[A] at this;exact this)
         have c4:wr.cell? _=some (.int _ _):=(a.cell D).trans (by have:=B 4 (by decide);rw[A] at this;exact this)
         have c5:wr.cell? _=some (.int _ _):=(a.cell D).trans (by have:=B 5 (by decide);rw[A] at this;exact this)
         have c6:wr.cell? _=some (.int _ _):=(a.cell D).trans (by have:=B 6 (by decide);rw[A] at this;exact this)
         have c7:wr.cell? _=some (.int _ _):=(a.cell D).trans (by have:=B 7 (by decide);rw[A] at this;exact this)
         have c8:wr.cell? _=some (.bool _):=(a.cell D).trans (by have:=B 8 (by decide);rw[A] at this;exact this)
         have c9:wr.cell? _=some (.int _ _):=(a.cell D).trans (by have:=B 9 (by decide);rw[A] at this;exact this)
         have k6:wr.cell? _=some (.int _ _):=(a.cell D).trans (by have:=B 10 (by decide);rw[A] at this;exact this)
         have k7:wr.cell? _=some (.int _ _):=(a.cell D).trans (by have:=B 11 (by decide);rw[A] at this;exact this)
         have k8:wr.cell? _=some (.int _ _):=(a.cell D).trans (by have:=B 12 (by decide);rw[A] at this;exact this)
         clear hC hI B A hb h6 j4;go_wp2_with fail;have bB:=Jb wr (.cells (b,b8,b9) 150);have g:Below _ X (wr.alloc (.cells (b,b8,b9) 150)):=zk c _;generalize wr.alloc _=Y at bB g ⊢;generalize wr.heap.size=n4 at bB ⊢;clear c0 c1 c2 c3 c4 c5 c6 c7 c8 c9 k6 k7 k8 c a;refine(zft b b8 b9 _).mono ?_;rintro e Y1 ⟨rfl,a7⟩;have g1:=zb bB a7;have y:=ze g a7;clear bB g a7;obtain⟨t1,d3⟩:∃ t,t=decide (zez b):=⟨_,rfl⟩;rw[← d3];have a2:Hid (t1=true↔zez b):=by show _↔_;rw[d3,decide_eq_true_eq]
         clear d3
         cases t1 with
         | false =>
          have v:Hid (¬ On x k i):=λh=>by unfold On at h;rw[← z.out,← H.out] at h;have:=a2.2 h.1;cases this
          go_wp2;go_roundw
          case rel=>exact⟨i+1,by omega,by go_num,by rw[zae (λh=>v.out h.1),← T.out],by rw[zae (λh=>v.out h.1),← f.out],by rw[zae v.out,← J.out],λj hj ho=>by
           by_cases e:j=i
           ·subst e;exact absurd ho v
           ·exact HW j (by omega) ho,y⟩
          case measure=>simp[intOf];omega
         | true =>
          have i8:=hI (a2.1 rfl);clear a2;have y3:=za g1 3 _ rfl;have s0:=za (zb F y) 0 _ rfl;go_wp2_with fail;refine(zkV b8 _ b9 _ _ _ j6.2 (k1.below (ze (ze r d) y))).mono ?_;rintro e Y2 ⟨⟨t2,rfl,e5⟩,h7⟩;have h7:=h7.symm;subst h7;have a3:=hI e5;clear e5 y3 s0
          cases t2 with
          | false =>
           have v:Hid (¬ On x k i):=λh=>by unfold On at h;rw[← z.out,← H.out] at h;have:=a3.2 h.2;cases this
           go_wp2;go_roundw
           case rel=>exact⟨i+1,by omega,by go_num,by rw[zae (λh=>v.out h.1),← T.out],by rw[zae (λh=>v.out h.1),← f.out],by rw[zae v.out,← J.out],λj hj ho=>by
            by_cases e:j=i
            ·subst e;exact absurd ho v
            ·exact HW j (by omega) ho,y⟩
           case measure=>simp[intOf];omega
          | true =>
           have K:Hid (On x k i):=by show On x k i;unfold On;rw[← z.out,← H.out];exact⟨i8,a3.1 rfl⟩
           clear a3 i8;obtain⟨y0,y1,y2,y3,y4,y5,y6,y7,y8,y9,l9,m3,m4⟩:=zeX g1;obtain⟨s0,s1,s2,s3,s4,s5,s6,s7⟩:=ce8 (zb F y);obtain⟨l0,l1,l2⟩:=ce3 (zb I y);have e4:=ze (ze r d) y;go_wp2_with fail;refine(zkM s la ca lc cc l N L M Q O P b b8 b9 _ a0.1 a0.2.1 a0.2.2 (g6.below e4) (h0.below e4) (g7.below e4) (g8.below e4) j7).mono ?_;rintro e Y3 ⟨⟨t3,rfl,e6⟩,a7⟩;have a4:=hI e6;have j0:=zb g1 a7;have Z:=ze y a7;clear e6 y0 y1 y2 y3 y4 y5 y6 y7 y8 y9 l9 m3 m4 s0 s1 s2 s3 s4 s5 s6 s7 l0 l1 l2 g1 y a7 e4
           cases t3 with
           | false =>
            have v:Hid (¬ Zk x):=λh=>by have h:=(h.2.2.2.2.2 k hlt).1 i hlt2 K;rw[← z.out,← H.out,← S.out] at h;have:=a4.2 h;cases this
            go_wp2;go_ret;exact⟨zl v,ze (ze r d) Z⟩
           | true =>
            have b7:Hid (zbX s l (x.bk i)):=by show zbX s l _;rw[← z.out];exact a4.1 rfl
            clear a4;have y5:=za j0 5 _ rfl;have y7:=za j0 7 _ rfl;have m8:IntKind.i64.wrap ((m0:Int)+1)=(m0:Int)+1:=by rw[Jk];omega
            have m9:IntKind.i64.wrap ((m1:Int)+1)=(m1:Int)+1:=by rw[Jk];omega
            have n0:IntKind.i64.wrap ((m2:Int)+1)=(m2:Int)+1:=by rw[Jk];omega
            by_cases u1:0<b.len
            ·have l5:=Jd u1
             have d6:=hI u1;clear u1
             by_cases u2:0<b.cl
             ·have i0:=Jd u2
              have a5:=hI u2;clear u2;go_wp2;go_roundw
              case rel=>exact⟨i+1,by omega,by go_num,by rw[Qy ⟨K.out,by rw[← z.out];exact d6.out⟩,← T.out];simp,by rw[Qy ⟨K.out,by rw[← z.out];exact a5.out⟩,← f.out];simp,by rw[Qy K.out,← J.out];simp,λj hj ho=>by
               by_cases e:j=i
               ·subst e;exact b7
               ·exact HW j (by omega) ho,Z⟩
              case measure=>simp[intOf];omega
             ·have i0:=Jc u2
              have a5:=hI u2;clear u2;go_wp2;go_roundw
              case rel=>exact⟨i+1,by omega,by go_num,by rw[Qy ⟨K.out,by rw[← z.out];exact d6.out⟩,← T.out];simp,by rw[zae (λh=>by have h1:=h.2;rw[← z.out] at h1;have h2:=a5.out;omega),← f.out],by rw[Qy K.out,← J.out];simp,λj hj ho=>by
               by_cases e:j=i
               ·subst e;exact b7
               ·exact HW j (by omega) ho,Z⟩
              case measure=>simp[intOf];omega
            ·have l5:=Jc u1
             have d6:=hI u1;clear u1
             by_cases u2:0<b.cl
             ·have i0:=Jd u2
              have a5:=hI u2;clear u2;go_wp2;go_roundw
              case rel=>exact⟨i+1,by omega,by go_num,by rw[zae (λh=>by have h1:=h.2;rw[← z.out] at h1;have h2:=d6.out;omega),← T.out],by rw[Qy ⟨K.out,by rw[← z.out];exact a5.out⟩,← f.out];simp,by rw[Qy K.out,← J.out];simp,λj hj ho=>by
               by_cases e:j=i
               ·subst e;exact b7
               ·exact HW j (by omega) ho,Z⟩
              case measure=>simp[intOf];omega
             ·have i0:=Jc u2
              have a5:=hI u2;clear u2;go_wp2;go_roundw
              case rel=>exact⟨i+1,by omega,by go_num,by rw[zae (λh=>by have h1:=h.2;rw[← z.out] at h1;have h2:=d6.out;omega),← T.out],by rw[zae (λh=>by have h1:=h.2;rw[← z.out] at h1;have h2:=a5.out;omega),← f.out],by rw[Qy K.out,← J.out];simp,λj hj ho=>by
               by_cases e:j=i
               ·subst e;exact b7
               ·exact HW j (by omega) ho,Z⟩
              case measure=>simp[intOf];omega
        ·obtain rfl:i=x.bkn:=by omega
         obtain⟨l0,l1,l2⟩:=ce3 (zb I c);have d5:Hid (zaQ x k↔l.stn=m0/\l.ron=m1/\l.sen=m2):=by
          show _↔_
          unfold zaQ;rw[← H.out,← S.out,T.out,f.out,J.out];exact⟨λh=>h.2,λh=>⟨HW,h⟩⟩
         have e9:=hI (ze d c);clear c T f J HW
         by_cases v1:l.stn=m0
         case neg =>
          have e1:((l.stn:Int) != (m0:Int))=true:=by simp;omega
          have v:Hid (¬ Zk x):=λh=>v1 (d5.1 (h.2.2.2.2.2 k hlt)).1
          clear v1;go_wp2;go_ret;exact⟨zl v,ze r e9⟩
         have e1:((l.stn:Int) != (m0:Int))=false:=by simp;omega
         by_cases v2:l.ron=m1
         case neg =>
          have e2:((l.ron:Int) != (m1:Int))=true:=by simp;omega
          have v:Hid (¬ Zk x):=λh=>v2 (d5.1 (h.2.2.2.2.2 k hlt)).2.1
          clear v1 v2;go_wp2;go_ret;exact⟨zl v,ze r e9⟩
         have e2:((l.ron:Int) != (m1:Int))=false:=by simp;omega
         by_cases v3:l.sen=m2
         case neg =>
          have e3:((l.sen:Int) != (m2:Int))=true:=by simp;omega
          have v:Hid (¬ Zk x):=λh=>v3 (d5.1 (h.2.2.2.2.2 k hlt)).2.2
          clear v1 v2 v3;go_wp2;go_ret;exact⟨zl v,ze r e9⟩
         have e3:((l.sen:Int) != (m2:Int))=false:=by simp;omega
         have k5:=hI (d5.2 ⟨v1,v2,v3⟩);clear v1 v2 v3 d5;go_wp2;go_roundw
         case rel=>exact⟨k+1,by omega,by go_num,λj hj=>by
          by_cases e:j=k
          ·subst e;exact k5
          ·exact HA j (by omega),e9⟩
         case measure=>simp[intOf];omega
      ·obtain rfl:k=x.san:=by omega
       have HY:Hid (Zk x):=⟨i9,f,J,i5,k0,HA⟩;clear HA;go_wp2;go_ret;exact⟨zR HY,a⟩
open Classical in
noncomputable instance (x:Off):Decidable (Zk x):=propDecidable _
end
end Go.Proofs.YtmdnjgihooflfaaGreatDoor
