/-
  OWN TEXT: ImplS2, ImplS3, ImplT, FitI, NamedI, NamedK, AskedI.
-/
import Derived.Deep.RegionWith
import Derived.BigQuiet
import Derived.Test.YtmdnjgihooflfaaGreatDoorB23
namespace Go.Proofs.YtmdnjgihooflfaaGreatDoor
open Go.RowKit
open Go.Value (int)
open Go.IntKind (i64)
set_option maxHeartbeats 64000000
set_option maxRecDepth 100000
section
open Go.RowKit
end
theorem zaG (x d a mo:Int)(fr tt:ByteArray)(lo q:Option Addr)(n m c1 c2:Nat)(j l2:zH)(w:World)(D:j.n=n)(E:l2.n=m)(c:fr.size<=1000000000000000)(f:tt.size<=1000000000000000)(M:n<=1048576)(L:m<=1048576)(N:zG w lo j)(O:zG w q l2) :
  Calls Tryz.prog 177 #[.agg #[int i64 x,.string fr,.string tt,int i64 d,int i64 a,.slice lo n c1,.slice q m c2,int i64 mo]] w fun e w'=>qX (Zf ⟨x,fr,tt,d,a,j,l2,mo⟩) e/\Below w.heap.size w w':=by
 have b:Below w.heap.size w (w.alloc (.cells #[int i64 x,.string fr,.string tt,int i64 d,int i64 a,.slice lo n c1,.slice q m c2,int i64 mo] 140)):=zk bZ _;have A:=heap_alloc_new w (.cells #[int i64 x,.string fr,.string tt,int i64 d,int i64 a,.slice lo n c1,.slice q m c2,int i64 mo] 140);have G:=hI D;have H:=hI E;clear D E
 by_cases g1:In x 1 99
 case neg =>
  have t:decide (In x 1 99)=false:=by exact decide_eq_false g1
  have g:Hid (¬ Zf ⟨x,fr,tt,d,a,j,l2,mo⟩):=fun h=>g1 h.1
  clear g1;go_enter Tryz.func177,Tryz.ntmps177;go_wp2_with (first|(go_at_call 232;refine sC (Qu _ _) ?_)|(go_at_call 233;refine sC (ZO _ _ _ c f) ?_)|(go_at_call 191;refine sC (zz _ _ _ _) ?_))
  go_ret;exact⟨zl g.out,b⟩
 have t:decide (In x 1 99)=true:=by exact decide_eq_true g1
 by_cases g2:zda fr tt
 case neg =>
  have u:decide (zda fr tt)=false:=by exact decide_eq_false g2
  have g:Hid (¬ Zf ⟨x,fr,tt,d,a,j,l2,mo⟩):=fun h=>g2 ⟨h.2.1,h.2.2.1,h.2.2.2.1⟩
  clear g1 g2;go_enter Tryz.func177,Tryz.ntmps177;go_wp2_with (first|(go_at_call 232;refine sC (Qu _ _) ?_)|(go_at_call 233;refine sC (ZO _ _ _ c f) ?_)|(go_at_call 191;refine sC (zz _ _ _ _) ?_))
  go_ret;exact⟨zl g.out,b⟩
 have u:decide (zda fr tt)=true:=by exact decide_eq_true g2
 by_cases g3:0<=d
 case neg =>
  have v:decide (0<=d)=false:=by simpa using g3
  have g:Hid (¬ Zf ⟨x,fr,tt,d,a,j,l2,mo⟩):=fun h=>g3 h.2.2.2.2.1
  clear g1 g2 g3;go_enter Tryz.func177,Tryz.ntmps177;go_wp2_with (first|(go_at_call 232;refine sC (Qu _ _) ?_)|(go_at_call 233;refine sC (ZO _ _ _ c f) ?_)|(go_at_call 191;refine sC (zz _ _ _ _) ?_))
  go_ret;exact⟨zl g.out,b⟩
 have v:decide (0<=d)=true:=by simpa using g3
 by_cases g4:d<a
 case neg =>
  have y:decide (d<a)=false:=by simpa using g4
  have g:Hid (¬ Zf ⟨x,fr,tt,d,a,j,l2,mo⟩):=fun h=>g4 h.2.2.2.2.2.1
  clear g1 g2 g3 g4;go_enter Tryz.func177,Tryz.ntmps177;go_wp2_with (first|(go_at_call 232;refine sC (Qu _ _) ?_)|(go_at_call 233;refine sC (ZO _ _ _ c f) ?_)|(go_at_call 191;refine sC (zz _ _ _ _) ?_))
  go_ret;exact⟨zl g.out,b⟩
 have y:decide (d<a)=true:=by simpa using g4
 by_cases g5:a<=10000
 case neg =>
  have z:decide (a<=10000)=false:=by simpa using g5
  have g:Hid (¬ Zf ⟨x,fr,tt,d,a,j,l2,mo⟩):=fun h=>g5 h.2.2.2.2.2.2.1
  clear g1 g2 g3 g4 g5;go_enter Tryz.func177,Tryz.ntmps177;go_wp2_with (first|(go_at_call 232;refine sC (Qu _ _) ?_)|(go_at_call 233;refine sC (ZO _ _ _ c f) ?_)|(go_at_call 191;refine sC (zz _ _ _ _) ?_))
  go_ret;exact⟨zl g.out,b⟩
 have z:decide (a<=10000)=true:=by simpa using g5
 have k:Hid (In x 1 99/\zda fr tt/\0<=d/\d<a/\a<=10000):=⟨g1,g2,g3,g4,g5⟩;clear g1 g2 g3 g4 g5;go_enter Tryz.func177,Tryz.ntmps177;go_wp2_with (first|(go_at_call 232;refine sC (Qu _ _) ?_)|(go_at_call 233;refine sC (ZO _ _ _ c f) ?_)|(go_at_call 191;refine sC (zz _ _ _ _) ?_))
 refine(zeD lo n c1 j _ G.out M (N.below b)).mono ?_;rintro e w1 ⟨⟨I,rfl,i1⟩,l⟩;have r:=zb A l;have i:=ze b l;have B:=hI i1;clear i1 A b l
 cases I with
 | false =>
  go_wp2;go_ret;exact⟨zl (fun h=>by have:=B.out.2 h.2.2.2.2.2.2.2.1;cases this),i⟩
 | true =>
  have P:=za r 6 _ rfl;go_wp2_with fail;refine(zef q m c2 l2 _ H.out L (O.below i)).mono ?_;rintro e w2 ⟨⟨J,rfl,i2⟩,o⟩;have F:=zb r o;have p:=ze i o;have C:=hI i2;clear i2 r i o P
  cases J with
  | false =>
   go_wp2;go_ret;exact⟨zl (fun h=>by have:=C.out.2 h.2.2.2.2.2.2.2.2.1;cases this),p⟩
  | true =>
   have q7:=za F 7 _ rfl
   by_cases g8:In mo 0 500
   ·have K:decide (In mo 0 500)=true:=decide_eq_true g8
    have s:=hI g8;clear g8;go_wp2_with (first|(go_at_call 232;refine sC (Qu _ _) ?_)|(go_at_call 233;refine sC (ZO _ _ _ c f) ?_)|(go_at_call 191;refine sC (zz _ _ _ _) ?_))
    go_ret;exact⟨zR ⟨k.out.1,k.out.2.1.1,k.out.2.1.2.1,k.out.2.1.2.2,k.out.2.2.1,k.out.2.2.2.1,k.out.2.2.2.2,B.out.1 (by simp),C.out.1 (by simp),s.out⟩,p⟩
   ·have K:decide (In mo 0 500)=false:=decide_eq_false g8
    have s:=hI g8;clear g8;go_wp2_with (first|(go_at_call 232;refine sC (Qu _ _) ?_)|(go_at_call 233;refine sC (ZO _ _ _ c f) ?_)|(go_at_call 191;refine sC (zz _ _ _ _) ?_))
    go_ret;exact⟨zl (fun h=>s.out h.2.2.2.2.2.2.2.2.2),p⟩
theorem zhf (E:Option Addr)(N c:Nat)(S:Nat->Zj)(w:World)(hN:N<=1048576)(R:QL N S 1048576)(U:qB w E N S) :
  Calls Tryz.prog 97 #[.slice E N c] w fun e w'=>qX (QJ N S) e/\Below w.heap.size w w':=by
 have X:=hI R;clear R
 by_cases h6:N<=6
 ·have L:decide (6<N)=false:=by simp;omega
  go_enter Tryz.func97,Tryz.ntmps97;go_wp2;go_loopw [3,4,10] (fun _ _ i wr=>∃ k:Nat,k<=N/\i=int i64 k/\(∀ j,j<k->Zf (S j)/\(0<j->(S (j - 1)).id<(S j).id))/\Below w.heap.size w wr) (fun _ _ i _=>N - (intOf i).toNat)
  case atStart=>exact⟨0,Nat.zero_le _,rfl,fun j hj=>by omega,bZ⟩
  case round =>
   obtain⟨k,hk,rfl,s,d⟩:=hrel;have J:=hI s;clear s L
   by_cases hlt:k<N
   ·have K:Hid (0<k->∀ b off,E=some ⟨b,off,none⟩->w.cell? ⟨b,off+(k - 1)*8,none⟩=some (int i64 (S (k - 1)).id)):=by
     intro h b off e;obtain⟨b',V,_,_,_,_,G,g,_⟩:=U (k - 1) (by omega)
     rw[e] at G;simp only[Option.some.injEq,Addr.mk.injEq,and_true] at G;obtain⟨rfl,rfl⟩:=G;exact g
    obtain⟨b,off,la,H,ca,F,rfl,M,h1,h2,h3,O,P,y,Q,h8,h9,_,_⟩:=U k hlt;have C:Hid (0<k->w.cell? ⟨b,off+(k - 1)*8,none⟩=some (int i64 (S (k - 1)).id)):=fun h=>K.out h b off rfl
    clear K;have n:=World.block_lt_of_cell? w _ h1;have Y:=(d.cell (p:=⟨b,off+k*8,none⟩) n).trans M;have c1:=(d.cell (p:=⟨b,off+k*8+1,none⟩) n).trans h1;have c2:=(d.cell (p:=⟨b,off+k*8+2,none⟩) n).trans h2;have c3:=(d.cell (p:=⟨b,off+k*8+3,none⟩) n).trans h3;have c4:=(d.cell (p:=⟨b,off+k*8+4,none⟩) n).trans O;have c5:=(d.cell (p:=⟨b,off+k*8+5,none⟩) n).trans P;have c6:=(d.cell (p:=⟨b,off+k*8+6,none⟩) n).trans y;have c7:=(d.cell (p:=⟨b,off+k*8+7,none⟩) n).trans Q;obtain⟨s1,s2,z,A⟩:=X.out k hlt;have o:(S k).fr.size<=1000000000000000:=by omega
    have q:(S k).dst.size<=1000000000000000:=by omega
    clear s1 s2;have f:=zk d (.cells #[int i64 (S k).id,.string (S k).fr,.string (S k).dst,int i64 (S k).dep,int i64 (S k).arr,.slice la (S k).la.n H,.slice ca (S k).ca.n F,int i64 (S k).most] 140);have a:=heap_alloc_new wr (.cells #[int i64 (S k).id,.string (S k).fr,.string (S k).dst,int i64 (S k).dep,int i64 (S k).arr,.slice la (S k).la.n H,.slice ca (S k).ca.n F,int i64 (S k).most] 140);clear M h1 h2 h3 O P y Q;go_upto_region 6 with fail;generalize hW:wr.alloc (.cells #[int i64 (S k).id,.string (S k).fr,.string (S k).dst,int i64 (S k).dep,int i64 (S k).arr,.slice la (S k).la.n H,.slice ca (S k).ca.n F,int i64 (S k).most] 140)=W at f a ⊢;clear hW;have l:wr.heap.size<W.heap.size:=zM a;have z0:∀ g:zn W,g.val.cell? ⟨wr.heap.size,0,none⟩=_:=fun g=>(g.bel.cell l).trans (za a 0 _ rfl)
    have z1:∀ g:zn W,g.val.cell? ⟨wr.heap.size,1,none⟩=_:=fun g=>(g.bel.cell l).trans (za a 1 _ rfl)
    have z2:∀ g:zn W,g.val.cell? ⟨wr.heap.size,2,none⟩=_:=fun g=>(g.bel.cell l).trans (za a 2 _ rfl)
    have z3:∀ g:zn W,g.val.cell? ⟨wr.heap.size,3,none⟩=_:=fun g=>(g.bel.cell l).trans (za a 3 _ rfl)
    have z4:∀ g:zn W,g.val.cell? ⟨wr.heap.size,4,none⟩=_:=fun g=>(g.bel.cell l).trans (za a 4 _ rfl)
    have z5:∀ g:zn W,g.val.cell? ⟨wr.heap.size,5,none⟩=_:=fun g=>(g.bel.cell l).trans (za a 5 _ rfl)
    have z6:∀ g:zn W,g.val.cell? ⟨wr.heap.size,6,none⟩=_:=fun g=>(g.bel.cell l).trans (za a 6 _ rfl)
    have z7:∀ g:zn W,g.val.cell? ⟨wr.heap.size,7,none⟩=_:=fun g=>(g.bel.cell l).trans (za a 7 _ rfl)
    have a0:b<W.heap.size:=Nat.lt_of_lt_of_le n f.size;clear Y c1 c2 c3 c4 c5 c6 c7 a;go_cut [10,32] (fun i c wx=>i=int i64 k/\zll (Zf (S k)/\(0<k->(S (k - 1)).id<(S k).id)) c/\Below w.heap.size w wx)
    case first =>
     by_cases hg:Zf (S k)
     ·have r:=hI hg
      clear hg
      by_cases k0:k=0
      ·subst k0
       refine zh (by kernel_rfl) (by kernel_rfl) ?_
       repeat(first|go_big_quiet_skip|(go_big_quiet_want;go_big_quiet_op;first|go_big_quiet_on|(apply Exists.intro;refine⟨fun g=>?_,?_⟩;(focus(go_at_call 177;refine zf (v:=.bool true) ((zaG _ _ _ _ _ _ _ _ _ _ _ _ (S 0).la (S 0).ca _ rfl rfl o q z A (h8.below (ze f g.bel)) (h9.below (ze f g.bel))).mono ?_);rintro e I ⟨⟨bb,rfl,x⟩,m⟩;obtain rfl:=x.2 r.out;exact⟨rfl,m⟩));go_big_quiet_on)))
       refine wpQuiet_nil ?_;rintro _ ⟨g,rfl⟩;go_wp2;go_meet;exact⟨rfl,Q5 ⟨r.out,fun h=>by omega⟩,ze f g.bel⟩
      ·have d0:decide (0<k)=true:=by simp;omega
       have a1:((k:Int) - 1).toNat=k - 1:=by omega
       have a2:(k:Int) - 1<(N:Int):=by omega
       have a3:(0:Int)<=(k:Int) - 1:=by omega
       have a4:IntKind.i64.wrap ((k:Int) - 1)=(k:Int) - 1:=by rw[IntKind.wrap_i64];omega
       have y0:∀ g:zn W,g.val.cell? ⟨b,off+(k - 1)*8,none⟩=_:=fun g=>((ze f g.bel).cell (p:=⟨b,off+(k - 1)*8,none⟩) n).trans (C.out (by omega))
       by_cases hle:(S k).id<=(S (k - 1)).id
       ·have Z:decide ((S k).id<=(S (k - 1)).id)=true:=by simpa using hle
        refine zh (by kernel_rfl) (by kernel_rfl) ?_
        repeat(first|go_big_quiet_skip|(go_big_quiet_want;go_big_quiet_op;first|go_big_quiet_on|(apply Exists.intro;refine⟨fun g=>?_,?_⟩;(focus(go_at_call 177;refine zf (v:=.bool true) ((zaG _ _ _ _ _ _ _ _ _ _ _ _ (S k).la (S k).ca _ rfl rfl o q z A (h8.below (ze f g.bel)) (h9.below (ze f g.bel))).mono ?_);rintro e I ⟨⟨bb,rfl,x⟩,m⟩;obtain rfl:=x.2 r.out;exact⟨rfl,m⟩));go_big_quiet_on)))
        refine wpQuiet_nil ?_;rintro _ ⟨g,rfl⟩;go_wp2;go_meet;exact⟨rfl,QP (fun h=>by have:=h.2 (by omega);omega),ze f g.bel⟩
       ·have Z:decide ((S k).id<=(S (k - 1)).id)=false:=by simpa using hle
        refine zh (by kernel_rfl) (by kernel_rfl) ?_
        repeat(first|go_big_quiet_skip|(go_big_quiet_want;go_big_quiet_op;first|go_big_quiet_on|(apply Exists.intro;refine⟨fun g=>?_,?_⟩;(focus(go_at_call 177;refine zf (v:=.bool true) ((zaG _ _ _ _ _ _ _ _ _ _ _ _ (S k).la (S k).ca _ rfl rfl o q z A (h8.below (ze f g.bel)) (h9.below (ze f g.bel))).mono ?_);rintro e I ⟨⟨bb,rfl,x⟩,m⟩;obtain rfl:=x.2 r.out;exact⟨rfl,m⟩));go_big_quiet_on)))
        refine wpQuiet_nil ?_;rintro _ ⟨g,rfl⟩;go_wp2;go_meet;exact⟨rfl,Q5 ⟨r.out,fun _=>by omega⟩,ze f g.bel⟩
     ·have r:=hI hg
      clear hg;refine zh (by kernel_rfl) (by kernel_rfl) ?_
      repeat(first|go_big_quiet_skip|(go_big_quiet_want;go_big_quiet_op;first|go_big_quiet_on|(apply Exists.intro;refine⟨fun g=>?_,?_⟩;(focus(go_at_call 177;refine zf (v:=.bool false) ((zaG _ _ _ _ _ _ _ _ _ _ _ _ (S k).la (S k).ca _ rfl rfl o q z A (h8.below (ze f g.bel)) (h9.below (ze f g.bel))).mono ?_);rintro e I ⟨⟨bb,rfl,x⟩,m⟩;obtain rfl:=Bool.eq_false_iff.2 (fun e=>r.out (x.1 e));exact⟨rfl,m⟩));go_big_quiet_on)))
      refine wpQuiet_nil ?_;rintro _ ⟨g,rfl⟩;go_wp2;go_meet;exact⟨rfl,QP (fun h=>r.out h.1),ze f g.bel⟩
    case rest =>
     obtain⟨rfl,⟨t,rfl,T⟩,u⟩:=hcut;have D:=hI T;clear T z0 z1 z2 z3 z4 z5 z6 z7
     cases t with
     | true =>
      go_wp2;go_ret;exact⟨zl (fun h=>by have:=D.out.2 (h.2 k hlt);cases this),u⟩
     | false =>
      have B:=D.out.1 rfl;have B:Hid _:=B;clear D;go_wp2;go_roundw
      case rel=>exact⟨k+1,by omega,by go_num,fun j hj=>by
       by_cases e:j=k
       ·subst e;exact B.out
       ·exact J.out j (by omega),u⟩
      case measure=>simp[intOf];omega
   ·obtain rfl:k=N:=by omega
    go_wp2;go_ret;exact⟨zR ⟨h6,J.out⟩,d⟩
 ·have L:decide (6<N)=true:=by simp;omega
  go_enter Tryz.func97,Tryz.ntmps97;go_wp2;go_ret;exact⟨zl (fun h=>h6 h.1),bZ⟩
def WayIs (N:Nat)(S:Nat->Zj)(G:Nat->Int)(w:World)(B k:Nat):Prop :=
 ∃ la lc ls pl t,w.heap[B]?=some (.cells #[.slice la k lc,.string pl,int i64 t] 329 (0,0))/\ls.length=k/\zT w la k (getI ls)/\(la=none->k=0/\lc=0) /\
  (0<k->pl=(S (zW S (G (k - 1)) N)).dst/\t=(S (zW S (G (k - 1)) N)).arr)
theorem Q0 (ao bo:Option Addr)(N n c c':Nat)(S:Nat->Zj)(G:Nat->Int)(w:World)(hN:N<=1048576)(hn:n<=1048576)(hs:QL N S 1048576)(hx:qB w ao N S)(hy:zT w bo n G) :
  Calls Tryz.prog 195 #[.slice ao N c,.slice bo n c'] w fun e w'=>qX (QJ N S/\zad N S n G) e/\Below w.heap.size w w':=by
 have HS:=hI hs;clear hs;go_enter Tryz.func195,Tryz.ntmps195;go_wp2_with fail;refine(zhf ao N c S _ hN HS.out hx).mono ?_;rintro e D ⟨⟨b1,rfl,H⟩,B⟩
 cases b1 with
 | false =>
  have HN:Hid (¬ QJ N S):=fun h=>by have:=H.2 h;cases this
  clear H;go_wp2;go_ret;exact⟨zl (fun h=>HN.out h.1),B⟩
 | true =>
  have HT:Hid (QJ N S):=H.1 rfl;clear H
  by_cases g3:In (n:Int) 1 3
  case neg =>
   have d3:decide (In (n:Int) 1 3)=false:=decide_eq_false g3;have HN:Hid (¬ zad N S n G):=fun h=>g3 ⟨by have:=h.1;omega,by have:=h.2.1;omega⟩
   clear g3;go_wp2_with (first|(go_at_call 191;refine sC (zz _ _ _ _) ?_))
   go_ret;exact⟨zl (fun h=>HN.out h.2),B⟩
  have d3:decide (In (n:Int) 1 3)=true:=decide_eq_true g3;have H3:Hid (1<=n/\n<=3):=⟨by have:=g3.1;omega,by have:=g3.2;omega⟩
  have b3:n<=3:=H3.out.2;clear g3;go_wp2_with (first|(go_at_call 191;refine sC (zz _ _ _ _) ?_))
  have a0:Below w.heap.size w (D.alloc (.cells #[.slice none 0 0,.string ⟨#[]⟩,int i64 0] 329)):=zk B _;have K:=heap_alloc_new D (.cells #[.slice none 0 0,.string ⟨#[]⟩,int i64 0] 329);have hB:w.heap.size<=D.heap.size:=B.size;go_loopw [6,7,8,9,21] (fun _ _ _ _ i wr=>∃ k:Nat,k<=n/\i=int i64 k/\(∀ j,j<k->zkh N S G j)/\WayIs N S G wr D.heap.size k/\Below w.heap.size w wr) (fun _ _ _ _ i _=>n - (intOf i).toNat)
  case atStart=>exact⟨0,Nat.zero_le _,rfl,fun j hj=>by omega,⟨none,0,[],⟨#[]⟩,0,K,rfl,fun k hk=>by omega,fun _=>⟨rfl,rfl⟩,fun h=>by omega⟩,a0⟩
  case round =>
   clear a0 K d3 B;obtain⟨k,hk,rfl,J,M,s⟩:=hrel;have HA:=hI J;have HW:=hI M;clear J M
   by_cases hlt:k<n
   ·obtain⟨qb,a4,rfl,hq⟩:=hy k hlt
    have a9:=World.block_lt_of_cell? w _ hq;have p0:=(s.cell (p:=⟨qb,a4+k,none⟩) a9).trans hq;clear hq;go_wp2_with fail;refine(zaF ao N c S (G k) _ hN (hx.below s)).mono ?_;rintro e z ⟨hr,F⟩;obtain⟨la,lc,ls,pl,t,l,a2,q,a8,L⟩:=HW.out;have l:=zb l F;have q:=q.below F;have f:=ze s F;have P:=hI a2;have X:=hI L;clear a2 L F s p0 HW
    rcases hr with⟨U,rfl⟩|⟨U,rfl⟩
    ·obtain⟨x,V⟩:∃ x,x=zW S (G k) N:=⟨_,rfl⟩
     rw[← V] at U ⊢;have Y:=hI V;clear V;have x1:(x:Int)<(N:Int):=by omega
     have x0:(0:Int)<=(x:Int):=by omega
     obtain⟨m,b,b6,b7,b4,b5,rfl,h0,h1,h2,h3,h4,h5,h6,h7,_,_,_,_⟩:=hx x U;have r:=World.block_lt_of_cell? w _ h1;have d:m<z.heap.size:=Nat.lt_of_lt_of_le r f.size;have s0:=(f.cell (p:=⟨m,b+x*8,none⟩) r).trans h0;have s1:=(f.cell (p:=⟨m,b+x*8+1,none⟩) r).trans h1;have s2:=(f.cell (p:=⟨m,b+x*8+2,none⟩) r).trans h2;have s3:=(f.cell (p:=⟨m,b+x*8+3,none⟩) r).trans h3;have s4:=(f.cell (p:=⟨m,b+x*8+4,none⟩) r).trans h4;have s5:=(f.cell (p:=⟨m,b+x*8+5,none⟩) r).trans h5;have s6:=(f.cell (p:=⟨m,b+x*8+6,none⟩) r).trans h6;have s7:=(f.cell (p:=⟨m,b+x*8+7,none⟩) r).trans h7;clear h0 h1 h2 h3 h4 h5 h6 h7;have R:D.heap.size<z.heap.size:=zM l;have g0:∀ g:zn z,g.val.cell? ⟨D.heap.size,0,none⟩=some (.slice la k lc):=fun g=>(g.bel.cell R).trans (za l 0 _ rfl)
     have g1:∀ g:zn z,g.val.cell? ⟨D.heap.size,1,none⟩=some (.string pl):=fun g=>(g.bel.cell R).trans (za l 1 _ rfl)
     have g2:∀ g:zn z,g.val.cell? ⟨D.heap.size,2,none⟩=some (int i64 t):=fun g=>(g.bel.cell R).trans (za l 2 _ rfl)
     have r0:∀ g:zn z,g.val.cell? ⟨m,b+x*8,none⟩=_:=fun g=>(g.bel.cell d).trans s0
     have r1:∀ g:zn z,g.val.cell? ⟨m,b+x*8+1,none⟩=_:=fun g=>(g.bel.cell d).trans s1
     have r2:∀ g:zn z,g.val.cell? ⟨m,b+x*8+2,none⟩=_:=fun g=>(g.bel.cell d).trans s2
     have r3:∀ g:zn z,g.val.cell? ⟨m,b+x*8+3,none⟩=_:=fun g=>(g.bel.cell d).trans s3
     have r4:∀ g:zn z,g.val.cell? ⟨m,b+x*8+4,none⟩=_:=fun g=>(g.bel.cell d).trans s4
     have r5:∀ g:zn z,g.val.cell? ⟨m,b+x*8+5,none⟩=_:=fun g=>(g.bel.cell d).trans s5
     have r6:∀ g:zn z,g.val.cell? ⟨m,b+x*8+6,none⟩=_:=fun g=>(g.bel.cell d).trans s6
     have r7:∀ g:zn z,g.val.cell? ⟨m,b+x*8+7,none⟩=_:=fun g=>(g.bel.cell d).trans s7
     go_upto_region 8 with fail;go_cut [8,21,46] (fun j i v wx=>j=int i64 x/\i=int i64 k/\zll (zkh N S G k) v/\Below z.heap.size z wx)
     case first =>
      by_cases k0:k=0
      ·subst k0
       refine zh (by kernel_rfl) (by kernel_rfl) ?_
       repeat(first|go_big_quiet_skip|(go_big_quiet_want;go_big_quiet_op;go_big_quiet_on))
       refine wpQuiet_nil ?_;rintro _ ⟨g,rfl⟩;go_wp2;go_meet;exact⟨rfl,rfl,Q5 ⟨by rw[← Y.out];exact U,fun h=>by omega⟩,g.bel⟩
      ·have d0:decide (0<k)=true:=by simp;omega
       by_cases A:zic pl t (S x).fr (S x).dep=true
       ·refine zh (by kernel_rfl) (by kernel_rfl) ?_
        repeat(first|go_big_quiet_skip|(go_big_quiet_want;go_big_quiet_op;first|go_big_quiet_on|(apply Exists.intro;refine⟨fun g=>?_,?_⟩;(focus(go_at_call 247;refine zf (v:=.bool true) ((zid _ _ _ _ _ _ _ _ _ _ _ _ _ _ _ _ _ _).mono ?_);rintro e w4 ⟨rfl,T⟩;exact⟨by rw[A],T⟩));go_big_quiet_on)))
        refine wpQuiet_nil ?_;rintro _ ⟨g,rfl⟩;go_wp2;go_meet;exact⟨rfl,rfl,Q5 ⟨by rw[← Y.out];exact U,fun h=>by
         have h1:=zcC.1 A;have h2:=X.out h;rw[← Y.out];exact⟨by rw[← h2.1];exact h1.1.symm,by rw[← h2.2];exact h1.2⟩⟩,g.bel⟩
       ·have A:=Bool.eq_false_iff.2 A
        refine zh (by kernel_rfl) (by kernel_rfl) ?_
        repeat(first|go_big_quiet_skip|(go_big_quiet_want;go_big_quiet_op;first|go_big_quiet_on|(apply Exists.intro;refine⟨fun g=>?_,?_⟩;(focus(go_at_call 247;refine zf (v:=.bool false) ((zid _ _ _ _ _ _ _ _ _ _ _ _ _ _ _ _ _ _).mono ?_);rintro e w4 ⟨rfl,T⟩;exact⟨by rw[A],T⟩));go_big_quiet_on)))
        refine wpQuiet_nil ?_;rintro _ ⟨g,rfl⟩;go_wp2;go_meet;exact⟨rfl,rfl,QP (fun h=>by
         have h1:=h.2 (by omega)
         have h2:=X.out (by omega)
         rw[← Y.out] at h1;have h3:=zcC.2 (show(S x).fr=pl/\t<=(S x).dep from ⟨by rw[h2.1];exact h1.1.symm,by rw[h2.2];exact h1.2⟩)
         rw[A] at h3;cases h3),g.bel⟩
     case rest =>
      clear g0 g1 g2 r0 r1 r2 r3 r4 r5 r6 r7;obtain⟨rfl,rfl,⟨tb,rfl,ht⟩,o⟩:=hcut;have Q:=hI ht;clear ht;obtain⟨w3,a7⟩:∃ y,y=wc:=⟨_,rfl⟩;subst a7;have C:=ze f o
      cases tb with
      | true =>
       clear s0 s1 s2 s3 s4 s5 s6 s7;go_wp2;go_ret;exact⟨zl (fun h=>by have:=Q.out.2 (h.2.2.2 k hlt);cases this),C⟩
      | false =>
       have HK:Hid (zkh N S G k):=Q.out.1 rfl;clear Q;have u:=zb l o;have s0:=(o.cell (p:=⟨m,b+x*8,none⟩) d).trans s0;have s1:=(o.cell (p:=⟨m,b+x*8+1,none⟩) d).trans s1;have s2:=(o.cell (p:=⟨m,b+x*8+2,none⟩) d).trans s2;have s3:=(o.cell (p:=⟨m,b+x*8+3,none⟩) d).trans s3;have s4:=(o.cell (p:=⟨m,b+x*8+4,none⟩) d).trans s4;have s5:=(o.cell (p:=⟨m,b+x*8+5,none⟩) d).trans s5;have s6:=(o.cell (p:=⟨m,b+x*8+6,none⟩) d).trans s6;have s7:=(o.cell (p:=⟨m,b+x*8+7,none⟩) d).trans s7;obtain⟨b0,b1,b2⟩:=ce3 u;have I:=(q.below o).below (Below.refl _ w3).drew;have E:=hI u;clear l u q;go_upto_region 10 with fail;go_region_with (first|(go_at_call 248;refine Calls.mono (with_any la k lc ls pl t _ _ _ _ _ _ _ _ _ _ _ _ _ P.out ?_ I a8) ?_;(focus omega);rintro e w5 ⟨Z,c5,rfl,a3,a1⟩;have W:=zb E.out a1;have o0:=za W 0 _ rfl;have o1:=za W 1 _ rfl;have o2:=za W 2 _ rfl;have f0:=zg W 0;have f1:=zg W 1;have f2:=zg W 2))
       all_goals
        have a5:Hid _:=a3;clear a3;go_wp2;go_roundw
        case rel =>
         refine⟨k+1,by omega,by go_num,fun j hj=>?_,?_,?_⟩
         ·by_cases e:j=k
          ·subst e;exact HK.out
          ·exact HA.out j (by omega)
         ·have O:=ZW (ZW (ZW a5.out (a:=⟨D.heap.size,0,none⟩) (zM E.out) (.slice Z (k+1) c5)) (a:=⟨D.heap.size,1,none⟩) (zM E.out) (.string (S x).dst)) (a:=⟨D.heap.size,2,none⟩) (zM E.out) (int i64 (S x).arr)
          obtain⟨_,_,e5,_,_,a6⟩:=zp O;simp only[Value.slice.injEq,true_and] at e5;obtain⟨rfl,rfl⟩:=e5;exact⟨Z,c5,ls++[(S x).id],(S x).dst,(S x).arr,zm (zm (zm W 0 _) 1 _) 2 _,by rw[List.length_append,P.out];rfl,own_legs (by rw[List.length_append,P.out];rfl) O,fun h=>absurd (a6 h).1 (by omega),fun _=>by
           rw[Nat.add_sub_cancel,← Y.out];exact⟨rfl,rfl⟩⟩
         ·exact(((ze C.drew a1).setCell hB _).setCell hB _).setCell hB _
        case measure=>simp[intOf];omega
    ·have HF:=hI U
     clear U;go_upto_region 8 with fail;refine zh (by kernel_rfl) (by kernel_rfl) ?_
     repeat(first|go_big_quiet_skip|(go_big_quiet_want;go_big_quiet_op;go_big_quiet_on))
     refine wpQuiet_nil ?_;rintro _ ⟨g,rfl⟩;go_wp2;go_ret;exact⟨zl (fun h=>by have:=(h.2.2.2 k hlt).1;have:=HF.out;omega),ze f g.bel⟩
   ·obtain rfl:k=n:=by omega
    go_wp2;go_ret;exact⟨zR ⟨HT.out,H3.out.1,H3.out.2,HA.out⟩,s⟩
/-- The operation names no booking. -/
theorem zhg (x:OpD)(d:Option Addr)(f:Nat)(a:Option Addr)(n c:Nat)(k:Nat)(w:World)(g:Zm w)(l:x.kind=(k:Int))(h:k<10)(j:zaS k=false) :
  Calls Tryz.prog 107 #[.slice a n c,.agg #[int i64 x.kind,.string x.own,int i64 x.name,.slice d x.lgn f,int i64 x.pe,int i64 x.len,int i64 x.hei,int i64 x.cl,.bool x.all,int i64 x.be,int i64 x.unt,int i64 x.now]] w fun e w'=>e=.returned (.tuple #[])/\Below w.heap.size w w':=by
 have i:=heap_alloc_new w (.cells #[int i64 x.kind,.string x.own,int i64 x.name,.slice d x.lgn f,int i64 x.pe,int i64 x.len,int i64 x.hei,int i64 x.cl,.bool x.all,int i64 x.be,int i64 x.unt,int i64 x.now] 47);have b:Below w.heap.size w (w.alloc (.cells #[int i64 x.kind,.string x.own,int i64 x.name,.slice d x.lgn f,int i64 x.pe,int i64 x.len,int i64 x.hei,int i64 x.cl,.bool x.all,int i64 x.be,int i64 x.unt,int i64 x.now] 47)):=zk bZ _;have q:(w.alloc (.cells #[int i64 x.kind,.string x.own,int i64 x.name,.slice d x.lgn f,int i64 x.pe,int i64 x.len,int i64 x.hei,int i64 x.cl,.bool x.all,int i64 x.be,int i64 x.unt,int i64 x.now] 47)).cell? ⟨9,k*7+1,none⟩=some (.bool false):=(b.cell (p:=⟨9,k*7+1,none⟩) g.lt).trans (by rw[← j];exact(g k h).2.1)
 have r:(w.alloc (.cells #[int i64 x.kind,.string x.own,int i64 x.name,.slice d x.lgn f,int i64 x.pe,int i64 x.len,int i64 x.hei,int i64 x.cl,.bool x.all,int i64 x.be,int i64 x.unt,int i64 x.now] 47)).cell? ⟨w.heap.size,0,none⟩=some (int i64 (k:Int)):=by rw[← l];exact za i 0 _ rfl
 have m:(0:Int)<=(k:Int):=by omega
 have o:(k:Int)<10:=by omega
 clear l;go_enter Tryz.func107,Tryz.ntmps107;go_upto_region 1 with fail;generalize w.alloc (.cells #[int i64 x.kind,.string x.own,int i64 x.name,.slice d x.lgn f,int i64 x.pe,int i64 x.len,int i64 x.hei,int i64 x.cl,.bool x.all,int i64 x.be,int i64 x.unt,int i64 x.now] 47)=W at i b q r ⊢;clear g j;go_wp2;exact bodyPost_ret (v:=.tuple #[]) (by simp[results,Tryz.results107,go_sem]) rfl ⟨rfl,b⟩
/-- It names one that isn't there. -/
theorem zhE (x:OpD)(d:Option Addr)(f:Nat)(a:Option Addr)(n c:Nat)(k:Nat)(w:World)(h:Zm w)(o:x.kind=(k:Int))(i:k<10)(j:zaS k=true)(pe:Nat->Addr)(l:qY w pe)(m:¬ x.name<=(n:Int)) :
  Calls Tryz.prog 107 #[.slice a n c,.agg #[int i64 x.kind,.string x.own,int i64 x.name,.slice d x.lgn f,int i64 x.pe,int i64 x.len,int i64 x.hei,int i64 x.cl,.bool x.all,int i64 x.be,int i64 x.unt,int i64 x.now]] w fun e w'=>e=.panicked [{ v:=.iface 96 (.agg #[.iface 391 (.pointer (some (pe 3)))]),recovered:=false }]/\Below w.heap.size w w':=by
 have g:=heap_alloc_new w (.cells #[int i64 x.kind,.string x.own,int i64 x.name,.slice d x.lgn f,int i64 x.pe,int i64 x.len,int i64 x.hei,int i64 x.cl,.bool x.all,int i64 x.be,int i64 x.unt,int i64 x.now] 47);have b:Below w.heap.size w (w.alloc (.cells #[int i64 x.kind,.string x.own,int i64 x.name,.slice d x.lgn f,int i64 x.pe,int i64 x.len,int i64 x.hei,int i64 x.cl,.bool x.all,int i64 x.be,int i64 x.unt,int i64 x.now] 47)):=zk bZ _;have t:(w.alloc (.cells #[int i64 x.kind,.string x.own,int i64 x.name,.slice d x.lgn f,int i64 x.pe,int i64 x.len,int i64 x.hei,int i64 x.cl,.bool x.all,int i64 x.be,int i64 x.unt,int i64 x.now] 47)).cell? ⟨9,k*7+1,none⟩=some (.bool true):=(b.cell (p:=⟨9,k*7+1,none⟩) h.lt).trans (by rw[← j];exact(h k i).2.1)
 have u:(w.alloc (.cells #[int i64 x.kind,.string x.own,int i64 x.name,.slice d x.lgn f,int i64 x.pe,int i64 x.len,int i64 x.hei,int i64 x.cl,.bool x.all,int i64 x.be,int i64 x.unt,int i64 x.now] 47)).cell? ⟨w.heap.size,0,none⟩=some (int i64 (k:Int)):=by rw[← o];exact za g 0 _ rfl
 have r:(0:Int)<=(k:Int):=by omega
 have s:(k:Int)<10:=by omega
 have y:(w.alloc (.cells #[int i64 x.kind,.string x.own,int i64 x.name,.slice d x.lgn f,int i64 x.pe,int i64 x.len,int i64 x.hei,int i64 x.cl,.bool x.all,int i64 x.be,int i64 x.unt,int i64 x.now] 47)).cell? ⟨w.heap.size,2,none⟩=some (int i64 x.name):=za g 2 _ rfl;have q:=(qY.below l b).c3;have ef:decide (x.name<=(n:Int))=false:=decide_eq_false m;clear o;go_enter Tryz.func107,Tryz.ntmps107;go_upto_region 1 with fail;generalize w.alloc (.cells #[int i64 x.kind,.string x.own,int i64 x.name,.slice d x.lgn f,int i64 x.pe,int i64 x.len,int i64 x.hei,int i64 x.cl,.bool x.all,int i64 x.be,int i64 x.unt,int i64 x.now] 47)=W at g b t u y q ⊢;clear h j m l;go_wp2_with (go_at_call 193;refine(zaD _ _ _).mono ?_;rintro e w1 ⟨rfl,rfl⟩);exact⟨rfl,rfl,b⟩
theorem zhh {G:Prop}{P:Program}{a:Act}{w:World}(h:wpAny P .any #[] (fun _ _ _=>G) 0 #[] a w):G:=h.2
/-- It names one whose state bars it. -/
theorem zhF (x:OpD)(m:Option Addr)(o:Nat)(a:Option Addr)(n c:Nat)(k:Nat)(w:World)(y:Zm w)(A:x.kind=(k:Int))(E:k<10)(J:zaS k=true)(pe:Nat->Addr)(z:qY w pe)(S:Nat->ql)(hz:qO w a n S)(hn:n<=1048576)(j:Nat)(L:x.name=(j:Int)+1)(t:j<n)(G:¬ zeo x.kind (S j) x.now) :
  Calls Tryz.prog 107 #[.slice a n c,.agg #[int i64 x.kind,.string x.own,int i64 x.name,.slice m x.lgn o,int i64 x.pe,int i64 x.len,int i64 x.hei,int i64 x.cl,.bool x.all,int i64 x.be,int i64 x.unt,int i64 x.now]] w fun e w'=>e=.panicked [{ v:=.iface 96 (.agg #[.iface 391 (.pointer (some (pe 4)))]),recovered:=false }]/\Below w.heap.size w w':=by
 have l:=heap_alloc_new w (.cells #[int i64 x.kind,.string x.own,int i64 x.name,.slice m x.lgn o,int i64 x.pe,int i64 x.len,int i64 x.hei,int i64 x.cl,.bool x.all,int i64 x.be,int i64 x.unt,int i64 x.now] 47);have f:Below w.heap.size w (w.alloc (.cells #[int i64 x.kind,.string x.own,int i64 x.name,.slice m x.lgn o,int i64 x.pe,int i64 x.len,int i64 x.hei,int i64 x.cl,.bool x.all,int i64 x.be,int i64 x.unt,int i64 x.now] 47)):=zk bZ _;have N:(w.alloc (.cells #[int i64 x.kind,.string x.own,int i64 x.name,.slice m x.lgn o,int i64 x.pe,int i64 x.len,int i64 x.hei,int i64 x.cl,.bool x.all,int i64 x.be,int i64 x.unt,int i64 x.now] 47)).cell? ⟨9,k*7+1,none⟩=some (.bool true):=(f.cell (p:=⟨9,k*7+1,none⟩) y.lt).trans (by rw[← J];exact(y k E).2.1)
 have O:(w.alloc (.cells #[int i64 x.kind,.string x.own,int i64 x.name,.slice m x.lgn o,int i64 x.pe,int i64 x.len,int i64 x.hei,int i64 x.cl,.bool x.all,int i64 x.be,int i64 x.unt,int i64 x.now] 47)).cell? ⟨w.heap.size,0,none⟩=some (int i64 (k:Int)):=by rw[← A];exact za l 0 _ rfl
 have B:(0:Int)<=(k:Int):=by omega
 have D:(k:Int)<10:=by omega
 obtain⟨C,I,hI⟩:=hz;obtain⟨bb,bo,rfl,i⟩:=I j t;obtain⟨q,r,g,_,_⟩:=hI j t;obtain⟨b,K⟩:∃ b,b=S j:=⟨_,rfl⟩;rw[← K] at g G;have R:=hI G;have d:bb<w.heap.size:=World.block_lt_of_cell? w _ (i 0 (by decide))
 have H:=(qY.below z f).c3;have u:=(qY.below z f).c4;have X:decide (x.name<=(n:Int))=true:=decide_eq_true (by omega)
 have ej:x.name - 1=(j:Int):=by omega
 have Y:1<=x.name:=by omega
 have Z:x.name<=1048576:=by omega
 have HJ:=hI L;have Q:=hI A;clear A L;go_enter Tryz.func107,Tryz.ntmps107;go_upto_region 1 with fail;generalize w.alloc (.cells #[int i64 x.kind,.string x.own,int i64 x.name,.slice m x.lgn o,int i64 x.pe,int i64 x.len,int i64 x.hei,int i64 x.cl,.bool x.all,int i64 x.be,int i64 x.unt,int i64 x.now] 47)=W at l f N O H u ⊢;have c0:W.cell? ⟨bb,bo+j*13,none⟩=some (int i64 b.name):=(f.cell (p:=⟨bb,bo+j*13,none⟩) d).trans (by have:=i 0 (by decide);rw[g] at this;exact this)
 have c1:W.cell? ⟨bb,bo+j*13+1,none⟩=some (int i64 b.who):=(f.cell (p:=⟨bb,bo+j*13+1,none⟩) d).trans (by have:=i 1 (by decide);rw[g] at this;exact this)
 have c2:W.cell? ⟨bb,bo+j*13+2,none⟩=some (.string b.own):=(f.cell (p:=⟨bb,bo+j*13+2,none⟩) d).trans (by have:=i 2 (by decide);rw[g] at this;exact this)
 have c3:W.cell? ⟨bb,bo+j*13+3,none⟩=some (.slice q b.lgn r):=(f.cell (p:=⟨bb,bo+j*13+3,none⟩) d).trans (by have:=i 3 (by decide);rw[g] at this;exact this)
 have c4:W.cell? ⟨bb,bo+j*13+4,none⟩=some (int i64 b.pe):=(f.cell (p:=⟨bb,bo+j*13+4,none⟩) d).trans (by have:=i 4 (by decide);rw[g] at this;exact this)
 have c5:W.cell? ⟨bb,bo+j*13+5,none⟩=some (int i64 b.len):=(f.cell (p:=⟨bb,bo+j*13+5,none⟩) d).trans (by have:=i 5 (by decide);rw[g] at this;exact this)
 have c6:W.cell? ⟨bb,bo+j*13+6,none⟩=some (int i64 b.hei):=(f.cell (p:=⟨bb,bo+j*13+6,none⟩) d).trans (by have:=i 6 (by decide);rw[g] at this;exact this)
 have c7:W.cell? ⟨bb,bo+j*13+7,none⟩=some (int i64 b.cl):=(f.cell (p:=⟨bb,bo+j*13+7,none⟩) d).trans (by have:=i 7 (by decide);rw[g] at this;exact this)
 have c8:W.cell? ⟨bb,bo+j*13+8,none⟩=some (.bool b.all):=(f.cell (p:=⟨bb,bo+j*13+8,none⟩) d).trans (by have:=i 8 (by decide);rw[g] at this;exact this)
 have c9:W.cell? ⟨bb,bo+j*13+9,none⟩=some (int i64 b.be):=(f.cell (p:=⟨bb,bo+j*13+9,none⟩) d).trans (by have:=i 9 (by decide);rw[g] at this;exact this)
 have T:W.cell? ⟨bb,bo+j*13+10,none⟩=some (int i64 b.state):=(f.cell (p:=⟨bb,bo+j*13+10,none⟩) d).trans (by have:=i 10 (by decide);rw[g] at this;exact this)
 have U:W.cell? ⟨bb,bo+j*13+11,none⟩=some (int i64 b.unt):=(f.cell (p:=⟨bb,bo+j*13+11,none⟩) d).trans (by have:=i 11 (by decide);rw[g] at this;exact this)
 have V:W.cell? ⟨bb,bo+j*13+12,none⟩=some (int i64 b.price):=(f.cell (p:=⟨bb,bo+j*13+12,none⟩) d).trans (by have:=i 12 (by decide);rw[g] at this;exact this)
 have y1:W.cell? ⟨w.heap.size,1,none⟩=some (.string x.own):=za l 1 _ rfl;have y2:W.cell? ⟨w.heap.size,2,none⟩=some (int i64 x.name):=za l 2 _ rfl;have y3:W.cell? ⟨w.heap.size,3,none⟩=some (.slice m x.lgn o):=za l 3 _ rfl;have y4:W.cell? ⟨w.heap.size,4,none⟩=some (int i64 x.pe):=za l 4 _ rfl;have y5:W.cell? ⟨w.heap.size,5,none⟩=some (int i64 x.len):=za l 5 _ rfl;have y6:W.cell? ⟨w.heap.size,6,none⟩=some (int i64 x.hei):=za l 6 _ rfl;have y7:W.cell? ⟨w.heap.size,7,none⟩=some (int i64 x.cl):=za l 7 _ rfl;have y8:W.cell? ⟨w.heap.size,8,none⟩=some (.bool x.all):=za l 8 _ rfl;have y9:W.cell? ⟨w.heap.size,9,none⟩=some (int i64 x.be):=za l 9 _ rfl;have a0:W.cell? ⟨w.heap.size,10,none⟩=some (int i64 x.unt):=za l 10 _ rfl;have a1:W.cell? ⟨w.heap.size,11,none⟩=some (int i64 x.now):=za l 11 _ rfl;have F:4<W.heap.size:=World.block_lt_of_cell? W _ u;clear y J z G i g I hI K l;go_upto_region 3 with(go_at_call 193;refine(ZD _ _).mono ?_;rintro e w1 ⟨rfl,rfl⟩);have ew:IntKind.i64.wrap (j:Int)=(j:Int):=by rw[IntKind.wrap_i64];omega
 rw[← Q.out] at O;clear N H X B D;go_region_with (first|(go_at_call 196;refine(zkK x m o b q r _).mono ?_;rintro e w2 ⟨⟨v,rfl,M⟩,s⟩;obtain rfl:v=false:=Bool.eq_false_iff.2 (fun h=>R.out (M.1 h));clear M;have g5:w2.cell? ⟨4,0,none⟩=some (.iface 391 (.pointer (some (pe 4)))):=(s.cell (p:=⟨4,0,none⟩) (by simpa using F)).trans (by simpa using u))|(go_at_call 193;refine(zaD _ _ _).mono ?_;rintro e w3 ⟨rfl,rfl⟩;refine zhh (P:=Tryz.prog) (a:=⟨#[],[]⟩) (w:=w) ?_))
 all_goals exact⟨rfl,rfl,ze f.drew s⟩
/-- The operation is not good. -/
theorem zhi (x:OpD)(d:Option Addr)(f:Nat)(a:Option Addr)(n c:Nat)(w:World)(o:OpD.Is w [int i64 x.kind,.string x.own,int i64 x.name,.slice d x.lgn f,int i64 x.pe,int i64 x.len,int i64 x.hei,int i64 x.cl,.bool x.all,int i64 x.be,int i64 x.unt,int i64 x.now] x)(t:x.own.size<=1000000000000000)(l:Zm w)(pe:Nat->Addr)(m:qY w pe)(i:¬ zac x) :
  Calls Tryz.prog 106 #[.slice a n c,.agg #[int i64 x.kind,.string x.own,int i64 x.name,.slice d x.lgn f,int i64 x.pe,int i64 x.len,int i64 x.hei,int i64 x.cl,.bool x.all,int i64 x.be,int i64 x.unt,int i64 x.now]] w fun e w'=>e=.panicked [{ v:=.iface 96 (.agg #[.iface 391 (.pointer (some (pe 1)))]),recovered:=false }]/\Below w.heap.size w w':=by
 have b:Below w.heap.size w (w.alloc (.cells #[int i64 x.kind,.string x.own,int i64 x.name,.slice d x.lgn f,int i64 x.pe,int i64 x.len,int i64 x.hei,int i64 x.cl,.bool x.all,int i64 x.be,int i64 x.unt,int i64 x.now] 47)):=zk bZ _;have s:Hid (∀ w',Below w.heap.size w w'->OpD.Is w' [int i64 x.kind,.string x.own,int i64 x.name,.slice d x.lgn f,int i64 x.pe,int i64 x.len,int i64 x.hei,int i64 x.cl,.bool x.all,int i64 x.be,int i64 x.unt,int i64 x.now] x):=fun _ h=>o.below h
 have q:Hid (∀ w',Below w.heap.size w w'->Zm w'):=fun _ h=>l.below h
 have k:=(qY.below m b).c1;have r:Hid (decide (zac x)=false):=decide_eq_false i;clear o l m i;go_enter Tryz.func106,Tryz.ntmps106;go_upto_region 1 with fail;have j:1<(w.alloc (.cells #[int i64 x.kind,.string x.own,int i64 x.name,.slice d x.lgn f,int i64 x.pe,int i64 x.len,int i64 x.hei,int i64 x.cl,.bool x.all,int i64 x.be,int i64 x.unt,int i64 x.now] 47)).heap.size:=World.block_lt_of_cell? _ _ k;go_region_with (first|(go_at_call 194;refine(zdX [int i64 x.kind,.string x.own,int i64 x.name,.slice d x.lgn f,int i64 x.pe,int i64 x.len,int i64 x.hei,int i64 x.cl,.bool x.all,int i64 x.be,int i64 x.unt,int i64 x.now] x _ t (s.out _ b.drew) (q.out _ b.drew)).mono ?_;rw[r.out];rintro e u ⟨rfl,g⟩;have g5:u.cell? ⟨1,0,none⟩=some (.iface 391 (.pointer (some (pe 1)))):=(g.cell (p:=⟨1,0,none⟩) j).trans k)|(go_at_call 193;refine(zaD _ _ _).mono ?_;rintro e w3 ⟨rfl,rfl⟩;refine zhh (P:=Tryz.prog) (a:=⟨#[],[]⟩) (w:=w) ?_))
 all_goals exact⟨rfl,rfl,ze b.drew g⟩
end Go.Proofs.YtmdnjgihooflfaaGreatDoor
