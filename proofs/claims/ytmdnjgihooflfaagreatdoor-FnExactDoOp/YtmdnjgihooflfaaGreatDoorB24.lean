/-
  OWN TEXT: ImplS1, ImplS2, ImplS3, ImplT, FitI, NamedI, NamedK.
-/
import Derived.Test.YtmdnjgihooflfaaGreatDoorKitCo
import Derived.Deep.RegionWith
import Derived.BigQuiet
import Derived.Test.YtmdnjgihooflfaaGreatDoorB23
namespace Go.Proofs.YtmdnjgihooflfaaGreatDoor
open Go.RowKit
open Go.Value (int)
open Go.IntKind (i64)
open Tryz
set_option maxHeartbeats 64000000
set_option maxRecDepth 100000
theorem Qu (x:Int)(w:World) :
  Calls prog 232 #[x] w λe w'=>e=.returned (.bool (decide (In x 1 99)))/\w'=w:=by
 go_enter func232,ntmps232;go_wp2_with (first|(go_at_call 191;refine(zz _ _ _ _).mono ?_;rintro e w' ⟨rfl,rfl⟩))
 go_ret;exact⟨rfl,rfl⟩
theorem ZO (a b:ByteArray)(w:World)(i:a.size<=1000000000000000)(k:b.size<=1000000000000000) :
  Calls prog 233 #[a,b] w λe w'=>e=.returned (.bool (decide (zda a b)))/\w'=w:=by
 obtain⟨c,j⟩:∃ c,c=decide (zda a b):=⟨_,rfl⟩;rw[← j];have g:=hI j;clear j
 by_cases n1:Zg a
 ·have l:=Jd n1
  by_cases n2:Zg b
  ·have m:=Jd n2
   by_cases n3:a=b
   ·subst n3
    have n:(a.toList == a.toList)=true:=zet.2 rfl;have f:Hid (¬ zda a a):=λh=>h.2.2 rfl
    clear n1 n2;go_enter func233,ntmps233;go_wp2_with (first|(go_at_call 239;refine sC (Zi _ _ i) ?_))
    go_ret;exact⟨by rw[g.out,Jc f.out];rfl,rfl⟩
   ·have n:=zga.2 n3
    have f:Hid (zda a b):=⟨n1,n2,n3⟩;clear n1 n2 n3;go_enter func233,ntmps233;go_wp2_with fail;refine(Zi _ _ i).mono ?_;rintro e w' ⟨rfl,d⟩;have d:=d.symm;subst d;go_wp2_with fail;refine(Zi _ _ k).mono ?_;rintro e w' ⟨rfl,d⟩;have d:=d.symm;subst d;go_wp2;go_ret;exact⟨by rw[g.out,Jd f.out];rfl,rfl⟩
  ·have m:=Jc n2
   have f:Hid (¬ zda a b):=λh=>n2 h.2.1
   clear n1 n2;go_enter func233,ntmps233;go_wp2_with fail;refine(Zi _ _ i).mono ?_;rintro e w' ⟨rfl,d⟩;have d:=d.symm;subst d;go_wp2_with fail;refine(Zi _ _ k).mono ?_;rintro e w' ⟨rfl,d⟩;have d:=d.symm;subst d;go_wp2;go_ret;exact⟨by rw[g.out,Jc f.out];rfl,rfl⟩
 ·have l:=Jc n1
  have f:Hid (¬ zda a b):=λh=>n1 h.1
  clear n1;go_enter func233,ntmps233;go_wp2_with fail;refine(Zi _ _ i).mono ?_;rintro e w' ⟨rfl,d⟩;have d:=d.symm;subst d;go_wp2;go_ret;exact⟨by rw[g.out,Jc f.out];rfl,rfl⟩
section
open Go.RowKit
end
theorem zaG (x d a mo:Int)(fr tt:ByteArray)(lo r:Option Addr)(n m c1 c2:Nat)(j k:zH)(w:World)(E:j.n=n)(F:k.n=m)(c:fr.size<=1000000000000000)(f:tt.size<=1000000000000000)(N:n<=1048576)(M:m<=1048576)(O:zG w lo j)(P:zG w r k) :
  Calls prog 177 #[.agg #[x,fr,tt,d,a,(lo,n,c1),(r,m,c2),mo]] w λe w'=>qX (Zf ⟨x,fr,tt,d,a,j,k,mo⟩) e/\Below w.heap.size w w':=by
 have b:Below _ w (w.alloc (.cells #[x,fr,tt,d,a,(lo,n,c1),(r,m,c2),mo] 140)):=zk bZ _;have B:=Jb w (.cells #[x,fr,tt,d,a,(lo,n,c1),(r,m,c2),mo] 140);have H:=hI E;have I:=hI F;clear E F
 by_cases g1:In x 1 99
 case neg =>
  have u:=by exact Jc g1
  have g:Hid (¬ Zf ⟨x,fr,tt,d,a,j,k,mo⟩):=λh=>g1 h.1
  clear g1;go_enter func177,ntmps177;go_wp2_with (first|(go_at_call 232;refine sC (Qu _ _) ?_)|(go_at_call 233;refine sC (ZO _ _ _ c f) ?_)|(go_at_call 191;refine sC (zz _ _ _ _) ?_))
  go_ret;exact⟨zl g,b⟩
 have u:=by exact Jd g1
 by_cases g2:zda fr tt
 case neg =>
  have v:=by exact Jc g2
  have g:Hid (¬ Zf ⟨x,fr,tt,d,a,j,k,mo⟩):=λh=>g2 ⟨h.2.1,h.2.2.1,h.2.2.2.1⟩
  clear g1 g2;go_enter func177,ntmps177;go_wp2_with (first|(go_at_call 232;refine sC (Qu _ _) ?_)|(go_at_call 233;refine sC (ZO _ _ _ c f) ?_)|(go_at_call 191;refine sC (zz _ _ _ _) ?_))
  go_ret;exact⟨zl g,b⟩
 have v:=by exact Jd g2
 by_cases g3:0<=d
 case neg =>
  have y:decide (0<=d)=false:=by simpa using g3
  have g:Hid (¬ Zf ⟨x,fr,tt,d,a,j,k,mo⟩):=λh=>g3 h.2.2.2.2.1
  clear g1 g2 g3;go_enter func177,ntmps177;go_wp2_with (first|(go_at_call 232;refine sC (Qu _ _) ?_)|(go_at_call 233;refine sC (ZO _ _ _ c f) ?_)|(go_at_call 191;refine sC (zz _ _ _ _) ?_))
  go_ret;exact⟨zl g,b⟩
 have y:decide (0<=d)=true:=by simpa using g3
 by_cases g4:d<a
 case neg =>
  have z:decide (d<a)=false:=by simpa using g4
  have g:Hid (¬ Zf ⟨x,fr,tt,d,a,j,k,mo⟩):=λh=>g4 h.2.2.2.2.2.1
  clear g1 g2 g3 g4;go_enter func177,ntmps177;go_wp2_with (first|(go_at_call 232;refine sC (Qu _ _) ?_)|(go_at_call 233;refine sC (ZO _ _ _ c f) ?_)|(go_at_call 191;refine sC (zz _ _ _ _) ?_))
  go_ret;exact⟨zl g,b⟩
 have z:decide (d<a)=true:=by simpa using g4
 by_cases g5:a<=10000
 case neg =>
  have A:decide (a<=10000)=false:=by simpa using g5
  have g:Hid (¬ Zf ⟨x,fr,tt,d,a,j,k,mo⟩):=λh=>g5 h.2.2.2.2.2.2.1
  clear g1 g2 g3 g4 g5;go_enter func177,ntmps177;go_wp2_with (first|(go_at_call 232;refine sC (Qu _ _) ?_)|(go_at_call 233;refine sC (ZO _ _ _ c f) ?_)|(go_at_call 191;refine sC (zz _ _ _ _) ?_))
  go_ret;exact⟨zl g,b⟩
 have A:decide (a<=10000)=true:=by simpa using g5
 have l:Hid (_/\_/\_/\_/\_):=⟨g1,g2,g3,g4,g5⟩;clear g1 g2 g3 g4 g5;go_enter func177,ntmps177;go_wp2_with (first|(go_at_call 232;refine sC (Qu _ _) ?_)|(go_at_call 233;refine sC (ZO _ _ _ c f) ?_)|(go_at_call 191;refine sC (zz _ _ _ _) ?_))
 refine(zeD lo n c1 j _ H N (O.below b)).mono ?_;rintro e w1 ⟨⟨J,rfl,i1⟩,o⟩;have s:=zb B o;have i:=ze b o;have C:=hI i1;clear i1 B b o
 cases J with
 | false =>
  go_wp2;go_ret;exact⟨zl (λh=>by have:=C.2 h.2.2.2.2.2.2.2.1;cases this),i⟩
 | true =>
  have Q:=za s 6 _ rfl;go_wp2_with fail;refine(zef r m c2 k _ I M (P.below i)).mono ?_;rintro e w2 ⟨⟨K,rfl,i2⟩,p⟩;have G:=zb s p;have q:=ze i p;have D:=hI i2;clear i2 s i p Q
  cases K with
  | false =>
   go_wp2;go_ret;exact⟨zl (λh=>by have:=D.2 h.2.2.2.2.2.2.2.2.1;cases this),q⟩
  | true =>
   have q7:=za G 7 _ rfl
   by_cases g8:In mo 0 500
   ·have L:=Jd g8
    have t:=hI g8;clear g8;go_wp2_with (first|(go_at_call 232;refine sC (Qu _ _) ?_)|(go_at_call 233;refine sC (ZO _ _ _ c f) ?_)|(go_at_call 191;refine sC (zz _ _ _ _) ?_))
    go_ret;exact⟨zR ⟨l.1,l.2.1.1,l.2.1.2.1,l.2.1.2.2,l.2.2.1,l.2.2.2.1,l.2.2.2.2,C.1 (by simp),D.1 (by simp),t⟩,q⟩
   ·have L:=Jc g8
    have t:=hI g8;clear g8;go_wp2_with (first|(go_at_call 232;refine sC (Qu _ _) ?_)|(go_at_call 233;refine sC (ZO _ _ _ c f) ?_)|(go_at_call 191;refine sC (zz _ _ _ _) ?_))
    go_ret;exact⟨zl (λh=>t h.2.2.2.2.2.2.2.2.2),q⟩
theorem zhf (E:Option Addr)(N c:Nat)(S:Nat->Zj)(w:World)(hN:N<=1048576)(Q:QL N S 1048576)(T:qB w E N S) :
  Calls prog 97 #[(E,N,c)] w λe w'=>qX (QJ N S) e/\Below w.heap.size w w':=by
 have X:=hI Q;clear Q
 by_cases h6:N<=6
 ·have K:decide (6<N)=false:=by simp;omega
  go_enter func97,ntmps97;go_wp2;go_loopw [3,4,10] (λ_ _ i wr=>∃ k,k<=N/\i=int i64 k/\(∀ j,j<k->Zf (S j)/\(0<j->(S (j - 1)).id<(S j).id))/\Below w.heap.size w wr) (λ_ _ i _=>N - (intOf i).toNat)
  case atStart=>exact⟨0,Jq _,rfl,λj hj=>by omega,bZ⟩
  case round =>
   obtain⟨k,hk,rfl,s,d⟩:=hrel;have H:=hI s;clear s K
   by_cases hlt:k<N
   ·have I:Hid (0<k->∀ b off,E=some ⟨b,off,none⟩->w.cell? ⟨b,off+(k - 1)*8,none⟩=some (int i64 (S (k - 1)).id)):=by
     intro h b off e;obtain⟨b',V,_,_,_,_,F,g,_⟩:=T (k - 1) (by omega)
     rw[e] at F;simp only[Option.some.injEq,Addr.mk.injEq,and_true] at F;obtain⟨rfl,rfl⟩:=F;exact g
    obtain⟨b,off,la,U,ca,J,rfl,L,h1,h2,h3,M,O,y,P,h8,h9,_,_⟩:=T k hlt;have C:=hI (λh=>I h b off rfl)
    clear I;have n:=Ja w _ h1;have Y:=(d.cell (p:=⟨b,off+_,_⟩) n).trans L;have c1:=(d.cell n).trans h1;have c2:=(d.cell (p:=⟨b,_+2,_⟩) n).trans h2;have c3:=(d.cell (p:=⟨b,_+3,_⟩) n).trans h3;have c4:=(d.cell (p:=⟨b,_+4,_⟩) n).trans M;have c5:=(d.cell (p:=⟨b,_+5,_⟩) n).trans O;have c6:=(d.cell (p:=⟨b,_+6,_⟩) n).trans y;have c7:=(d.cell (p:=⟨b,_+7,_⟩) n).trans P;obtain⟨s1,s2,z,A⟩:=X k hlt;have o:(S k).fr.size<=1000000000000000:=by omega
    have q:(S k).dst.size<=1000000000000000:=by omega
    clear s1 s2;have f:=zk d (.cells (S k,la,U,ca,J) 140);have a:=Jb wr (.cells (S k,la,U,ca,J) 140);clear L h1 h2 h3 M O y P;go_upto_region 6 with fail;generalize hW:wr.alloc _=W at f a ⊢;clear hW;have l:=zM a;have z0:∀ g:zn W,_:=λg=>(g.bel.cell l).trans (za a 0 _ rfl)
    have z1:∀ g:zn W,_:=λg=>(g.bel.cell l).trans (za a 1 _ rfl)
    have z2:∀ g:zn W,_:=λg=>(g.bel.cell l).trans (za a 2 _ rfl)
    have z3:∀ g:zn W,_:=λg=>(g.bel.cell l).trans (za a 3 _ rfl)
    have z4:∀ g:zn W,_:=λg=>(g.bel.cell l).trans (za a 4 _ rfl)
    have z5:∀ g:zn W,_:=λg=>(g.bel.cell l).trans (za a 5 _ rfl)
    have z6:∀ g:zn W,_:=λg=>(g.bel.cell l).trans (za a 6 _ rfl)
    have z7:∀ g:zn W,_:=λg=>(g.bel.cell l).trans (za a 7 _ rfl)
    have a0:b<W.heap.size:=Nat.lt_of_lt_of_le n f.size;clear Y c1 c2 c3 c4 c5 c6 c7 a;go_cut [10,32] (λi c wx=>i=int i64 k/\zll (Zf (S k)/\(0<k->(S (k - 1)).id<(S k).id)) c/\Below w.heap.size w wx)
    case first =>
     by_cases hg:Zf (S k)
     ·have r:=hI hg
      clear hg
      by_cases k0:k=0
      ·subst k0
       refine zh (by kernel_rfl) (by kernel_rfl) ?_
       repeat(first|go_big_quiet_skip|(go_big_quiet_want;go_big_quiet_op;first|go_big_quiet_on|(apply Jg;refine⟨λg=>?_,?_⟩;(focus(go_at_call 177;refine zf (v:=.bool true) ((zaG _ _ _ _ _ _ _ _ _ _ _ _ _ _ _ rfl rfl o q z A (h8.below (ze f g.bel)) (h9.below (ze f g.bel))).mono ?_);rintro e G ⟨⟨bb,rfl,x⟩,m⟩;obtain rfl:=x.2 r;exact⟨rfl,m⟩));go_big_quiet_on)))
       refine Jl ?_;rintro _ ⟨g,rfl⟩;go_wp2;go_meet;exact⟨rfl,Q5 ⟨r,λh=>by omega⟩,ze f g.bel⟩
      ·have d0:decide (0<k)=true:=by simp;omega
       have a1:((k:Int) - 1).toNat=k - 1:=by omega
       have a2:(k:Int) - 1<(N:Int):=by omega
       have a3:(0:Int)<=(k:Int) - 1:=by omega
       have a4:IntKind.i64.wrap ((k:Int) - 1)=(k:Int) - 1:=by rw[Jk];omega
       have y0:∀ g:zn W,_:=λg=>((ze f g.bel).cell (p:=⟨b,off+_,_⟩) n).trans (C (by omega))
       by_cases hle:(S k).id<=(S (k - 1)).id
       ·have Z:decide ((S k).id<=(S (k - 1)).id)=true:=by simpa using hle
        refine zh (by kernel_rfl) (by kernel_rfl) ?_
        repeat(first|go_big_quiet_skip|(go_big_quiet_want;go_big_quiet_op;first|go_big_quiet_on|(apply Jg;refine⟨λg=>?_,?_⟩;(focus(go_at_call 177;refine zf (v:=.bool true) ((zaG _ _ _ _ _ _ _ _ _ _ _ _ _ _ _ rfl rfl o q z A (h8.below (ze f g.bel)) (h9.below (ze f g.bel))).mono ?_);rintro e G ⟨⟨bb,rfl,x⟩,m⟩;obtain rfl:=x.2 r;exact⟨rfl,m⟩));go_big_quiet_on)))
        refine Jl ?_;rintro _ ⟨g,rfl⟩;go_wp2;go_meet;exact⟨rfl,QP (λh=>by have:=h.2 (by omega);omega),ze f g.bel⟩
       ·have Z:decide ((S k).id<=(S (k - 1)).id)=false:=by simpa using hle
        refine zh (by kernel_rfl) (by kernel_rfl) ?_
        repeat(first|go_big_quiet_skip|(go_big_quiet_want;go_big_quiet_op;first|go_big_quiet_on|(apply Jg;refine⟨λg=>?_,?_⟩;(focus(go_at_call 177;refine zf (v:=.bool true) ((zaG _ _ _ _ _ _ _ _ _ _ _ _ _ _ _ rfl rfl o q z A (h8.below (ze f g.bel)) (h9.below (ze f g.bel))).mono ?_);rintro e G ⟨⟨bb,rfl,x⟩,m⟩;obtain rfl:=x.2 r;exact⟨rfl,m⟩));go_big_quiet_on)))
        refine Jl ?_;rintro _ ⟨g,rfl⟩;go_wp2;go_meet;exact⟨rfl,Q5 ⟨r,λ_=>by omega⟩,ze f g.bel⟩
     ·have r:=hI hg
      clear hg;refine zh (by kernel_rfl) (by kernel_rfl) ?_
      repeat(first|go_big_quiet_skip|(go_big_quiet_want;go_big_quiet_op;first|go_big_quiet_on|(apply Jg;refine⟨λg=>?_,?_⟩;(focus(go_at_call 177;refine zf (v:=.bool false) ((zaG _ _ _ _ _ _ _ _ _ _ _ _ _ _ _ rfl rfl o q z A (h8.below (ze f g.bel)) (h9.below (ze f g.bel))).mono ?_);rintro e G ⟨⟨bb,rfl,x⟩,m⟩;obtain rfl:=Bool.eq_false_iff.2 (λe=>r (x.1 e));exact⟨rfl,m⟩));go_big_quiet_on)))
      refine Jl ?_;rintro _ ⟨g,rfl⟩;go_wp2;go_meet;exact⟨rfl,QP (λh=>r h.1),ze f g.bel⟩
    case rest =>
     obtain⟨rfl,⟨t,rfl,R⟩,u⟩:=hcut;have D:=hI R;clear R z0 z1 z2 z3 z4 z5 z6 z7
     cases t with
     | true =>
      go_wp2;go_ret;exact⟨zl (λh=>by have:=D.2 (h.2 k hlt);cases this),u⟩
     | false =>
      have B:=D.1 rfl;have B:=hI B;clear D;go_wp2;go_roundw
      case rel=>exact⟨k+1,by omega,by go_num,λj hj=>by
       by_cases e:j=k
       ·subst e;exact B
       ·exact H j (by omega),u⟩
      case measure=>simp[intOf];omega
   ·obtain rfl:k=N:=by omega
    go_wp2;go_ret;exact⟨zR ⟨h6,H⟩,d⟩
 ·have K:decide (6<N)=true:=by simp;omega
  go_enter func97,ntmps97;go_wp2;go_ret;exact⟨zl (λh=>h6 h.1),bZ⟩
def WayIs (N:Nat)(S:Nat->Zj)(G:Nat->Int)(w:World)(B k:Nat):Prop :=
 ∃ la lc ls pl t,w.heap[B]?=some (.cells #[.slice la k lc,.string pl,int i64 t] 329 (0,0))/\ls.length=k/\zT w la k (getI ls)/\(la=none->k=0/\lc=0) /\
  (0<k->pl=(S (zW S (G (k - 1)) N)).dst/\t=(S (zW S (G (k - 1)) N)).arr)
theorem Q0 (ao bo:Option Addr)(N n c c':Nat)(S:Nat->Zj)(G:Nat->Int)(w:World)(hN:N<=1048576)(hn:n<=1048576)(hs:QL N S 1048576)(hx:qB w ao N S)(hy:zT w bo n G) :
  Calls prog 195 #[.slice ao N c,.slice bo n c'] w λe w'=>qX (QJ N S/\zad N S n G) e/\Below w.heap.size w w':=by
 have HS:=hI hs;clear hs;go_enter func195,ntmps195;go_wp2_with fail;refine(zhf ao N c S _ hN HS.out hx).mono ?_;rintro e V ⟨⟨b1,rfl,D⟩,z⟩
 cases b1 with
 | false =>
  have HN:Hid (¬ _):=λh=>by have:=D.2 h;cases this
  clear D;go_wp2;go_ret;exact⟨zl (λh=>HN.out h.1),z⟩
 | true =>
  have HT:=hI (D.1 rfl);clear D
  by_cases g3:In (n:Int) 1 3
  case neg =>
   have d3:=Jc g3;have HN:Hid (¬ zad N S n G):=λh=>g3 ⟨by have:=h.1;omega,by have:=h.2.1;omega⟩
   clear g3;go_wp2_with (first|(go_at_call 191;refine sC (zz _ _ _ _) ?_))
   go_ret;exact⟨zl (λh=>HN.out h.2),z⟩
  have d3:=Jd g3;have H3:Hid (1<=n/\n<=3):=⟨by have:=g3.1;omega,by have:=g3.2;omega⟩
  have b3:=H3.out.2;clear g3;go_wp2_with (first|(go_at_call 191;refine sC (zz _ _ _ _) ?_))
  have Z:Below _ w (V.alloc (.cells #[.slice none 0 0,.string ⟨#[]⟩,int i64 0] 329)):=zk z _;have H:=Jb V (.cells #[.slice none 0 0,.string ⟨#[]⟩,int i64 0] 329);have hB:=z.size;go_loopw [6,7,8,9,21] (λ_ _ _ _ i wr=>∃ k,k<=n/\i=int i64 k/\(∀ j,j<k->zkh N S G j)/\WayIs N S G wr V.heap.size k/\Below w.heap.size w wr) (λ_ _ _ _ i _=>n - (intOf i).toNat)
  case atStart=>exact⟨0,Jq _,rfl,λj hj=>by omega,⟨_,0,[],_,0,H,rfl,λk hk=>by omega,λ_=>⟨rfl,rfl⟩,λh=>by omega⟩,Z⟩
  case round =>
   clear Z H d3 z;obtain⟨k,hk,rfl,F,J,q⟩:=hrel;have HA:=hI F;have HW:=hI J;clear F J
   by_cases hlt:k<n
   ·obtain⟨qb,a9,rfl,hq⟩:=hy k hlt
    have a8:=Ja w _ hq;have p0:=(q.cell a8).trans hq;clear hq;go_wp2_with fail;refine(zaF ao N c S _ _ hN (hx.below q)).mono ?_;rintro e s ⟨hr,C⟩;obtain⟨la,lc,ls,pl,t,f,a1,m,a7,I⟩:=HW.out;have f:=zb f C;have m:=m.below C;have d:=ze q C;have M:=hI a1;have W:=hI I;clear a1 I C q p0 HW
    rcases hr with⟨R,rfl⟩|⟨R,rfl⟩
    ·obtain⟨x,T⟩:∃ x,x=zW S (G k) N:=⟨_,rfl⟩
     rw[← T] at R ⊢;have X:=hI T;clear T;have x1:(x:Int)<(N:Int):=by omega
     have x0:(0:Int)<=(x:Int):=by omega
     obtain⟨L,a3,b6,b7,b4,b5,rfl,h0,h1,h2,h3,h4,h5,h6,h7,_,_,_,_⟩:=hx x R;have o:=Ja w _ h1;have b:L<s.heap.size:=Nat.lt_of_lt_of_le o d.size;have s0:=(d.cell (p:=⟨L,a3+_,_⟩) o).trans h0;have s1:=(d.cell o).trans h1;have s2:=(d.cell (p:=⟨L,_+2,_⟩) o).trans h2;have s3:=(d.cell (p:=⟨L,_+3,_⟩) o).trans h3;have s4:=(d.cell (p:=⟨L,_+4,_⟩) o).trans h4;have s5:=(d.cell (p:=⟨L,_+5,_⟩) o).trans h5;have s6:=(d.cell (p:=⟨L,_+6,_⟩) o).trans h6;have s7:=(d.cell (p:=⟨L,_+7,_⟩) o).trans h7;clear h0 h1 h2 h3 h4 h5 h6 h7;have P:=zM f;have g0:∀ g:zn s,g.val.cell? _=some (.slice la k lc):=λg=>(g.bel.cell P).trans (za f 0 _ rfl)
     have g1:∀ g:zn s,g.val.cell? _=some (.string pl):=λg=>(g.bel.cell P).trans (za f 1 _ rfl)
     have g2:∀ g:zn s,g.val.cell? _=some (.int _ t):=λg=>(g.bel.cell P).trans (za f 2 _ rfl)
     have r0:∀ g:zn s,_:=λg=>(g.bel.cell b).trans s0
     have r1:∀ g:zn s,_:=λg=>(g.bel.cell b).trans s1
     have r2:∀ g:zn s,_:=λg=>(g.bel.cell b).trans s2
     have r3:∀ g:zn s,_:=λg=>(g.bel.cell b).trans s3
     have r4:∀ g:zn s,_:=λg=>(g.bel.cell b).trans s4
     have r5:∀ g:zn s,_:=λg=>(g.bel.cell b).trans s5
     have r6:∀ g:zn s,_:=λg=>(g.bel.cell b).trans s6
     have r7:∀ g:zn s,_:=λg=>(g.bel.cell b).trans s7
     go_upto_region 8 with fail;go_cut [8,21,46] (λj i v wx=>j=int i64 x/\i=int i64 k/\zll (zkh N S G k) v/\Below s.heap.size s wx)
     case first =>
      by_cases k0:k=0
      ·subst k0
       refine zh (by kernel_rfl) (by kernel_rfl) ?_
       repeat(first|go_big_quiet_skip|(go_big_quiet_want;go_big_quiet_op;go_big_quiet_on))
       refine Jl ?_;rintro _ ⟨g,rfl⟩;go_wp2;go_meet;exact⟨rfl,rfl,Q5 ⟨by rw[← X.out];exact R,λh=>by omega⟩,g.bel⟩
      ·have d0:decide (0<k)=true:=by simp;omega
       by_cases u:zic pl t (S x).fr (S x).dep=true
       ·refine zh (by kernel_rfl) (by kernel_rfl) ?_
        repeat(first|go_big_quiet_skip|(go_big_quiet_want;go_big_quiet_op;first|go_big_quiet_on|(apply Jg;refine⟨λg=>?_,?_⟩;(focus(go_at_call 247;refine zf (v:=.bool true) ((zid _ _ _ _ _ _ _ _ _ _ _ _ _ _ _ _ _ _).mono ?_);rintro e w4 ⟨rfl,Q⟩;exact⟨by rw[u],Q⟩));go_big_quiet_on)))
        refine Jl ?_;rintro _ ⟨g,rfl⟩;go_wp2;go_meet;exact⟨rfl,rfl,Q5 ⟨by rw[← X.out];exact R,λh=>by
         have h1:=zcC.1 u;have h2:=W.out h;rw[← X.out];exact⟨by rw[← h2.1];exact h1.1.symm,by rw[← h2.2];exact h1.2⟩⟩,g.bel⟩
       ·have u:=Bool.eq_false_iff.2 u
        refine zh (by kernel_rfl) (by kernel_rfl) ?_
        repeat(first|go_big_quiet_skip|(go_big_quiet_want;go_big_quiet_op;first|go_big_quiet_on|(apply Jg;refine⟨λg=>?_,?_⟩;(focus(go_at_call 247;refine zf (v:=.bool false) ((zid _ _ _ _ _ _ _ _ _ _ _ _ _ _ _ _ _ _).mono ?_);rintro e w4 ⟨rfl,Q⟩;exact⟨by rw[u],Q⟩));go_big_quiet_on)))
        refine Jl ?_;rintro _ ⟨g,rfl⟩;go_wp2;go_meet;exact⟨rfl,rfl,QP (λh=>by
         have h1:=h.2 (by omega)
         have h2:=W.out (by omega)
         rw[← X.out] at h1;have h3:=zcC.2 (show(S x).fr=pl/\t<=_ from ⟨by rw[h2.1];exact h1.1.symm,by rw[h2.2];exact h1.2⟩)
         rw[u] at h3;cases h3),g.bel⟩
     case rest =>
      clear g0 g1 g2 r0 r1 r2 r3 r4 r5 r6 r7;obtain⟨rfl,rfl,⟨tb,rfl,ht⟩,l⟩:=hcut;have O:=hI ht;clear ht;obtain⟨w3,a6⟩:∃ y,y=wc:=⟨_,rfl⟩;subst a6;have A:=ze d l
      cases tb with
      | true =>
       clear s0 s1 s2 s3 s4 s5 s6 s7;go_wp2;go_ret;exact⟨zl (λh=>by have:=O.out.2 (h.2.2.2 k hlt);cases this),A⟩
      | false =>
       have HK:=hI (O.out.1 rfl);clear O;have r:=zb f l;have s0:=(l.cell b).trans s0;have s1:=(l.cell b).trans s1;have s2:=(l.cell b).trans s2;have s3:=(l.cell b).trans s3;have s4:=(l.cell b).trans s4;have s5:=(l.cell b).trans s5;have s6:=(l.cell b).trans s6;have s7:=(l.cell b).trans s7;obtain⟨b0,b1,b2⟩:=ce3 r;have E:=(m.below l).below (Ji _ w3).drew;have B:=hI r;clear f r m;go_upto_region 10 with fail;go_region_with (first|(go_at_call 248;refine Jm (with_any la k lc ls pl t _ _ _ _ _ _ _ _ _ _ _ _ _ M.out ?_ E a7) ?_;(focus omega);rintro e w5 ⟨Y,c5,rfl,a2,a0⟩;have U:=zb B.out a0;have o0:=za U 0 _ rfl;have o1:=za U 1 _ rfl;have o2:=za U 2 _ rfl;have f0:=zg U 0;have f1:=zg U 1;have f2:=zg U 2))
       all_goals
        have a4:Hid _:=a2;clear a2;go_wp2;go_roundw
        case rel =>
         refine⟨k+1,by omega,by go_num,λj hj=>?_,?_,?_⟩
         ·by_cases e:j=k
          ·subst e;exact HK.out
          ·exact HA.out j (by omega)
         ·have K:=ZW (ZW (ZW a4.out (a:=⟨V.heap.size,0,none⟩) (zM B.out) (.slice Y (k+1) c5)) (a:=⟨V.heap.size,1,none⟩) (zM B.out) (.string (S x).dst)) (a:=⟨V.heap.size,2,none⟩) (zM B.out) (int i64 (S x).arr)
          obtain⟨_,_,e5,_,_,a5⟩:=zp K;simp only[Value.slice.injEq,true_and] at e5;obtain⟨rfl,rfl⟩:=e5;exact⟨Y,c5,_,_,_,zm (zm (zm U 0 _) 1 _) 2 _,by rw[List.length_append,M.out];rfl,own_legs (by rw[List.length_append,M.out];rfl) K,λh=>absurd (a5 h).1 (by omega),λ_=>by
           rw[Nat.add_sub_cancel,← X.out];exact⟨rfl,rfl⟩⟩
         ·exact(((ze A.drew a0).setCell hB _).setCell hB _).setCell hB _
        case measure=>simp[intOf];omega
    ·have HF:=hI R
     clear R;go_upto_region 8 with fail;refine zh (by kernel_rfl) (by kernel_rfl) ?_
     repeat(first|go_big_quiet_skip|(go_big_quiet_want;go_big_quiet_op;go_big_quiet_on))
     refine Jl ?_;rintro _ ⟨g,rfl⟩;go_wp2;go_ret;exact⟨zl (λh=>by have:=(h.2.2.2 k hlt).1;have:=HF.out;omega),ze d g.bel⟩
   ·obtain rfl:k=n:=by omega
    go_wp2;go_ret;exact⟨zR ⟨HT.out,H3.out.1,H3.out.2,HA.out⟩,q⟩
/-- The operation names no booking. -/
theorem zhg (x:OpD)(d:Option Addr)(f:Nat)(a:Option Addr)(n c:Nat)(k:Nat)(w:World)(g:Zm w)(l:x.kind=(k:Int))(h:k<10)(j:zaS k=false) :
  Calls prog 107 #[(a,n,c),.agg (x,d,f)] w λe w'=>e=.returned (.tuple #[])/\Below w.heap.size w w':=by
 have i:=Jb w (.cells (x,d,f) 47);have b:Below _ w (w.alloc (.cells (x,d,f) 47)):=zk bZ _;have p:(w.alloc _).cell? _=some (.bool false):=(b.cell g.lt).trans (by rw[← j];exact(g k h).2.1)
 have q:(w.alloc (.cells (x,d,f) 47)).cell? (w.heap.size,0)=some (k:Int):=by rw[← l];exact za i 0 _ rfl
 have m:(0:Int)<=(k:Int):=by omega
 have o:(k:Int)<10:=by omega
 clear l;go_enter func107,ntmps107;go_upto_region 1 with fail;generalize w.alloc _=W at i b p q ⊢;clear g j;go_wp2;exact Jj (by simp[results,results107,go_sem]) rfl ⟨rfl,b⟩
/-- It names one that isn't there. -/
theorem zhE (x:OpD)(d:Option Addr)(f:Nat)(a:Option Addr)(n c:Nat)(k:Nat)(w:World)(h:Zm w)(o:x.kind=(k:Int))(i:k<10)(j:zaS k=true)(pe:Nat->Addr)(l:qY w pe)(m:¬ x.name<=(n:Int)) :
  Calls prog 107 #[(a,n,c),.agg (x,d,f)] w λe w'=>e=.panicked [{ v:=.iface 96 (.agg #[.iface 391 (.pointer (some (pe 3)))]),recovered:=false }]/\Below w.heap.size w w':=by
 have g:=Jb w (.cells (x,d,f) 47);have b:Below _ w (w.alloc (.cells (x,d,f) 47)):=zk bZ _;have s:(w.alloc _).cell? _=some (.bool true):=(b.cell h.lt).trans (by rw[← j];exact(h k i).2.1)
 have t:(w.alloc (.cells (x,d,f) 47)).cell? (w.heap.size,0)=some (k:Int):=by rw[← o];exact za g 0 _ rfl
 have q:(0:Int)<=(k:Int):=by omega
 have r:(k:Int)<10:=by omega
 have u:(w.alloc _).cell? _=some (.int _ _):=za g 2 _ rfl;have p:=(qY.below l b).c3;have ef:=Jc m;clear o;go_enter func107,ntmps107;go_upto_region 1 with fail;generalize w.alloc _=W at g b s t u p ⊢;clear h j m l;go_wp2_with (go_at_call 193;refine(zaD _ _ _).mono ?_;rintro e w1 ⟨rfl,rfl⟩);exact⟨rfl,rfl,b⟩
theorem zhh {G:Prop}{P:Program}{a:Act}{w:World}(h:wpAny P .any #[] (λ_ _ _=>G) 0 #[] a w):G:=h.2
/-- It names one whose state bars it. -/
theorem zhF (x:OpD)(m:Option Addr)(o:Nat)(a:Option Addr)(n c:Nat)(k:Nat)(w:World)(y:Zm w)(A:x.kind=(k:Int))(E:k<10)(J:zaS k=true)(pe:Nat->Addr)(z:qY w pe)(S:Nat->ql)(hz:qO w a n S)(hn:n<=1048576)(j:Nat)(L:x.name=(j:Int)+1)(t:j<n)(G:¬ zeo x.kind (S j) x.now) :
  Calls prog 107 #[(a,n,c),.agg (x,m,o)] w λe w'=>e=.panicked [{ v:=.iface 96 (.agg #[.iface 391 (.pointer (some (pe 4)))]),recovered:=false }]/\Below w.heap.size w w':=by
 have l:=Jb w (.cells (x,m,o) 47);have f:Below _ w (w.alloc (.cells (x,m,o) 47)):=zk bZ _;have N:(w.alloc _).cell? _=some (.bool true):=(f.cell y.lt).trans (by rw[← J];exact(y k E).2.1)
 have O:(w.alloc (.cells (x,m,o) 47)).cell? (w.heap.size,0)=some (k:Int):=by rw[← A];exact za l 0 _ rfl
 have B:(0:Int)<=(k:Int):=by omega
 have D:(k:Int)<10:=by omega
 obtain⟨C,I,hI⟩:=hz;obtain⟨bb,bo,rfl,i⟩:=I j t;obtain⟨q,r,g,_,_⟩:=hI j t;obtain⟨b,K⟩:∃ b,b=S j:=⟨_,rfl⟩;rw[← K] at g G;have R:=hI G;have d:bb<w.heap.size:=Ja w _ (i 0 (by decide))
 have H:=(qY.below z f).c3;have u:=(qY.below z f).c4;have X:decide (x.name<=(n:Int))=true:=Jd (by omega)
 have ej:x.name - 1=(j:Int):=by omega
 have Y:1<=x.name:=by omega
 have Z:x.name<=1048576:=by omega
 have HJ:Hid _:=L;have Q:Hid _:=A;clear A L;go_enter func107,ntmps107;go_upto_region 1 with fail;generalize w.alloc _=W at l f N O H u ⊢;have c0:W.cell? _=some (.int _ _):=(f.cell (p:=⟨bb,bo+_,_⟩) d).trans (by have:=i 0 (by decide);rw[g] at this;exact this)
 have c1:W.cell? _=some (.int _ _):=(f.cell d).trans (by have:=i 1 (by decide);rw[g] at this;exact this)
 have c2:W.cell? _=some (.string _):=(f.cell d).trans (by have:=i 2 (by decide);rw[g] at this;exact this)
 have c3:W.cell? _=some (.slice q _ r):=(f.cell d).trans (by have:=i 3 (by decide);rw[g] at this;exact this)
 have c4:W.cell? _=some (.int _ _):=(f.cell d).trans (by have:=i 4 (by decide);rw[g] at this;exact this)
 have c5:W.cell? _=some (.int _ _):=(f.cell d).trans (by have:=i 5 (by decide);rw[g] at this;exact this)
 have c6:W.cell? _=some (.int _ _):=(f.cell d).trans (by have:=i 6 (by decide);rw[g] at this;exact this)
 have c7:W.cell? _=some (.int _ _):=(f.cell d).trans (by have:=i 7 (by decide);rw[g] at this;exact this)
 have c8:W.cell? _=some (.bool _):=(f.cell d).trans (by have:=i 8 (by decide);rw[g] at this;exact this)
 have c9:W.cell? _=some (.int _ _):=(f.cell d).trans (by have:=i 9 (by decide);rw[g] at this;exact this)
 have T:W.cell? _=some (.int _ _):=(f.cell d).trans (by have:=i 10 (by decide);rw[g] at this;exact this)
 have U:W.cell? _=some (.int _ _):=(f.cell d).trans (by have:=i 11 (by decide);rw[g] at this;exact this)
 have V:W.cell? _=some (.int _ _):=(f.cell d).trans (by have:=i 12 (by decide);rw[g] at this;exact this)
 have y1:W.cell? _=some (.string _):=za l 1 _ rfl;have y2:W.cell? _=some (.int _ _):=za l 2 _ rfl;have y3:W.cell? _=some (.slice m _ o):=za l 3 _ rfl;have y4:W.cell? _=some (.int _ _):=za l 4 _ rfl;have y5:W.cell? _=some (.int _ _):=za l 5 _ rfl;have y6:W.cell? _=some (.int _ _):=za l 6 _ rfl;have y7:W.cell? _=some (.int _ _):=za l 7 _ rfl;have y8:W.cell? _=some (.bool _):=za l 8 _ rfl;have y9:W.cell? _=some (.int _ _):=za l 9 _ rfl;have a0:W.cell? _=some (.int _ _):=za l 10 _ rfl;have a1:W.cell? _=some (.int _ _):=za l 11 _ rfl;have F:4<W.heap.size:=Ja W _ u;clear y J z G i g I hI K l;go_upto_region 3 with(go_at_call 193;refine(ZD _ _).mono ?_;rintro e w1 ⟨rfl,rfl⟩);have ew:IntKind.i64.wrap (j:Int)=(j:Int):=by rw[Jk];omega
 rw[← Q.out] at O;clear N H X B D;go_region_with (first|(go_at_call 196;refine(zkK x m o b q r _).mono ?_;rintro e w2 ⟨⟨v,rfl,M⟩,s⟩;obtain rfl:=Bool.eq_false_iff.2 (λh=>R (M.1 h));clear M;have g5:=(s.cell (p:=⟨4,0,_⟩) (by simpa using F)).trans (by simpa using u))|(go_at_call 193;refine(zaD _ _ _).mono ?_;rintro e w3 ⟨rfl,rfl⟩;refine zhh (P:=prog) (a:=⟨#[],[]⟩) (w:=w) ?_))
 all_goals exact⟨rfl,rfl,ze f.drew s⟩
end Go.Proofs.YtmdnjgihooflfaaGreatDoor
