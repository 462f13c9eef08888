/-
  OWN TEXT: WholeI, SeatOf, SeatsF, SeatsI, PlainHj, HasI, PanI.
-/
import Derived.Deep.LoopGhost
import Derived.Deep.DeepCutAuto
import Derived.Test.YtmdnjgihooflfaaGreatDoorChecked
import Derived.WalkLawsBesides
import Derived.Defers
import Derived.Recover
import Derived.Shelf.Abstract
import Derived.Test.YtmdnjgihooflfaaGreatDoorB17
namespace Go.Proofs.YtmdnjgihooflfaaGreatDoor
open Go.RowKit
open Go.Value (int)
open Go.IntKind (i64)
open Tryz
set_option maxHeartbeats 64000000
set_option maxRecDepth 100000
theorem zeF {m:Nat}{P Q:Nat->Prop}{k:Nat}(h:∀ j,j<m->(P j↔Q j)):ZH m P k↔ZH m Q k:=by
 unfold ZH
 constructor
 ·rintro⟨a,b,c⟩;exact⟨a,(h k a).1 b,λj d q=>c j d ((h j (by omega)).2 q)⟩
 ·rintro⟨a,b,c⟩;exact⟨a,(h k a).2 b,λj d q=>c j d ((h j (by omega)).1 q)⟩
theorem zkB {p:zH}{n:Nat}{S:Nat->qN}{cl q d:Int}(g:zgt p)(e:(d=q/\zfs p cl q)∨(d=0/\¬ zfs p cl q)):∀ j,j<p.n->(HadW p n S cl d j↔zbD p n S cl q j):=by
 intro j i;have f:=(g.2 j i).2;unfold In at f;unfold HadW zbD
 constructor
 ·rintro⟨a,b,c⟩
  refine⟨a,b,?_⟩
  rcases e with⟨rfl,_⟩|⟨rfl,h⟩
  ·exact .inl c
  ·exact .inr h
 ·rintro⟨a,b,c⟩
  refine⟨a,b,?_⟩
  rcases e with⟨rfl,h⟩|⟨rfl,_⟩
  ·rcases c with c|c
   ·exact c
   ·exact absurd h c
  ·omega
theorem zkC {p:zH}{n:Nat}{S:Nat->qN}{x:Int}(h:Qr p n S/\¬ Has (ZV S) n x/\In x 1 9999):PlaceG p n S x :=
 ⟨h.1,by have:=zks h.1;omega,h.2.1,h.2.2⟩
theorem ziQ (o bo:Option Addr)(m y n c:Nat)(p:zH)(S:Nat->qN)(x cl q:Int)(w:World)(B:p.n=m)(C:m<=1048576)(I:n<=1048576)(H:n<=c)(D:zG w o p)(E:qp w bo n S)(g:bo=none->n=0/\c=0) :
  Calls prog 289 #[(o,m,y),(bo,n,c),x,cl,q] w λe w'=>zgc w' w.heap.size 228 p n S x cl q e/\Below w.heap.size w w':=by
 have A:=hI D;have F:=hI E;have z:=hI B;have s:=hI g;clear D E B g
 by_cases g1:In q 1 20
 ·have G:=Jd g1
  have r:=hI g1;clear g1;go_enter func289,ntmps289;go_wp2_with (first|(go_at_call 191;refine sC (zz _ _ _ _) ?_)|(go_at_call 296;refine(zkA o m y p cl q _ z C A).mono ?_;rintro e w1 ⟨⟨u,rfl,f⟩,a⟩;have i:=hI f;clear f)|(go_at_call 295;refine(znu o bo m y n c p S x cl u _ z C I H (A.below a) (F.below a) s).mono ?_;rintro e w2 ⟨j,l⟩;rcases j with⟨k,v,d,b,rfl,J⟩|⟨t,rfl⟩))
  ·exact Jj (by simp[results,results289,go_sem]) rfl ⟨zkc ⟨zkC d,by rw[← b.2.1.1];exact(d.1.1.2 k b.1).1,r⟩ ((zeF (zkB d.1.1 i)).1 b) (zu J a.size),ze a l⟩
  ·exact Jj (by simp[results,results289,go_sem]) rfl ⟨zgx (λk h=>t k ⟨⟨h.1.1.1,h.1.1.2.2.1,h.1.1.2.2.2⟩,(zeF (zkB h.1.1.1.1 i)).2 h.2⟩),ze a l⟩
 ·have G:=Jc g1
  have r:=hI g1;clear g1;go_enter func289,ntmps289;go_wp2_with (first|(go_at_call 191;refine sC (zz _ _ _ _) ?_))
  exact Jj (by simp[results,results289,go_sem]) rfl ⟨zgx (λk h=>r h.1.2.2),bZ⟩
theorem zkD {p:zH}{n:Nat}{S:Nat->qN}{cl q:Int}(h1:1<=q):∀ j,j<p.n->(HadB p n S cl q j↔zbN p n S cl q j):=by
 intro j _;unfold HadB zbN In
 constructor
 ·rintro⟨a,_,b⟩;exact⟨a,b⟩
 ·rintro⟨a,b⟩;exact⟨a,h1,b⟩
theorem zhC (j bo:Option Addr)(m u n c:Nat)(p:zH)(S:Nat->qN)(x cl q:Int)(w:World)(o:p.n=m)(C:m<=1048576)(D:n<=1048576)(B:n<=c)(s:zG w j p)(t:qp w bo n S)(d:bo=none->n=0/\c=0) :
  Calls prog 290 #[(j,m,u),(bo,n,c),x,cl,q] w λe w'=>zgd w' w.heap.size 228 p n S x cl q e/\Below w.heap.size w w':=by
 have z:=hI s;have A:=hI t;have y:=hI o;have i:=hI d;clear s t o d;go_enter func290,ntmps290;go_wp2_with (first|(go_at_call 295;refine(znv j bo m u n c p S x cl q _ y C D B z A i).mono ?_;rintro e w2 ⟨f,g⟩;rcases f with⟨k,v,b,a,rfl,E⟩|⟨l,rfl⟩))
 ·have r:=a.2.1.2
  have hb:=zdq b.1.1 b.1.2.1 b.1.manys a.1;unfold In at r;exact Jj (by simp[results,results290,go_sem]) rfl ⟨zkd ⟨zkC b,by rw[← a.2.1.1];exact(b.1.1.2 k a.1).1,by unfold In;omega⟩ ((zeF (zkD r.1)).1 a) E,g⟩
 ·exact Jj (by simp[results,results290,go_sem]) rfl ⟨zlL (λk h=>l k ⟨⟨h.1.1.1,h.1.1.2.2.1,h.1.1.2.2.2⟩,(zeF (zkD h.1.2.2.1)).2 h.2⟩),g⟩
theorem zgU (c d x:Int)(a:Nat)(w:World)(g:w.cell? (a,0)=some (int i64 x)) :
  Calls prog 274 #[.agg #[c,d],.pointer (some (a,0))] w λe w'=>e=.returned (.bool (c == x))/\Below w.heap.size w w':=by
 have b:=Ja w _ g;have f:¬ a=w.heap.size:=by have:a<w.heap.size:=b;omega
 go_enter func274,ntmps274;go_wp2;go_ret;exact⟨rfl,zk bZ _⟩
theorem ziR (s:Option Addr)(n c:Nat)(S:Nat->Qe)(x:Int)(g:Nat)(w:World)(hn:n<=1048576)(z:qE w s n S)(q:w.cell? (g,0)=some (int i64 x)) :
  Calls prog 273 #[(s,n,c),.func (.func 274) #[] #[.pointer (some (g,0))]] w λe w'=>e=.returned (Zv (zag S) x n)/\Below w.heap.size w w':=by
 have o:=Ja w _ q;go_enter func273,ntmps273;go_wp2;go_loopw [5,8] (λ_ i wr=>∃ k,k<=n/\i=int i64 k/\(∀ j,j<k->zag S j≠x)/\Below w.heap.size w wr) (λ_ i _=>n - (intOf i).toNat)
 case atStart=>exact⟨0,Jq _,rfl,λj y=>by omega,bZ⟩
 case round =>
  obtain⟨k,hk,rfl,d,a⟩:=hrel;have h:=hI d;clear d
  by_cases hlt2:k<n
  ·obtain⟨b,off,rfl,m,h1⟩:=z k hlt2
   have t:=Ja w _ m;have c0:=(a.cell t).trans m;have c1:=(a.cell (p:=⟨b,_+1,_⟩) t).trans h1;have r:=hI ((a.cell o).trans q);clear m h1 q
   by_cases he:zag S k=x
   ·have v:((S k).who == x)=true:=by unfold zag at he;simpa using he
    have l:Hid (Zv (zag S) x n=k):=by
     have:=zfe hlt2 he h;unfold Zv Hid;rw[this,Jf hlt2]
    clear he;go_wp2_with (first|(go_at_call 274;refine(zgU _ _ x g _ r).mono ?_;rintro e A ⟨rfl,f⟩))
    go_ret;exact⟨by rw[l.out];rfl,ze a f⟩
   ·have v:((S k).who == x)=false:=by unfold zag at he;simpa using he
    have u:=hI he;clear he;go_wp2_with (first|(go_at_call 274;refine(zgU _ _ x g _ r).mono ?_;rintro e A ⟨rfl,f⟩))
    go_roundw
    case rel=>exact⟨k+1,by omega,by go_num,λj y=>by
     by_cases e:j=k
     ·subst e;exact u
     ·exact h j (by omega),ze a f⟩
    case measure=>simp[intOf];omega
  ·obtain rfl:k=n:=by omega
   have l:=hI (zbM (zdp h));go_wp2;go_ret;exact⟨by rw[l.out];rfl,a⟩
/-- seatOf: where the stay of the by stands, -1 Zx one. -/
theorem zdU (b:Option Addr)(n c:Nat)(S:Nat->Qe)(x:Int)(w:World)(i:n<=1048576)(j:qE w b n S) :
  Calls prog 245 #[(b,n,c),x] w λe w'=>e=.returned (Zv (zag S) x n)/\Below w.heap.size w w':=by
 have a:Below _ w (w.alloc (.cells #[x] 3)):=zk bZ _;have g:=hI (j.below a);have f:Hid ((w.alloc (.cells #[_] 3)).cell? _=some (int i64 x)):=za (Jb w _) 0 _ rfl;have h:∀ (fn) (first cap) (w),(Instr.makeFunc fn _ cap).run prog w=.ok (.func fn first cap) w:=λ_ _ _ _=>rfl
 go_enter func245,ntmps245;go_wp2_with (first|(go_at_call 273;refine(ziR b n c S x _ _ i g f).mono ?_;rintro e w2 ⟨rfl,d⟩))
 go_ret;exact⟨rfl,ze a d⟩
theorem zkE (S:Nat->Qe)(i n:Nat)(a:i<=n)(h:∀ j,j<n->In (S j).many 1 20):QN S i<=QN S n:=by
 induction n with
 | zero=>rw[show i=0 by omega];exact Int.le_refl _
 | succ n ih =>
  by_cases e:i=n+1
  ·rw[e];exact Int.le_refl _
  ·have:=ih (by omega) (λj hj=>h j (by omega))
   have b:=h n (by omega)
   unfold In at b;have h3:QN S (n+1)=_+_:=rfl
   omega
theorem zdv {S:Nat->Qe}{n:Nat}{x many:Int}{j:Nat}(h:j<n):Ze S n x many j=S j:=by unfold Ze zam;rw[Jf h]
theorem sits_with (S:Nat->Qe)(n:Nat)(x many:Int)(i:Nat)(h:i<=n):QN (Ze S n x many) i=QN S i:=by
 induction i with
 | zero=>rfl
 | succ i ih =>
  have e:=ih (by omega)
  show _+_=_+_
  rw[e,zdv (by omega)]
theorem zkF {most:Int}{n:Nat}{S:Nat->Qe}{x many:Int}(h:Qx most (n+1) (Ze S n x many)):Qx most n S:=by
 obtain⟨b,h1,h2,h3⟩:=h;refine⟨b,by omega,λi c=>?_,?_⟩
 ·have:=h2 i (by omega)
  rw[zdv c] at this;refine⟨this.1,λ⟨j,a,e⟩=>this.2.1 ⟨j,a,?_⟩,this.2.2⟩
  unfold zag at e ⊢;rw[zdv (by omega)];exact e
 ·have:=zkE _ n _ (by omega) (λj a=>(h2 j a).2.2)
  rw[sits_with S n x _ n (Jr _)] at this
  omega
def SeatsAns (most:Int)(n:Nat)(S:Nat->Qe)(e:Ending):Prop :=
 (Qx most n S/\e=.returned (.tuple #[int i64 (most - QN S n),.bool true]))∨(¬ Qx most n S/\e=.returned (.tuple #[(),.bool false]))
theorem ziS (most:Int)(bo:Option Addr)(n c:Nat)(S:Nat->Qe)(w:World)(hn:n<=2097152)(hc:n<=c)(I:qE w bo n S) :
  Calls prog 238 #[most,(bo,n,c)] w λe w'=>SeatsAns most n S e/\Below w.heap.size w w':=by
 have A:=hI I;clear I
 by_cases g0:In most 0 500
 ·have G:=Jd g0
  have s:=hI g0;clear g0
  by_cases h60:n<=60
  ·have F:decide (60<n)=false:=by simp;omega
   go_enter func238,ntmps238;go_wp2_with (first|(go_at_call 191;refine sC (zz _ _ _ _) ?_))
   go_loopw [6,7,8,20] (λv _ _ i wr=>∃ k,k<=n/\i=int i64 k/\v=int i64 (most - QN S k)/\(∀ j,j<k->In (S j).who 1 9999/\¬ Has (zag S) j (S j).who/\In (S j).many 1 20)/\QN S k<=most/\Below w.heap.size w wr) (λ_ _ _ i _=>n - (intOf i).toNat)
   case atStart=>exact⟨0,Jq _,rfl,by simp[QN],λj y=>by omega,s.1,bZ⟩
   case round =>
    obtain⟨i,hi,rfl,rfl,m,o,a⟩:=hrel;have D:=hI m;have J:=hI o;clear m o G F
    by_cases hlt:i<n
    ·obtain⟨b,off,rfl,x,h1⟩:=A i hlt
     have H:=Ja w _ x;have K:=(a.cell H).trans x;have c1:=(a.cell (p:=⟨b,_+1,_⟩) H).trans h1;have d:=Jb wr (.cells #[(S i).who,(S i).many] 234);have f:=zk a (.cells #[(S i).who,(S i).many] 234);clear x h1;go_upto_region 7 with fail;generalize hW:wr.alloc _=W at d f ⊢;clear hW;have z:=zM d;have z0:∀ g:zn W,g.val.cell? _=some (.int _ _):=λg=>(g.bel.cell z).trans (za d 0 _ rfl)
     have O:∀ g:zn W,g.val.cell? _=some (.int _ _):=λg=>(g.bel.cell z).trans (za d 1 _ rfl)
     have i1:(0:Int)<=(i:Int):=by omega
     have i2:(i:Int)<=(c:Int):=by omega
     clear K c1 d a
     by_cases g1:In (S i).who 1 9999
     ·have u:=Jd g1
      have B:=hI g1;clear g1
      by_cases g2:Has (zag S) i (S i).who
      ·have L:=Jd ((QC _ _ _).2 g2)
       have C:=hI g2;clear g2;refine zh (by kernel_rfl) (by kernel_rfl) ?_
       repeat(first|go_big_quiet_skip|(go_big_quiet_want;go_big_quiet_op;first|go_big_quiet_on|(apply Jg;refine⟨λg=>?_,?_⟩;(focus(first|(go_at_call 102;refine zf (v:=.bool true) ((Qg _ _).mono ?_);rintro e q ⟨rfl,rfl⟩;exact⟨by rw[u],bZ⟩)|(go_at_call 245;refine zf (v:=int i64 (Zv (zag S) (S i).who i)) ((zdU _ i c S _ _ (by omega) ((A.upto (by omega)).below (ze f g.bel))).mono ?_);rintro e q ⟨rfl,l⟩;exact⟨rfl,l⟩)));go_big_quiet_on)))
       refine Jl ?_;rintro _ ⟨g,rfl⟩;go_wp2;exact Jj (by simp[results,results238,go_sem]) rfl ⟨.inr ⟨λh=>(h.2.2.1 i hlt).2.1 C,rfl⟩,ze f g.bel⟩
      ·have L:=Jc (λh=>g2 ((QC _ _ _).1 h))
       have C:=hI g2;clear g2
       by_cases g3:In (S i).many 1 (if most - QN S i<20 then most - QN S i else 20)
       ·have r:=Jd g3
        have t:Hid (In (S i).many 1 20/\QN S (i+1)<=most):=by
         have h3:QN S (i+1)=_+_:=rfl;unfold In at g3 ⊢
         show _/\_
         rw[h3]
         split at g3 <;> omega
        clear g3;have M:IntKind.i64.wrap (most - QN S i - (S i).many)=most - QN S (i+1):=by
         have h1:=zek S i (λj y=>(D j y).2.2)
         have h2:=t.1;have x:=s.out;unfold In at h2 x;have h3:QN S (i+1)=_+_:=rfl;rw[h3,Jk];omega
        refine zh (by kernel_rfl) (by kernel_rfl) ?_
        repeat(first|go_big_quiet_skip|(go_big_quiet_want;go_big_quiet_op;first|go_big_quiet_on|(apply Jg;refine⟨λg=>?_,?_⟩;(focus(first|(go_at_call 102;refine zf (v:=.bool true) ((Qg _ _).mono ?_);rintro e q ⟨rfl,rfl⟩;exact⟨by rw[u],bZ⟩)|(go_at_call 245;refine zf (v:=int i64 (Zv (zag S) (S i).who i)) ((zdU _ i c S _ _ (by omega) ((A.upto (by omega)).below (ze f g.bel))).mono ?_);rintro e q ⟨rfl,l⟩;exact⟨rfl,l⟩)|(go_at_call 191;refine zf (v:=.bool true) ((zz _ _ _ _).mono ?_);rintro e q ⟨rfl,rfl⟩;exact⟨by first|rw[r]|rw[show min (20:Int) (most - QN S i)=(if most - QN S i<20 then most - QN S i else 20) from by rw[Int.min_def];split <;> (split <;> omega),r],bZ⟩)));go_big_quiet_on)))
        refine Jl ?_;rintro _ ⟨g,rfl⟩;have v1:=O g;clear r;generalize (if most - _<20 then most - _ else 20)=N;go_wp2;have E:Hid (∀ j,j<i+1->In (S j).who 1 9999/\¬ Has _ j (S j).who/\In (S j).many 1 20):=λj y=>by
         by_cases e:j=i
         ·subst e;exact⟨B,C,t.1⟩
         ·exact D j (by omega)
        go_roundw
        case rel=>exact⟨_,by omega,by go_num,rfl,E,t.2,ze f g.bel⟩
        case measure=>simp[intOf];omega
       ·have r:=Jc g3
        have t:Hid (¬ Qx most n S):=λh=>by
         have h1:=(h.2.2.1 i hlt).2.2;have h2:=zkE S (i+1) n (by omega) (λj y=>(h.2.2.1 j y).2.2)
         have h4:=h.2.2.2;have h3:QN S (i+1)=_+_:=rfl;unfold In at g3 h1
         split at g3 <;> omega
        clear g3;refine zh (by kernel_rfl) (by kernel_rfl) ?_
        repeat(first|go_big_quiet_skip|(go_big_quiet_want;go_big_quiet_op;first|go_big_quiet_on|(apply Jg;refine⟨λg=>?_,?_⟩;(focus(first|(go_at_call 102;refine zf (v:=.bool true) ((Qg _ _).mono ?_);rintro e q ⟨rfl,rfl⟩;exact⟨by rw[u],bZ⟩)|(go_at_call 245;refine zf (v:=int i64 (Zv (zag S) (S i).who i)) ((zdU _ i c S _ _ (by omega) ((A.upto (by omega)).below (ze f g.bel))).mono ?_);rintro e q ⟨rfl,l⟩;exact⟨rfl,l⟩)|(go_at_call 191;refine zf (v:=.bool false) ((zz _ _ _ _).mono ?_);rintro e q ⟨rfl,rfl⟩;exact⟨by first|rw[r]|rw[show min (20:Int) (most - QN S i)=(if most - QN S i<20 then most - QN S i else 20) from by rw[Int.min_def];split <;> (split <;> omega),r],bZ⟩)));go_big_quiet_on)))
        refine Jl ?_;rintro _ ⟨g,rfl⟩;clear r;generalize (if most - _<20 then most - _ else 20)=N;go_wp2;exact Jj (by simp[results,results238,go_sem]) rfl ⟨.inr ⟨t,rfl⟩,ze f g.bel⟩
     ·have u:=Jc g1
      have B:=hI g1;clear g1;refine zh (by kernel_rfl) (by kernel_rfl) ?_
      repeat(first|go_big_quiet_skip|(go_big_quiet_want;go_big_quiet_op;first|go_big_quiet_on|(apply Jg;refine⟨λg=>?_,?_⟩;(focus(first|(go_at_call 102;refine zf (v:=.bool false) ((Qg _ _).mono ?_);rintro e q ⟨rfl,rfl⟩;exact⟨by rw[u],bZ⟩)));go_big_quiet_on)))
      refine Jl ?_;rintro _ ⟨g,rfl⟩;go_wp2;exact Jj (by simp[results,results238,go_sem]) rfl ⟨.inr ⟨λh=>B (h.2.2.1 i hlt).1,rfl⟩,ze f g.bel⟩
    ·obtain rfl:i=n:=by omega
     go_wp2;exact Jj (by simp[results,results238,go_sem]) rfl ⟨.inl ⟨⟨s,h60,D,J⟩,rfl⟩,a⟩
  ·have F:decide (60<n)=true:=by simp;omega
   go_enter func238,ntmps238;go_wp2_with (first|(go_at_call 191;refine sC (zz _ _ _ _) ?_))
   exact Jj (by simp[results,results238,go_sem]) rfl ⟨.inr ⟨λh=>h60 h.2.1,rfl⟩,bZ⟩
 ·have G:=Jc g0
  have s:=hI g0;clear g0;go_enter func238,ntmps238;go_wp2_with (first|(go_at_call 191;refine sC (zz _ _ _ _) ?_))
  exact Jj (by simp[results,results238,go_sem]) rfl ⟨.inr ⟨λh=>s h.1,rfl⟩,bZ⟩
theorem zeG (most:Int)(bo:Option Addr)(n c:Nat)(S:Nat->Qe)(w:World)(l:n<=2097152)(k:n<=c)(i:qE w bo n S) :
  Calls prog 180 #[most,(bo,n,c)] w λe w'=>qX (Qx most n S) e/\Below w.heap.size w w':=by
 have j:=hI i;clear i;go_enter func180,ntmps180;go_wp2_with fail;refine(ziS _ bo n c S _ l k j).mono ?_;rintro e w1 ⟨a,b⟩
 rcases a with⟨f,rfl⟩|⟨d,rfl⟩
 ·have h:=hI f
  clear f;go_wp2;go_ret;exact⟨zR h,b⟩
 ·have g:=hI d
  clear d;go_wp2;go_ret;exact⟨zl g,b⟩
theorem zlY (bo:Option Addr)(n c:Nat)(S:Nat->Qe)(x many:Int)(w:World)(hn:n<=1048576)(H:qE w bo n S)(g:bo=none->n=0/\c=0) :
  Calls prog 291 #[(bo,n,c),.agg #[x,many]] w λe w'=>(∃ v,e=.returned v/\w'.ownsRow w.heap.size 234 2 v (n+1) (zB (Ze S n x many) (n+1)))/\Below w.heap.size w w':=by
 obtain⟨Q,I,D,u,E⟩:=info_parts Tryz.infoSeat;have O:=hI H;have A:=hI g;clear H g;have P:IntKind.i64.wrap ((n:Int)+1)=((n+1:Nat):Int):=by rw[Jk];omega
 have q:(Tryz.prog.info? 234).map (·.size)=some 2:=by rw[I];simp[u]
 have p:=zk (Ji _ w) (.cells #[x,many] 234);have J:=Jb w (.cells #[x,many] 234);go_enter func291,ntmps291;go_upto_region 2 with(first|(at_make;refine wpList_make_full _ rfl _ _ 143 rfl w.heap.size 234 Q _ 2 underlying143 I D u _ _ _ _ (n+1) rfl rfl (by simp) (by simp) (by rw[E];omega) (by unfold maxLen;omega) (by simp) ?_;intro U f a))
 have l:=p.grown a (by simp) (λj F=>by cases F)
 have K:=zjB a J (by simp)
 obtain⟨k,d,t⟩:=own_row f;have L:=hI (zaP (O.below l));have B:=hI K;have y:=hI l;clear f a J p K l;rw[World.size_alloc] at d;obtain⟨V,G,s,m⟩:=copy_k U 143 143 234 _ (n+1) (n+1) bo n c k 234 _ 2 underlying143 q d (by omega) (Zo _ _) A L (by rw[Zo,t];omega) (zar _ _)
 have b:=zhY s (N:=(n+1)*2) (by simp[Zo,t];omega)
 have h:=(m.block _ (by omega)).trans B
 have o0:=za h 0 _ rfl;have o1:=za h 1 _ rfl;have R:=b.cell (i:=n*2) (by omega)
 have T:=b.cell (i:=n*2+1) (by omega)
 have f0:=b.frozen (n*2);have f1:=b.frozen (n*2+1);have i1:(0:Int)<=(n:Int):=by omega
 have i2:(n:Int)<((n+1:Nat):Int):=by omega
 have z:=hI (y.trans (m.mono (by omega)))
 have C:=hI b;clear s m b h d;generalize List.getD (_++k.toList.drop _) _ _=u0 at R;generalize List.getD (_++k.toList.drop _) _ _=u1 at T;have M:Hid (((V.setCell (w.heap.size+1,n*2) x).setCell (w.heap.size+1,n*2+1) many).rowIs (w.heap.size+1) 234 ((n+1)*2) (qL (Ze S n x many))):=by
  refine((C.set _ _).set _ _).congr (λj F=>?_)
  have r:Ze S n x many n=⟨x,many⟩:=by unfold Ze zam;rw[Je (Nat.lt_irrefl _)]
  by_cases h1:j=n*2+1
  ·subst h1;rw[Jf rfl,zaO,r]
  rw[Je h1]
  by_cases h0:j=n*2
  ·subst h0;rw[Jf rfl,zaN,r]
  rw[Je h0];have o:j<(zB S n).length:=by rw[Zo];omega
  rw[List.getD_eq_getElem?_getD,List.getElem?_append_left o,List.getElem?_eq_getElem o,Option.getD_some];have:=zfB (List.getElem?_eq_getElem o);rw[this.2];unfold qL Ze zam;rw[Jf (show j / 2<n by omega)]
 go_wp2;go_ret;exact⟨⟨_,rfl,Zz M (by omega) (by unfold maxLen;omega)⟩,(z.setCell (by show w.heap.size<=w.heap.size+1;omega) _).setCell (by show w.heap.size<=w.heap.size+1;omega) _⟩
theorem ziT (most:Int)(bo:Option Addr)(n c:Nat)(S:Nat->Qe)(x many:Int)(w:World)(u:n<=1048576)(s:n<=c)(p:qE w bo n S)(b:bo=none->n=0/\c=0) :
  Calls prog 284 #[most,(bo,n,c),x,many] w λe w'=>zge w' w.heap.size 234 most n S x many e/\Below w.heap.size w w':=by
 have r:=hI p;have k:=hI b;clear p b;go_enter func284,ntmps284;go_wp2_with fail;refine(zlY bo n c S x _ _ u r k).mono ?_;rintro e w1 ⟨⟨v,rfl,d⟩,m⟩;obtain⟨t,c1,rfl,o,_⟩:=zp d;have f:=hI d;clear d;go_wp2_with fail;refine(zeG _ t _ c1 _ _ (by omega) o (QS f)).mono ?_
 rintro e w7 ⟨⟨q,rfl,j⟩,i⟩;have g:=ze m i;have l:=hI (zo i f)
 cases q with
 | false =>
  have a:Hid (¬ _):=λh=>by have:=j.2 h;cases this
  clear j;go_wp2;exact Jj (by simp[results,results284,go_sem]) rfl ⟨zlM (λh=>a h.2),g⟩
 | true =>
  have a:=hI (j.1 rfl);clear j;go_wp2;exact Jj (by simp[results,results284,go_sem]) rfl ⟨zke ⟨zkF a,a⟩ l,g⟩
section
variable{P:Nat->Prop}{n j:Nat}{q:Int}
open Go.RowKit Classical
noncomputable def onL (P:Nat->Prop):Nat->List Nat
 | 0=>[]
 | n+1=>if P n then onL P n++[n] else onL P n
theorem zbZ (h:P n):onL P (n+1)=onL P n++[n]:=by rw[onL,Jf h]
theorem zfJ (h:¬ P n):onL P (n+1)=onL P n:=by rw[onL,Je h]
noncomputable def onI (P:Nat->Prop)(n j:Nat):Nat:=(onL P n).getD j 0
theorem zdV (P:Nat->Prop)(h:P n):onI P (n+1) (onL P n).length=n:=by unfold onI;rw[zbZ h];simp
theorem zcQ (P:Nat->Prop)(a:j<(onL P n).length):onI P (n+1) j=onI P n j:=by
 unfold onI
 by_cases h:P n
 ·rw[zbZ h,List.getD_eq_getElem?_getD,List.getD_eq_getElem?_getD,List.getElem?_append_left a]
 ·rw[zfJ h]
theorem ziU (P:Nat->Prop)(n:Nat):(onL P n).length=cnt P n:=by
 induction n with
 | zero=>rfl
 | succ n ih =>
  by_cases h:P n
  ·rw[zbZ h,Qy h,List.length_append,ih];rfl
  ·rw[zfJ h,zae h,ih]
theorem zmJ (P:Nat->Prop)(n:Nat):∀ j,j<(onL P n).length->onI P n j<n/\P (onI P n j):=by
 induction n with
 | zero=>intro j a;simp[onL] at a
 | succ n ih =>
  intro j a
  by_cases h:P n
  ·rw[zbZ h,List.length_append] at a
   by_cases e:j=(onL P n).length
   ·subst e;rw[zdV P h];exact⟨by omega,h⟩
   ·have b:j<(onL P n).length:=by simp at a;omega
    rw[zcQ P b];have:=ih j b;exact⟨by omega,this.2⟩
  ·rw[zfJ h] at a
   rw[zcQ P a];have:=ih j a;exact⟨by omega,this.2⟩
theorem onI_all (P:Nat->Prop)(n:Nat):∀ i,i<n->P i->∃ j,j<(onL P n).length/\onI P n j=i:=by
 induction n with
 | zero=>intro i c;omega
 | succ n ih =>
  intro i c a
  by_cases e:i=n
  ·subst e
   exact⟨_,by rw[zbZ a];simp,zdV P a⟩
  ·obtain⟨j,b,d⟩:=ih i (by omega) a
   refine⟨j,?_,by rw[zcQ P b];exact d⟩
   by_cases h:P n
   ·rw[zbZ h,List.length_append];omega
   ·rw[zfJ h];exact b
theorem zeH {Q:Nat->Prop}(h:∀ i,i<n->(P i↔Q i)):cnt P n=cnt Q n:=by
 induction n with
 | zero=>rfl
 | succ n ih =>
  have i1:=ih (λi hi=>h i (by omega))
  have h1:=h n (by omega)
  by_cases c:P n
  ·rw[Qy c,Qy (h1.1 c),i1]
  ·rw[zae c,zae (λq=>c (h1.2 q)),i1]
theorem cnt_on (P Q:Nat->Prop)(n:Nat):cnt (λj=>Q (onI P n j)) (onL P n).length=cnt (λi=>P i/\Q i) n:=by
 induction n with
 | zero=>rfl
 | succ n ih =>
  have a:cnt (λj=>Q (onI P (n+1) j)) (onL P n).length=cnt (λi=>P i/\Q i) n:=by
   rw[← ih];exact zeH (λj b=>by rw[zcQ P b])
  by_cases h:P n
  ·rw[show(onL P (n+1)).length=(onL P n).length+1 by rw[zbZ h];simp]
   by_cases q:Q n
   ·rw[Qy (by rw[zdV P h];exact q),Qy ⟨h,q⟩,a]
   ·rw[zae (by rw[zdV P h];exact q),zae (λc=>q c.2),a]
  ·rw[zfJ h,zae (λc=>h c.1)]
   rw[← ih];exact zeH (λj b=>by rw[zcQ P b])
def zcR (b:ql):Prop:=b.len=0/\b.hei=0
instance (b:ql):Decidable (zcR b):=by unfold zcR;exact inferInstance
def zca (b:ql):Prop:=b.cl=0/\b.all=false/\b.be=0
instance (b:ql):Decidable (zca b):=by unfold zca;exact inferInstance
def zfQ (l:zY)(b:ql):Prop:=zcR b∨(zaj (Qc l.st) b.who l.stn<l.stn/\(l.st (zaj (Qc l.st) b.who l.stn)).len=b.len/\(l.st (zaj (Qc l.st) b.who l.stn)).hei=b.hei)
def zeI (s:Zj)(l:zY)(b:ql):Prop:=zca b∨(zaj (ZV l.ro) b.who l.ron<l.ron/\(l.ro (zaj (ZV l.ro) b.who l.ron)).all=b.all/\(b.all=true∨(l.ro (zaj (ZV l.ro) b.who l.ron)).many=b.be)/\s.ca.A (l.ro (zaj (ZV l.ro) b.who l.ron)).cab.toNat=b.cl)
def zfR (l:zY)(b:ql):Prop:=zaj (zag l.se) b.who l.sen<l.sen/\(l.se (zaj (zag l.se) b.who l.sen)).many=b.pe
def Holds (s:Zj)(l:zY)(b:ql):Prop:=zfQ l b/\zeI s l b/\zfR l b
def zgV (s:Zj)(l:zY)(m:Nat)(B:Nat->ql):Prop :=
 (∀ j,j<m->Holds s l (B j))/\l.stn=cnt (λj=>¬ zcR (B j)) m/\l.ron=cnt (λj=>¬ zca (B j)) m/\l.sen=m
theorem one_of {F:Nat->Int}(h:∀ i,i<n->¬ Has F i (F i)){x:Nat}(a:j<n)(b:x<n)(e:F j=F x):j=x:=by
 by_cases c:j<x
 ·exact absurd ⟨j,c,e⟩ (h x b)
 ·by_cases c2:x<j
  ·exact absurd ⟨x,c2,e.symm⟩ (h j a)
  ·omega
theorem zeJ {F:Nat->Int}(h:∀ i,i<n->¬ Has F i (F i))(b:j<n)(e:F j=q):zaj F q n=j:=by
 have a:=(zdo F n q).1 ⟨j,b,e⟩;exact(one_of h b a (e.trans (zdn F q n a).symm)).symm
theorem zkG {b:ql}(h:qI b.p):zcR b↔b.len=0:=by
 unfold zcR
 constructor
 ·exact λh=>h.1
 ·intro e
  rcases h.2.1 with c|c
  ·exact c
  ·have:=c.1;unfold In ql.p at this;simp at this;omega
theorem znw {b:ql}(h:qI b.p):¬ zcR b↔0<b.len:=by
 rw[zkG h]
 rcases h.2.1 with c|c
 ·have:=c.1;unfold ql.p at this;simp at this;omega
 ·have:=c.1;unfold In ql.p at this;simp at this;omega
theorem zkH {b:ql}(h:qI b.p):zca b↔b.cl=0:=by
 unfold zca
 constructor
 ·exact λh=>h.1
 ·intro e
  rcases h.2.2 with c|c
  ·exact c
  ·have:=c.1;unfold In ql.p at this;simp at this;omega
theorem znx {b:ql}(h:qI b.p):¬ zca b↔0<b.cl:=by
 rw[zkH h]
 rcases h.2.2 with c|c
 ·have:=c.1;unfold ql.p at this;simp at this;omega
 ·have:=c.1;unfold In ql.p at this;simp at this;omega
theorem zkI {s:Zj}{l:zY}{b:ql}(m:qm s l)(d:qI b.p):Holds s l b↔zbX s l b:=by
 obtain⟨k,hr,n⟩:=m;have u1:∀ i,_->¬ Has _ i (Qc _ i):=λi a=>(k.2.2.1 i a).2.2.2.2
 have u2:∀ i,_->¬ Has _ i (ZV _ i):=λi a=>(hr.2.2.1 i a).1.2.1
 have u3:∀ i,_->¬ Has _ i (zag _ i):=λi a=>(n.2.2.1 i a).2.1
 unfold Holds zbX zfQ zeI zfR;rw[zkG d,zkH d]
 constructor
 ·rintro⟨h1,h2,h3⟩
  refine⟨⟨_,h3.1,zdn _ _ _ h3.1,h3.2⟩,?_,?_⟩
  ·rcases h1 with h|h
   ·exact .inl h
   ·exact .inr ⟨_,h.1,zdn _ _ _ h.1,h.2.1,h.2.2⟩
  ·rcases h2 with h|h
   ·exact .inl h
   ·exact .inr ⟨_,h.1,zdn _ _ _ h.1,h.2.1,h.2.2.2,h.2.2.1⟩
 ·rintro⟨⟨j,c,f,g⟩,h2,h3⟩
  refine⟨?_,?_,?_⟩
  ·rcases h2 with h|⟨i,a,c1,c2,c3⟩
   ·exact .inl h
   ·have e:=zeJ u1 a c1
    rw[e];exact .inr ⟨a,c2,c3⟩
  ·rcases h3 with h|⟨i,a,c1,c2,c3,c4⟩
   ·exact .inl h
   ·have e:=zeJ u2 a c1
    rw[e];exact .inr ⟨a,c2,c4,c3⟩
  ·have e:=zeJ u3 c f
   rw[e];exact⟨c,g⟩
theorem just_iff {o:Off}{k:Nat}(c:qm (o.sa k) (o.ld k))(d:∀ i,i<o.bkn->qI (o.bk i).p) :
  zgV (o.sa k) (o.ld k) (onL (On o k) o.bkn).length (λj=>o.bk (onI (On o k) o.bkn j))↔zaQ o k:=by
 have b:=λj a=>d _ (zmJ (On o k) _ j a).1
 have c1:cnt (λj=>¬ zcR (o.bk (onI (On o k) o.bkn j))) (onL (On o k) o.bkn).length=cnt (λi=>On o k i/\0<(o.bk i).len) o.bkn:=by
  rw[← cnt_on _ _ _];exact zeH (λj a=>znw (b j a))
 have c2:cnt (λj=>¬ zca (o.bk (onI (On o k) o.bkn j))) (onL (On o k) o.bkn).length=cnt (λi=>On o k i/\0<(o.bk i).cl) o.bkn:=by
  rw[← cnt_on _ _ _];exact zeH (λj a=>znx (b j a))
 unfold zgV zaQ;rw[c1,c2,ziU]
 constructor
 ·rintro⟨h,r⟩
  refine⟨λi e f=>?_,r⟩
  obtain⟨j,a,rfl⟩:=onI_all _ _ i e f;exact(zkI c (b j a)).1 (h j (by rw[← ziU];exact a))
 ·rintro⟨h,r⟩
  refine⟨λj a=>?_,r⟩
  rw[← ziU] at a;have:=zmJ _ _ j a;exact(zkI c (b j a)).2 (h _ this.1 this.2)
end
theorem zkJ (g:Option Addr)(n c:Nat)(G:Nat->Int)(x:Int)(w:World)(hn:n<=1048576)(p:zT w g n G) :
  Calls prog 246 #[(g,n,c),x] w λe w'=>e=.returned (Zv G x n)/\w'=w:=by
 go_enter func246,ntmps246;go_wp2;go_loopw [5,8] (λ_ i wr=>∃ k,k<=n/\i=int i64 k/\(∀ j,j<k->G j≠x)/\wr=w) (λ_ i _=>n - (intOf i).toNat)
 case atStart=>exact⟨0,Jq _,rfl,λj o=>by omega,rfl⟩
 case round =>
  obtain⟨k,hk,rfl,a,rfl⟩:=hrel;have d:=hI a;clear a
  by_cases hlt2:k<n
  ·obtain⟨b,off,rfl,h0⟩:=p k hlt2
   by_cases he:G k=x
   ·have m:(x == G k)=true:=by rw[he];simp
    have f:Hid (Zv G x n=k):=by
     have:=zfe hlt2 he d;unfold Zv Hid;rw[this,Jf hlt2]
    clear he;go_wp2;go_ret;exact⟨by rw[f.out];rfl,rfl⟩
   ·have m:(x == G k)=false:=by simpa using λh=>he h.symm
    have l:=hI he;clear he;go_wp2;go_roundw
    case rel=>exact⟨k+1,by omega,by go_num,λj o=>by
     by_cases e:j=k
     ·subst e;exact l
     ·exact d j (by omega),trivial⟩
    case measure=>simp[intOf];omega
  ·obtain rfl:k=n:=by omega
   have f:=hI (zbM (zdp d));go_wp2;go_ret;exact⟨by rw[f.out];rfl,rfl⟩
theorem zny (d:Option Addr)(n c:Nat)(G:Nat->Int)(x:Int)(w:World)(i:n<=1048576)(j:zT w d n G) :
  Calls prog 190 #[(d,n,c),x] w λe w'=>qX (Has G n x) e/\w'=w:=by
 obtain⟨r,hr⟩:∃ r,r=Zv G x n:=⟨_,rfl⟩;have b:=hI hr;clear hr;go_enter func190,ntmps190;go_wp2_with fail;refine(zkJ d n c G x _ i j).mono ?_;rw[← b.out];rintro e w1 ⟨rfl,f⟩;have f:=f.symm;subst f
 by_cases h:Has G n x
 ·have g:decide (0<=r)=true:=by rw[b.out];unfold Zv;rw[Jf ((zdo _ _ _).1 h)];simp
  have a:=hI h;clear h;go_wp2;go_ret;exact⟨zR a,rfl⟩
 ·have g:decide (0<=r)=false:=by rw[b.out,zbM h];rfl
  have a:=hI h;clear h;go_wp2;go_ret;exact⟨zl a,rfl⟩
theorem zhZ (b:ql)(c:Option Addr)(d:Nat)(w:World) :
  Calls prog 189 #[.agg (b,c,d)] w λe w'=>qX (zez b) e/\Below w.heap.size w w':=by
 by_cases s1:b.state=1
 ·have f:(b.state == 1)=true:=by simpa using s1
  have a:Hid (zez b):=.inl s1;clear s1;go_enter func189,ntmps189;go_wp2;go_ret;exact⟨zR a,zk bZ _⟩
 ·have f:(b.state == 1)=false:=by simpa using s1
  by_cases s2:b.state=2
  ·have g:(b.state == 2)=true:=by simpa using s2
   have a:Hid (zez b):=.inr s2;clear s1 s2;go_enter func189,ntmps189;go_wp2;go_ret;exact⟨zR a,zk bZ _⟩
  ·have g:(b.state == 2)=false:=by simpa using s2
   have a:Hid (¬ zez b):=by intro h;rcases h with h|h;exact s1 h;exact s2 h
   clear s1 s2;go_enter func189,ntmps189;go_wp2;go_ret;exact⟨zl a,zk bZ _⟩
theorem ZD (a:Value)(w:World) :
  Calls prog 193 #[.bool true,a] w λe w'=>e=.returned (.tuple #[])/\w'=w:=by
 go_enter func193,ntmps193;go_wp2;go_end0;exact⟨rfl,rfl⟩
theorem zaD (T:Nat)(u:Value)(w:World) :
  Calls prog 193 #[.bool false,.iface T u] w λe w'=>e=.panicked [{ v:=.iface 96 (.agg #[.iface T u]),recovered:=false }]/\w'=w:=by
 go_enter func193,ntmps193;go_wp2;exact⟨rfl,rfl,rfl⟩
/-- What is deferred, where the steps came to their end. -/
theorem znz (p:Addr)(w:World) :
  CallsD prog 105 #[.pointer (some p)] .returning w λe c w'=>e=.returned (.tuple #[])/\c=.returning/\w'=w:=by
 have a:∀ w,(Instr.typeAssert .nilIface 20 92 true).run prog w=.ok (.tuple #[.nilIface,.bool false]) w:=λw=>by kernel_rfl
 refine callsD_of_wpS func105 rfl λc₀ cs b=>?_
 apply wpS_seq
 apply wpS_region
 simp[wpOpsS,go_sem,recoverD,b,ntmps105,Exit.thenS,a]
 apply wpS_seq
 apply wpS_region
 simp[wpOpsS,go_sem,Exit.thenS];refine wpS_cond (t:=false) (by simp[Act.eval,Array.replicate]) ?_
 simp only[Bool.false_eq_true,if_false];refine wpS_of_wp (wp_skip ?_)
 cases c₀
 simp_all [bodyPostS,results,results105]
/-- What is deferred, where the steps were refused. -/
theorem ziV (p:Addr)(x:Value)(u:Value)(a:List PanicEntry)(w:World)(c:w.cell? p=some x)(f:w.frozen? p=false) :
  CallsD prog 105 #[.pointer (some p)] (.panicking ({ v:=.iface 96 u,recovered:=false } :: a)) w λe g w' =>
   e=.returned (.tuple #[])/\g=.panicking ({ v:=.iface 96 u,recovered:=true } :: a)/\w'=w.setCell p (.iface 96 u):=by
 have b:∀ w,(Instr.typeAssert (.iface 96 u) 20 92 true).run prog w=.ok (.tuple #[.iface 96 u,.bool true]) w:=λw=>by kernel_rfl
 refine callsD_of_wpS func105 rfl λc₀ cs d=>?_
 apply wpS_seq
 apply wpS_region
 simp[wpOpsS,go_sem,recoverD,d,ntmps105,Exit.thenS,b]
 apply wpS_seq
 apply wpS_region
 simp[wpOpsS,go_sem,Exit.thenS];refine wpS_cond (t:=true) (by simp[Act.eval,Array.replicate]) ?_
 simp only[if_true]
 apply wpS_region
 simp[wpOpsS,go_sem,c,f,bodyPostS,results,results105]
end Go.Proofs.YtmdnjgihooflfaaGreatDoor
