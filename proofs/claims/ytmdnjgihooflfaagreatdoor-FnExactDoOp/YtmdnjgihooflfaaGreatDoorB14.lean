/-
  OWN TEXT: PlainDr, SpecIn2, SpecD1, SpecD2, PlaceS0, SpecCab, SpecR.
-/
import Derived.Deep.LoopGhost
import Derived.Deep.DeepCutAuto
import Derived.Test.YtmdnjgihooflfaaGreatDoorB13
namespace Go.Proofs.YtmdnjgihooflfaaGreatDoor
open Go.RowKit
open Go.Value (int)
open Go.IntKind (i64)
open Tryz
set_option maxHeartbeats 64000000
set_option maxRecDepth 100000
def Apt (o:Off)(L:Nat->zY)(w:Wk):Prop:=w.res<3/\∀ k,k<o.san->(o.sa k).id=w.leg->if w.goes=true then zfn (L k) w.res w.who else ¬ zfn (L k) w.res w.who
def zdu (a b:Wk):Prop:=a.leg≠b.leg∨a.res≠b.res∨a.who≠b.who
def zht (L:Nat->zY)(k:Nat)(x:zY)(j:Nat):zY:=if j=k then x else L j
theorem Apt.after {o:Off}{L:Nat->zY}{w v:Wk}{k:Nat}{x:zY}(h:Apt o L v)(i:(o.sa k).id=w.leg)(l:zbO (o.sa k) w (L k) x)(f:zdu v w):Apt o (zht L k x) v:=by
 refine⟨h.1,λj g e=>?_⟩
 have a:=h.2 j g e;unfold zht
 by_cases c:j=k
 ·subst c
  rw[Jf rfl];have b:v.res≠w.res∨v.who≠w.who:=by
   rcases f with d|d
   ·exact absurd (by rw[← e,i]) d
   ·exact d
  rw[l.others h.1 b];exact a
 ·rw[Je c]
  exact a
theorem znp {o:Off}{L:Nat->zY}{w:Wk}{k:Nat}{x:zY}(h:∀ j,j<o.san->qm (o.sa j) (L j))(b:zbO (o.sa k) w (L k) x):∀ j,j<o.san->qm (o.sa j) (zht L k x j):=by
 intro j a;unfold zht
 by_cases c:j=k
 ·subst c;rw[Jf rfl];exact b.good (h j a)
 ·rw[Je c];exact h j a
theorem zeC (goes:Bool)(who:Int)(p:Qh)(leg:Int):∀ j,(Zd goes who p leg j).Pairwise zdu
 | 0=>List.Pairwise.nil
 | j+1=>by
  have d:=zeC goes who p leg j;unfold Zd
  split
  ·refine List.pairwise_append.2 ⟨d,List.pairwise_singleton _ _,λa e b c=>?_⟩
   have:=(zcp e).2.1;simp at c;subst c;exact .inr (.inl (by show a.res≠j;omega))
  ·exact d
theorem zbc (goes:Bool)(who:Int)(p:Qh)(F:Nat->Int):∀ k,(∀ i,i<k->∀ j,j<i->F j≠F i)->(Zh goes who p F k).Pairwise zdu
 | 0,_=>List.Pairwise.nil
 | k+1,h=>by
  unfold Zh;refine List.pairwise_append.2 ⟨zbc _ who p F k (λi c=>h i (by omega)),zeC _ _ _ _ _,λa f b g=>?_⟩
  obtain⟨⟨i,c,e⟩,_⟩:=zbb f;have d:=(zcp g).1;exact .inl (by rw[e,d];exact h k (by omega) i c)
theorem zkt {g h:Int}{n o:Qh}{c d:Nat->Int}{e f:Nat}(h1:∀ i,i<e->∀ j,j<i->c j≠c i)(h2:∀ i,i<f->∀ j,j<i->d j≠d i)(m:g≠h):(Zh true g n c e++Zh false h o d f).Pairwise zdu:=by
 refine List.pairwise_append.2 ⟨zbc _ _ _ _ _ h1,zbc _ _ _ _ _ h2,λa k b l=>?_⟩
 exact .inr (.inr (by rw[(zbb k).2.2.2.1,(zbb l).2.2.2.1];exact m))
theorem Qz (x:Int)(w:World) :
  Calls prog 89 #[int i64 x] w λe w'=>e=.returned (.bool (decide (In x 1 9999)))/\w'=w:=by
 go_enter func89,ntmps89;go_wp2_with (first|(go_at_call 148;refine(zt _ _ _ _).mono ?_;rintro e w' ⟨rfl,rfl⟩))
 go_ret;exact⟨rfl,rfl⟩
theorem zlU (o:Option Addr)(n c:Nat)(p:zH)(w:World)(s:p.n=n)(hn:n<=1048576)(v:zG w o p) :
  Calls prog 147 #[(o,n,c)] w λe w'=>qX (zhB p) e/\Below w.heap.size w w':=by
 have f:=hI s;clear s
 by_cases h0:n<=4
 ·have q:decide (4<n)=false:=by simp;omega
  go_enter func147,ntmps147;go_wp2;go_loopw [4,10] (λ_ i wr=>∃ k,k<=n/\i=int i64 k/\(∀ j,j<k->In (p.A j) 1 5000/\In (p.B j) 100 500)/\Below w.heap.size w wr) (λ_ i _=>n - (intOf i).toNat)
  case atStart=>exact⟨0,Jq _,rfl,λj l=>by omega,bZ⟩
  case round =>
   obtain⟨k,hk,rfl,d,a⟩:=hrel;have m:=hI d;clear d q
   by_cases hlt:k<n
   ·obtain⟨b,off,rfl,h1,h2⟩:=v k (by rw[f.out];omega)
    have r:=Ja w _ h1;have c1:=(a.cell r).trans h1;have c2:=(a.cell (p:=⟨b,_+1,_⟩) r).trans h2;clear h1 h2
    by_cases g1:In (p.A k) 1 5000
    ·have t:=Jd g1
     by_cases g2:In (p.B k) 100 500
     ·have u:=Jd g2
      have g:Hid (_/\_):=⟨g1,g2⟩;clear g1 g2;go_wp2_with (first|(go_at_call 148;refine sC (zt _ _ _ _) ?_))
      go_roundw
      case rel=>exact⟨k+1,by omega,by go_num,λj l=>by
       by_cases e:j=k
       ·subst e;exact g
       ·exact m j (by omega),zk a _⟩
      case measure=>simp[intOf];omega
     ·have u:=Jc g2
      have g:=hI g2;clear g1 g2;go_wp2_with (first|(go_at_call 148;refine sC (zt _ _ _ _) ?_))
      go_ret;exact⟨zl (λh=>g (h.2 k (by rw[f.out];exact hlt)).2),zk a _⟩
    ·have t:=Jc g1
     have g:=hI g1;clear g1;go_wp2_with (first|(go_at_call 148;refine sC (zt _ _ _ _) ?_))
     go_ret;exact⟨zl (λh=>g (h.2 k (by rw[f.out];exact hlt)).1),zk a _⟩
   ·obtain rfl:k=n:=by omega
    go_wp2;go_ret;exact⟨zR ⟨by rw[f.out];exact h0,λj l=>m j (by rw[f.out] at l;exact l)⟩,a⟩
 ·have q:decide (4<n)=true:=by simp;omega
  go_enter func147,ntmps147;go_wp2;go_ret;exact⟨zl (λh=>by have:=h.1;rw[f.out] at this;exact h0 this),bZ⟩
theorem zku (m:Option Addr)(n c:Nat)(S:Nat->Zp)(x:Int)(w:World)(hn:n<=1048576)(s:qw w m n S) :
  Calls prog 149 #[(m,n,c),x] w λe w'=>qX (Has (Qc S) n x) e/\Below w.heap.size w w':=by
 go_enter func149,ntmps149;go_wp2;go_loopw [6,9] (λ_ i wr=>∃ k,k<=n/\i=int i64 k/\(∀ j,j<k->Qc S j≠x)/\Below w.heap.size w wr) (λ_ i _=>n - (intOf i).toNat)
 case atStart=>exact⟨0,Jq _,rfl,λj r=>by omega,bZ⟩
 case round =>
  obtain⟨k,hk,rfl,d,a⟩:=hrel;have l:=hI d;clear d
  by_cases hlt2:k<n
  ·obtain⟨b,off,rfl,h,h1,h2,h3⟩:=s k hlt2
   have f:=Ja w _ h;have c0:=(a.cell f).trans h;have c1:=(a.cell (p:=⟨b,_+1,_⟩) f).trans h1;have c2:=(a.cell (p:=⟨b,_+2,_⟩) f).trans h2;have c3:=(a.cell (p:=⟨b,_+3,_⟩) f).trans h3;clear h h1 h2 h3
   by_cases he:Qc S k=x
   ·have q:((S k).who == x)=true:=by unfold Qc at he;simpa using he
    have g:Hid (Has _ n x):=⟨k,hlt2,he⟩;clear he;go_wp2;go_ret;exact⟨zR g,zk a _⟩
   ·have q:((S k).who == x)=false:=by unfold Qc at he;simpa using he
    have o:=hI he;clear he;go_wp2;go_roundw
    case rel=>exact⟨k+1,by omega,by go_num,λj r=>by
     by_cases e:j=k
     ·subst e;exact o
     ·exact l j (by omega),zk a _⟩
    case measure=>simp[intOf];omega
  ·obtain rfl:k=n:=by omega
   have g:=hI (zdp l);go_wp2;go_ret;exact⟨zl g,a⟩
theorem zhX (H bo:Option Addr)(m mc n c:Nat)(p:zH)(S:Nat->Zp)(w:World)(A:p.n=m)(y:zhB p)(hn:n<=60)(K:∀ j,j<n->In (S j).len 1 2000)(M:zG w H p)(N:qw w bo n S) :
  Calls prog 150 #[(H,m,mc),(bo,n,c)] w λe w'=>(∃ v,e=.returned v/\w'.ownsRow w.heap.size 3 1 v m (zS (QW p S n) m))/\Below w.heap.size w w':=by
 obtain⟨Y,Z,C,D,E⟩:=info_parts Tryz.infoInt;have q:=hI A;have F:=hI y;have G:=hI K;have R:=hI M;have T:=hI N;have V:m<=4:=by rw[← A];exact y.1
 clear A y K M N;go_enter func150,ntmps150;go_wp2;go_loopw [5,6,7,8,10,13,20,21,22] (λv _ _ _ _ i _ _ _ wr=>∃ k,k<=m/\i=int i64 k/\wr.ownsRow w.heap.size 3 1 v k (zS (QW p S n) k)/\Below w.heap.size w wr) (λ_ _ _ _ _ i _ _ _ _=>m - (intOf i).toNat)
 case atStart=>exact⟨0,Jq _,rfl,⟨rfl,.inl ⟨rfl,rfl⟩⟩,bZ⟩
 case round =>
  obtain⟨k,hk,rfl,g,f⟩:=hrel
  by_cases hlt:k<m
  ·obtain⟨b,off,rfl,h1,h2⟩:=R k (by rw[q.out];exact hlt)
   have I:=Ja w _ h1;have c1:=(f.cell I).trans h1;have c2:=(f.cell (p:=⟨b,_+1,_⟩) I).trans h2;have HA:=hI (F.2 k (by rw[q.out];exact hlt)).1
   clear h1 h2;go_wp2;go_loopw [8,10,22] (λs8 _ i P=>∃ t,t<=n/\i=int i64 t/\s8=int i64 (QW p S t k)/\P.ownsRow w.heap.size 3 1 u5 k (zS (QW p S n) k)/\Below w.heap.size w P) (λ_ _ i _=>n - (intOf i).toNat)
   case atStart=>exact⟨0,Jq _,rfl,by rw[left_0],zo (zk bZ _) g,zk f _⟩
   case round =>
    obtain⟨t,ht,rfl,rfl,d,a⟩:=hrel;clear g f c1 c2
    by_cases hlt2:t<n
    ·obtain⟨s,O,rfl,x,h1,h2,h3⟩:=T t hlt2
     have l:=Ja w _ x;have c0:=(a.cell l).trans x;have c1:=(a.cell (p:=⟨s,_+1,_⟩) l).trans h1;have c2:=(a.cell (p:=⟨s,_+2,_⟩) l).trans h2;have c3:=(a.cell (p:=⟨s,_+3,_⟩) l).trans h3;clear x h1 h2 h3
     by_cases he:(S t).ln=(k:Int)
     ·have U:((S t).ln == (k:Int))=true:=by simpa using he
      have o:=hI he;have X:IntKind.i64.wrap (QW p S t k - (S t).len)=QW p S t k - (S t).len:=by
       have h1:=zgB F (show t<=60 by omega) (λj J=>G j (by omega)) (show k<p.n by rw[q.out];exact hlt)
       have h2:=G t hlt2;unfold In at h2;rw[Jk];omega
      clear he;go_wp2;go_roundw
      case rel=>exact⟨t+1,by omega,by go_num,by rw[zgA p S t k o.out],zo (zk bZ _) d,zk a _⟩
      case measure=>simp[intOf];omega
     ·have U:((S t).ln == (k:Int))=false:=by simpa using he
      have o:=hI he;clear he;go_wp2;go_roundw
      case rel=>exact⟨t+1,by omega,by go_num,by rw[ziF p S t k o.out],zo (zk bZ _) d,zk a _⟩
      case measure=>simp[intOf];omega
    ·obtain rfl:t=n:=by omega
     have W:=a.size;have Q:Hid (∀ r,(some (wr.heap.size,0):Option Addr)=some r->∀ j u,[Value.int .i64 (QW p S t k)][j]?=some u->(wr.alloc (.cells #[(QW p S t k)] 3)).cell? (r.add j)=some u):=by
      intro r e
      cases e
      exact Jo (Jb wr _)
     go_wp2_with (first|(at_builtin;refine zv _ rfl _ _ 27 rfl _ 3 Y _ 1 8 underlying27 Z C D E rfl (by decide) _ k _ (by rfl) (d.alloc _) _ 1 1 _ rfl (λh=>(by cases h)) rfl Q (by intro u L;simp at L;subst L;rfl) (by unfold maxLen;omega) (by omega) (by simp;omega) ?_;intro v' w3 B z))
     go_roundw
     case rel=>exact⟨k+1,by omega,by go_num,by rw[zfx];exact B,(zk a _).grown z (by simp;omega) (λj J=>(d.lt j J).1)⟩
     case measure=>simp[intOf];omega
  ·obtain rfl:k=m:=by omega
   go_wp2;go_ret;exact⟨⟨_,rfl,g⟩,f⟩
theorem zkv (N bo:Option Addr)(m mc n c:Nat)(p:zH)(S:Nat->Zp)(w:World)(C:p.n=m)(hm:m<=1048576)(hn:n<=1048576)(hc:n<=c)(hx:zG w N p)(hz:qw w bo n S) :
  Calls prog 82 #[(N,m,mc),(bo,n,c)] w λe w'=>qX (DeckS p n S) e/\Below w.heap.size w w':=by
 have y:=hI C;have HX:=hI hx;have M:=hI hz;clear C hx hz;go_enter func82,ntmps82;go_wp2_with fail;refine(zlU N m mc p _ y hm HX).mono ?_;rintro e w1 ⟨⟨q,rfl,T⟩,u⟩
 cases q with
 | false =>
  have F:Hid (¬ _):=λh=>by have:=T.2 h;cases this
  clear T;go_wp2;go_ret;exact⟨zl (λh=>F h.1),u⟩
 | true =>
  have F:=hI (T.1 rfl);have a5:m<=4:=by rw[← y.out];exact F.1
  clear T
  by_cases h60:n<=60
  ·have d0:decide (60<n)=false:=by simp;omega
   have a6:IntKind.i64.wrap ((m:Int) - 1)=(m:Int) - 1:=by rw[Jk];omega
   go_wp2;go_loopw [5,6,19] (λ_ _ i wr=>∃ k,k<=n/\i=int i64 k/\(∀ j,j<k->OkS p S j)/\Below w.heap.size w wr) (λ_ _ i _=>n - (intOf i).toNat)
   case atStart=>exact⟨0,Jq _,rfl,λj z=>by omega,u⟩
   case round =>
    obtain⟨i,R,rfl,r,a⟩:=hrel;have Z:=hI r;clear r u
    by_cases hlt:i<n
    ·obtain⟨b,off,rfl,P,h1,h2,h3⟩:=M i hlt
     have Q:=Ja w _ P;have c0:=(a.cell Q).trans P;have c1:=(a.cell (p:=⟨b,_+1,_⟩) Q).trans h1;have c2:=(a.cell (p:=⟨b,_+2,_⟩) Q).trans h2;have c3:=(a.cell (p:=⟨b,_+3,_⟩) Q).trans h3;have d:=Jb wr (.cells #[(S i).who,(S i).ln,(S i).len,(S i).hei] 220);have f:=zk a (.cells #[(S i).who,(S i).ln,(S i).len,(S i).hei] 220);clear P h1 h2 h3;go_upto_region 6 with fail;generalize hW:wr.alloc _=W at d f ⊢;clear hW;have x:=zM d;have z0:∀ g:zn W,g.val.cell? _=some (.int _ _):=λg=>(g.bel.cell x).trans (za d 0 _ rfl)
     have z1:∀ g:zn W,g.val.cell? _=some (.int _ _):=λg=>(g.bel.cell x).trans (za d 1 _ rfl)
     have z2:∀ g:zn W,g.val.cell? _=some (.int _ _):=λg=>(g.bel.cell x).trans (za d 2 _ rfl)
     have z3:∀ g:zn W,g.val.cell? _=some (.int _ _):=λg=>(g.bel.cell x).trans (za d 3 _ rfl)
     have i1:(0:Int)<=(i:Int):=by omega
     have i2:(i:Int)<=(c:Int):=by omega
     clear c0 c1 c2 c3 d a
     by_cases g1:In (S i).who 1 9999
     ·have t:=Jd g1
      have U:=hI g1;clear g1
      by_cases g2:In (S i).ln 0 ((m:Int) - 1)
      ·have V:Hid (In (S i).ln 0 ((p.n:Int) - 1)):=by rw[y.out];exact g2
       obtain⟨l,C⟩:∃ l:Nat,(S i).ln=l:=⟨(S i).ln.toNat,by unfold In at g2;omega⟩
       have a2:l<m:=by unfold In at g2;omega
       have G:=hI C;have D:decide (In (l:Int) 0 _)=true:=Jd (by rw[← C];exact g2)
       have a7:∀ g:zn W,g.val.cell? _=_:=λg=>by rw[z1 g,C]
       obtain⟨b',a3,rfl,k1,k2⟩:=HX l (by rw[y.out];exact a2)
       have a1:=Ja w _ k1;have y2:∀ g:zn W,_:=λg=>((ze f g.bel).cell (p:=⟨b',_+1,_⟩) a1).trans k2
       have l1:(0:Int)<=(l:Int):=by omega
       have l2:(l:Int)<(m:Int):=by omega
       clear g2 z1 C k1 k2
       by_cases g3:In (S i).len 1 2000
       ·have H:=Jd g3
        have X:=hI g3;clear g3
        by_cases g4:In (S i).hei 1 (p.B l)
        ·have O:=Jd g4
         have Y:=hI g4;clear g4
         by_cases g5:Has (Qc S) i (S i).who
         ·have E:=hI g5
          clear g5;refine zh (by kernel_rfl) (by kernel_rfl) ?_
          repeat(first|go_big_quiet_skip|(go_big_quiet_want;go_big_quiet_op;first|go_big_quiet_on|(apply Jg;refine⟨λg=>?_,?_⟩;(focus(first|(go_at_call 89;refine zf (v:=.bool true) ((Qz _ _).mono ?_);rintro e o ⟨rfl,rfl⟩;exact⟨by rw[t],bZ⟩)|(go_at_call 148;first|(refine zf (v:=.bool true) ((zt _ _ _ _).mono ?_);rintro e o ⟨rfl,rfl⟩;exact⟨by rw[D],bZ⟩)|(refine zf (v:=.bool true) ((zt _ _ _ _).mono ?_);rintro e o ⟨rfl,rfl⟩;exact⟨by rw[H],bZ⟩)|(refine zf (v:=.bool true) ((zt _ _ _ _).mono ?_);rintro e o ⟨rfl,rfl⟩;exact⟨by rw[O],bZ⟩))|(go_at_call 149;refine zf (v:=.bool true) ((zku _ i c S _ _ (by omega) ((M.upto (by omega)).below (ze f g.bel))).mono ?_);rintro e o ⟨⟨bb,rfl,R⟩,B⟩;obtain rfl:=R.2 E;exact⟨rfl,B⟩)));go_big_quiet_on)))
          refine Jl ?_;rintro _ ⟨g,rfl⟩;go_wp2;go_ret;exact⟨zl (λh=>(h.2.2.1 i hlt).2.2.2.2 E),ze f g.bel⟩
         ·have E:=hI g5
          clear g5;refine zh (by kernel_rfl) (by kernel_rfl) ?_
          repeat(first|go_big_quiet_skip|(go_big_quiet_want;go_big_quiet_op;first|go_big_quiet_on|(apply Jg;refine⟨λg=>?_,?_⟩;(focus(first|(go_at_call 89;refine zf (v:=.bool true) ((Qz _ _).mono ?_);rintro e o ⟨rfl,rfl⟩;exact⟨by rw[t],bZ⟩)|(go_at_call 148;first|(refine zf (v:=.bool true) ((zt _ _ _ _).mono ?_);rintro e o ⟨rfl,rfl⟩;exact⟨by rw[D],bZ⟩)|(refine zf (v:=.bool true) ((zt _ _ _ _).mono ?_);rintro e o ⟨rfl,rfl⟩;exact⟨by rw[H],bZ⟩)|(refine zf (v:=.bool true) ((zt _ _ _ _).mono ?_);rintro e o ⟨rfl,rfl⟩;exact⟨by rw[O],bZ⟩))|(go_at_call 149;refine zf (v:=.bool false) ((zku _ i c S _ _ (by omega) ((M.upto (by omega)).below (ze f g.bel))).mono ?_);rintro e o ⟨⟨bb,rfl,R⟩,B⟩;obtain rfl:=Bool.eq_false_iff.2 (λe=>E (R.1 e));exact⟨rfl,B⟩)));go_big_quiet_on)))
          refine Jl ?_;rintro _ ⟨g,rfl⟩;go_wp2;have a0:Hid (∀ j,j<i+1->OkS p S j):=λj z=>by
           by_cases e:j=i
           ·subst e;exact⟨U,V,X,by rw[G.out];exact Y,E⟩
           ·exact Z j (by omega)
          go_roundw
          case rel=>exact⟨_,by omega,by go_num,a0,ze f g.bel⟩
          case measure=>simp[intOf];omega
        ·have O:=Jc g4
         have Y:=hI g4;clear g4;refine zh (by kernel_rfl) (by kernel_rfl) ?_
         repeat(first|go_big_quiet_skip|(go_big_quiet_want;go_big_quiet_op;first|go_big_quiet_on|(apply Jg;refine⟨λg=>?_,?_⟩;(focus(first|(go_at_call 89;refine zf (v:=.bool true) ((Qz _ _).mono ?_);rintro e o ⟨rfl,rfl⟩;exact⟨by rw[t],bZ⟩)|(go_at_call 148;first|(refine zf (v:=.bool true) ((zt _ _ _ _).mono ?_);rintro e o ⟨rfl,rfl⟩;exact⟨by rw[D],bZ⟩)|(refine zf (v:=.bool true) ((zt _ _ _ _).mono ?_);rintro e o ⟨rfl,rfl⟩;exact⟨by rw[H],bZ⟩)|(refine zf (v:=.bool false) ((zt _ _ _ _).mono ?_);rintro e o ⟨rfl,rfl⟩;exact⟨by rw[O],bZ⟩))));go_big_quiet_on)))
         refine Jl ?_;rintro _ ⟨g,rfl⟩;go_wp2;go_ret;exact⟨zl (λh=>Y (by have:=(h.2.2.1 i hlt).2.2.2.1;rw[G.out] at this;exact this)),ze f g.bel⟩
       ·have H:=Jc g3
        have X:=hI g3;clear g3;refine zh (by kernel_rfl) (by kernel_rfl) ?_
        repeat(first|go_big_quiet_skip|(go_big_quiet_want;go_big_quiet_op;first|go_big_quiet_on|(apply Jg;refine⟨λg=>?_,?_⟩;(focus(first|(go_at_call 89;refine zf (v:=.bool true) ((Qz _ _).mono ?_);rintro e o ⟨rfl,rfl⟩;exact⟨by rw[t],bZ⟩)|(go_at_call 148;first|(refine zf (v:=.bool true) ((zt _ _ _ _).mono ?_);rintro e o ⟨rfl,rfl⟩;exact⟨by rw[D],bZ⟩)|(refine zf (v:=.bool false) ((zt _ _ _ _).mono ?_);rintro e o ⟨rfl,rfl⟩;exact⟨by rw[H],bZ⟩))));go_big_quiet_on)))
        refine Jl ?_;rintro _ ⟨g,rfl⟩;go_wp2;go_ret;exact⟨zl (λh=>X (h.2.2.1 i hlt).2.2.1),ze f g.bel⟩
      ·have D:=Jc g2
       have V:Hid (¬ In (S i).ln 0 ((p.n:Int) - 1)):=by rw[y.out];exact g2
       clear g2;refine zh (by kernel_rfl) (by kernel_rfl) ?_
       repeat(first|go_big_quiet_skip|(go_big_quiet_want;go_big_quiet_op;first|go_big_quiet_on|(apply Jg;refine⟨λg=>?_,?_⟩;(focus(first|(go_at_call 89;refine zf (v:=.bool true) ((Qz _ _).mono ?_);rintro e o ⟨rfl,rfl⟩;exact⟨by rw[t],bZ⟩)|(go_at_call 148;first|(refine zf (v:=.bool false) ((zt _ _ _ _).mono ?_);rintro e o ⟨rfl,rfl⟩;exact⟨by rw[D],bZ⟩))));go_big_quiet_on)))
       refine Jl ?_;rintro _ ⟨g,rfl⟩;go_wp2;go_ret;exact⟨zl (λh=>V (h.2.2.1 i hlt).2.1),ze f g.bel⟩
     ·have t:=Jc g1
      have U:=hI g1;clear g1;refine zh (by kernel_rfl) (by kernel_rfl) ?_
      repeat(first|go_big_quiet_skip|(go_big_quiet_want;go_big_quiet_op;first|go_big_quiet_on|(apply Jg;refine⟨λg=>?_,?_⟩;(focus(first|(go_at_call 89;refine zf (v:=.bool false) ((Qz _ _).mono ?_);rintro e o ⟨rfl,rfl⟩;exact⟨by rw[t],bZ⟩)));go_big_quiet_on)))
      refine Jl ?_;rintro _ ⟨g,rfl⟩;go_wp2;go_ret;exact⟨zl (λh=>U (h.2.2.1 i hlt).1),ze f g.bel⟩
    ·obtain rfl:i=n:=by omega
     go_wp2_with fail;refine(zhX N bo m mc i c p S _ y F h60 (λj z=>(Z j z).2.2.1) (HX.below a) (M.below a)).mono ?_
     rintro e w2 ⟨⟨v,rfl,s⟩,I⟩;obtain⟨aw,cw,rfl,_⟩:=zp s;have HI:=hI (zbo s);have J:=ze a I;clear s I a;go_wp2;go_loopw [8,68] (λ_ j wr=>∃ k,k<=m/\j=int i64 k/\(∀ j,j<k->0<=QW p S i j)/\wr=w2) (λ_ j _=>m - (intOf j).toNat)
     case atStart=>exact⟨0,Jq _,rfl,λj z=>by omega,rfl⟩
     case round =>
      obtain⟨k,hk,rfl,r,K⟩:=hrel;have L:=K.symm;subst L;clear K;have HK:=hI r;clear r
      by_cases hlt3:k<m
      ·obtain⟨b3,a4,rfl,P⟩:=HI k hlt3
       by_cases hneg:QW p S i k<0
       ·have t:=Jd hneg
        have A:=hI hneg;clear hneg;go_wp2;go_ret;exact⟨zl (λh=>by have:=h.2.2.2 k (by rw[y.out];exact hlt3);have:=A.out;omega),J⟩
       ·have t:=Jc hneg
        have A:=hI hneg;clear hneg;go_wp2;go_roundw
        case rel=>exact⟨k+1,by omega,by go_num,λj z=>by
         by_cases e:j=k
         ·subst e;have:=A.out;omega
         ·exact HK j (by omega),by trivial⟩
        case measure=>simp[intOf];omega
      ·obtain rfl:k=m:=by omega
       go_wp2;go_ret;exact⟨zR ⟨F,h60,Z,λj z=>HK j (by rw[y.out] at z;exact z)⟩,J⟩
  ·have d0:decide (60<n)=true:=by simp;omega
   go_wp2;go_ret;exact⟨zl (λh=>h60 h.2.1),u⟩
def zen (p:zH)(n:Nat)(S:Nat->Zp)(len hei:Int)(r:Int):Prop :=
 (∃ k:Nat,r=(k:Int)/\n≠60/\zba p (QW p S n) len hei k)∨(r=-1/\(n=60∨∀ k,¬ zba p (QW p S n) len hei k))
theorem zlV (x bo:Option Addr)(m J n c:Nat)(p:zH)(S:Nat->Zp)(len hei:Int)(w:World)(B:p.n=m)(u:zfj p n S)(H:zG w x p)(I:qw w bo n S) :
  Calls prog 166 #[(x,m,J),(bo,n,c),len,hei] w λe w'=>(∃ r:Int,e=.returned r/\zen p n S len hei r)/\Below w.heap.size w w':=by
 have t:=hI B;have D:=hI u;have E:=hI H;have M:=hI I;have P:m<=4:=by rw[← B];exact u.1.1
 have q:=u.2.1;clear B u H I
 by_cases h60:n=60
 ·have y:(n == 60)=true:=by simpa using h60
  have z:((n:Int) == 60)=true:=by simp;omega
  have l:=hI h60;clear h60;go_enter func166,ntmps166;go_wp2;go_ret;exact⟨⟨_,rfl,.inr ⟨rfl,.inl l⟩⟩,bZ⟩
 ·have y:(n == 60)=false:=by simpa using h60
  have z:((n:Int) == 60)=false:=by simp;omega
  have l:=hI h60;clear h60;go_enter func166,ntmps166;go_wp2_with fail;refine(zhX x bo m J n c p S _ t D.1 q D.lens E M).mono ?_;rintro e C ⟨⟨v,rfl,d⟩,f⟩;obtain⟨aw,cw,rfl,_⟩:=zp d;have L:=hI (zbo d);clear d;go_wp2;go_loopw [10,11,20] (λ_ _ i wr=>∃ k,k<=m/\i=int i64 k/\(∀ j,j<k->¬ (hei<=p.B j/\len<=QW p S n j))/\Below C.heap.size C wr) (λ_ _ i _=>m - (intOf i).toNat)
  case atStart=>exact⟨0,Jq _,rfl,λj G=>by omega,bZ⟩
  case round =>
   obtain⟨k,hk,rfl,g,a⟩:=hrel;have s:=hI g;clear g
   by_cases hlt:k<m
   ·obtain⟨b,off,rfl,h1,h2⟩:=E k (by rw[t.out];exact hlt)
    have F:=Ja w _ h1;have c1:=((ze f a).cell F).trans h1;have c2:=((ze f a).cell (p:=⟨b,_+1,_⟩) F).trans h2;obtain⟨b3,K,rfl,h3⟩:=L k hlt;have A:=Ja C _ h3;have c3:(wr.alloc (.cells #[(p.A k),(p.B k)] 223)).cell? _=_:=((zk a _).cell A).trans h3;have i1:(0:Int)<=(k:Int):=by omega
    have i2:(k:Int)<(m:Int):=by omega
    clear h1 h2 h3
    by_cases g1:hei<=p.B k
    ·have N:=Jd g1
     by_cases g2:len<=QW p S n k
     ·have O:=Jd g2
      have o:Hid (zba p _ len hei k):=⟨by rw[t.out];exact hlt,⟨g1,g2⟩,s⟩
      clear g1 g2;go_wp2;go_ret;exact⟨⟨_,rfl,.inl ⟨k,rfl,l,o⟩⟩,ze f (zk a _)⟩
     ·have O:=Jc g2
      have o:Hid (¬ (hei<=p.B k/\_)):=λh=>g2 h.2
      clear g1 g2;go_wp2;go_roundw
      case rel=>exact⟨k+1,by omega,by go_num,λj G=>by
       by_cases e:j=k
       ·subst e;exact o
       ·exact s j (by omega),zk a _⟩
      case measure=>simp[intOf];omega
    ·have N:=Jc g1
     have o:Hid (¬ (_/\len<=QW p S n k)):=λh=>g1 h.1
     clear g1;go_wp2;go_roundw
     case rel=>exact⟨k+1,by omega,by go_num,λj G=>by
      by_cases e:j=k
      ·subst e;exact o
      ·exact s j (by omega),zk a _⟩
     case measure=>simp[intOf];omega
   ·obtain rfl:k=m:=by omega
    go_wp2;go_ret;exact⟨⟨_,rfl,.inr ⟨rfl,.inr (λj h=>s j (by have:=h.1;rw[t.out] at this;exact this) h.2.1)⟩⟩,ze f a⟩
theorem zkw (o:Option Addr)(n c:Nat)(p:zH)(w:World)(s:p.n=n)(hn:n<=1048576)(v:zG w o p) :
  Calls prog 151 #[(o,n,c)] w λe w'=>qX (zaZ p 6 1 3 1 4) e/\Below w.heap.size w w':=by
 have f:=hI s;clear s
 by_cases h0:n<=6
 ·have q:decide (6<n)=false:=by simp;omega
  go_enter func151,ntmps151;go_wp2;go_loopw [4,10] (λ_ i wr=>∃ k,k<=n/\i=int i64 k/\(∀ j,j<k->In (p.A j) 1 3/\In (p.B j) 1 4)/\Below w.heap.size w wr) (λ_ i _=>n - (intOf i).toNat)
  case atStart=>exact⟨0,Jq _,rfl,λj l=>by omega,bZ⟩
  case round =>
   obtain⟨k,hk,rfl,d,a⟩:=hrel;have m:=hI d;clear d q
   by_cases hlt:k<n
   ·obtain⟨b,off,rfl,h1,h2⟩:=v k (by rw[f.out];omega)
    have r:=Ja w _ h1;have c1:=(a.cell r).trans h1;have c2:=(a.cell (p:=⟨b,_+1,_⟩) r).trans h2;clear h1 h2
    by_cases g1:In (p.A k) 1 3
    ·have t:=Jd g1
     by_cases g2:In (p.B k) 1 4
     ·have u:=Jd g2
      have g:Hid (_/\_):=⟨g1,g2⟩;clear g1 g2;go_wp2_with (first|(go_at_call 148;refine sC (zt _ _ _ _) ?_))
      go_roundw
      case rel=>exact⟨k+1,by omega,by go_num,λj l=>by
       by_cases e:j=k
       ·subst e;exact g
       ·exact m j (by omega),zk a _⟩
      case measure=>simp[intOf];omega
     ·have u:=Jc g2
      have g:=hI g2;clear g1 g2;go_wp2_with (first|(go_at_call 148;refine sC (zt _ _ _ _) ?_))
      go_ret;exact⟨zl (λh=>g (h.2 k (by rw[f.out];exact hlt)).2),zk a _⟩
    ·have t:=Jc g1
     have g:=hI g1;clear g1;go_wp2_with (first|(go_at_call 148;refine sC (zt _ _ _ _) ?_))
     go_ret;exact⟨zl (λh=>g (h.2 k (by rw[f.out];exact hlt)).1),zk a _⟩
   ·obtain rfl:k=n:=by omega
    go_wp2;go_ret;exact⟨zR ⟨by rw[f.out];exact h0,λj l=>m j (by rw[f.out] at l;exact l)⟩,a⟩
 ·have q:decide (6<n)=true:=by simp;omega
  go_enter func151,ntmps151;go_wp2;go_ret;exact⟨zl (λh=>by have:=h.1;rw[f.out] at this;exact h0 this),bZ⟩
theorem zcw (m:Option Addr)(n c:Nat)(S:Nat->qN)(x:Int)(w:World)(hn:n<=1048576)(s:qp w m n S) :
  Calls prog 152 #[(m,n,c),x] w λe w'=>qX (Has (ZV S) n x) e/\Below w.heap.size w w':=by
 go_enter func152,ntmps152;go_wp2;go_loopw [6,9] (λ_ i wr=>∃ k,k<=n/\i=int i64 k/\(∀ j,j<k->ZV S j≠x)/\Below w.heap.size w wr) (λ_ i _=>n - (intOf i).toNat)
 case atStart=>exact⟨0,Jq _,rfl,λj r=>by omega,bZ⟩
 case round =>
  obtain⟨k,hk,rfl,d,a⟩:=hrel;have l:=hI d;clear d
  by_cases hlt2:k<n
  ·obtain⟨b,off,rfl,h,h1,h2,h3⟩:=s k hlt2
   have f:=Ja w _ h;have c0:=(a.cell f).trans h;have c1:=(a.cell (p:=⟨b,_+1,_⟩) f).trans h1;have c2:=(a.cell (p:=⟨b,_+2,_⟩) f).trans h2;have c3:=(a.cell (p:=⟨b,_+3,_⟩) f).trans h3;clear h h1 h2 h3
   by_cases he:ZV S k=x
   ·have q:((S k).who == x)=true:=by unfold ZV at he;simpa using he
    have g:Hid (Has _ n x):=⟨k,hlt2,he⟩;clear he;go_wp2;go_ret;exact⟨zR g,zk a _⟩
   ·have q:((S k).who == x)=false:=by unfold ZV at he;simpa using he
    have o:=hI he;clear he;go_wp2;go_roundw
    case rel=>exact⟨k+1,by omega,by go_num,λj r=>by
     by_cases e:j=k
     ·subst e;exact o
     ·exact l j (by omega),zk a _⟩
    case measure=>simp[intOf];omega
  ·obtain rfl:k=n:=by omega
   have g:=hI (zdp l);go_wp2;go_ret;exact⟨zl g,a⟩
theorem zfo (G bo:Option Addr)(m mc n c:Nat)(p:zH)(S:Nat->qN)(w:World)(z:p.n=m)(x:zgt p)(hn:n<=60)(J:∀ j,j<n->In (S j).many 1 4)(L:zG w G p)(M:qp w bo n S) :
  Calls prog 153 #[(G,m,mc),(bo,n,c)] w λe w'=>(∃ v,e=.returned v/\w'.ownsRow w.heap.size 3 1 v m (zS (Za p S n) m))/\Below w.heap.size w w':=by
 obtain⟨Y,Z,B,C,D⟩:=info_parts Tryz.infoInt;have E:=hI z;have Q:=hI x;have F:=hI J;have R:=hI L;have T:=hI M;have V:m<=6:=by rw[← z];exact x.1
 clear z x J L M;go_enter func153,ntmps153;go_wp2;go_loopw [5,6,7,8,10,13,20,21,22] (λv _ _ _ _ i _ _ _ wr=>∃ k,k<=m/\i=int i64 k/\wr.ownsRow w.heap.size 3 1 v k (zS (Za p S n) k)/\Below w.heap.size w wr) (λ_ _ _ _ _ i _ _ _ _=>m - (intOf i).toNat)
 case atStart=>exact⟨0,Jq _,rfl,⟨rfl,.inl ⟨rfl,rfl⟩⟩,bZ⟩
 case round =>
  obtain⟨k,hk,rfl,g,f⟩:=hrel
  by_cases hlt:k<m
  ·obtain⟨b,off,rfl,h1,h2⟩:=R k (by rw[E.out];exact hlt)
   have H:=Ja w _ h1;have c1:=(f.cell H).trans h1;have c2:=(f.cell (p:=⟨b,_+1,_⟩) H).trans h2;clear h1 h2;go_wp2;go_loopw [8,10,22] (λs8 _ i O=>∃ t,t<=n/\i=int i64 t/\s8=int i64 (Za p S t k)/\O.ownsRow w.heap.size 3 1 u5 k (zS (Za p S n) k)/\Below w.heap.size w O) (λ_ _ i _=>n - (intOf i).toNat)
   case atStart=>exact⟨0,Jq _,rfl,by rw[ziC],zo (zk bZ _) g,zk f _⟩
   case round =>
    obtain⟨t,ht,rfl,rfl,d,a⟩:=hrel;clear g f c1 c2
    by_cases hlt2:t<n
    ·obtain⟨r,N,rfl,s,h1,h2,h3⟩:=T t hlt2
     have l:=Ja w _ s;have c0:=(a.cell l).trans s;have c1:=(a.cell (p:=⟨r,_+1,_⟩) l).trans h1;have c2:=(a.cell (p:=⟨r,_+2,_⟩) l).trans h2;have c3:=(a.cell (p:=⟨r,_+3,_⟩) l).trans h3;clear s h1 h2 h3
     by_cases he:(S t).cab=(k:Int)
     ·have U:((S t).cab == (k:Int))=true:=by simpa using he
      have o:=hI he;have X:IntKind.i64.wrap (Za p S t k - (S t).many)=Za p S t k - (S t).many:=by
       have h1:=zdq Q (show t<=60 by omega) (λj I=>F j (by omega)) (show k<p.n by rw[E.out];exact hlt)
       have h2:=F t hlt2;unfold In at h2;rw[Jk];omega
      clear he;go_wp2;go_roundw
      case rel=>exact⟨t+1,by omega,by go_num,by rw[zdK p S t k o.out],zo (zk bZ _) d,zk a _⟩
      case measure=>simp[intOf];omega
     ·have U:((S t).cab == (k:Int))=false:=by simpa using he
      have o:=hI he;clear he;go_wp2;go_roundw
      case rel=>exact⟨t+1,by omega,by go_num,by rw[zgb p S t k o.out],zo (zk bZ _) d,zk a _⟩
      case measure=>simp[intOf];omega
    ·obtain rfl:t=n:=by omega
     have W:=a.size;have P:Hid (∀ q,(some (wr.heap.size,0):Option Addr)=some q->∀ j u,[Value.int .i64 (Za p S t k)][j]?=some u->(wr.alloc (.cells #[(Za p S t k)] 3)).cell? (q.add j)=some u):=by
      intro q e
      cases e
      exact Jo (Jb wr _)
     go_wp2_with (first|(at_builtin;refine zv _ rfl _ _ 27 rfl _ 3 Y _ 1 8 underlying27 Z B C D rfl (by decide) _ k _ (by rfl) (d.alloc _) _ 1 1 _ rfl (λh=>(by cases h)) rfl P (by intro u K;simp at K;subst K;rfl) (by unfold maxLen;omega) (by omega) (by simp;omega) ?_;intro v' w3 A y))
     go_roundw
     case rel=>exact⟨k+1,by omega,by go_num,by rw[zfx];exact A,(zk a _).grown y (by simp;omega) (λj I=>(d.lt j I).1)⟩
     case measure=>simp[intOf];omega
  ·obtain rfl:k=m:=by omega
   go_wp2;go_ret;exact⟨⟨_,rfl,g⟩,f⟩
theorem ziL (ao bo:Option Addr)(m mc n c:Nat)(p:zH)(S:Nat->qN)(w:World)(R:p.n=m)(hm:m<=1048576)(hn:n<=1048576)(hc:n<=c)(hx:zG w ao p)(hz:qp w bo n S) :
  Calls prog 83 #[(ao,m,mc),(bo,n,c)] w λe w'=>qX (Qr p n S) e/\Below w.heap.size w w':=by
 have J:=hI R;have HX:=hI hx;have G:=hI hz;clear R hx hz;go_enter func83,ntmps83;go_wp2_with fail;refine(zkw ao m mc p _ J hm HX).mono ?_;rintro e w1 ⟨⟨q,rfl,hq⟩,H⟩
 cases q with
 | false =>
  have U:Hid (¬ zgt p):=λh=>by have:=hq.2 h;cases this
  clear hq;go_wp2;go_ret;exact⟨zl (λh=>U h.1),H⟩
 | true =>
  have U:Hid (zgt p):=hq.1 rfl;have b1:m<=6:=by rw[← J.out];exact U.1
  clear hq
  by_cases h60:n<=60
  ·have d0:decide (60<n)=false:=by simp;omega
   have b4:IntKind.i64.wrap ((m:Int) - 1)=(m:Int) - 1:=by rw[Jk];omega
   go_wp2;go_loopw [5,6,8,21,70,71,72] (λ_ _ _ i _ _ _ wr=>∃ k,k<=n/\i=int i64 k/\(∀ j,j<k->OkR p S j)/\Below w.heap.size w wr) (λ_ _ _ i _ _ _ _=>n - (intOf i).toNat)
   case atStart=>exact⟨0,Jq _,rfl,λj C=>by omega,H⟩
   case round =>
    obtain⟨i,z,rfl,d,f⟩:=hrel;have HA:=hI d;clear d H
    by_cases hlt:i<n
    ·obtain⟨b,off,rfl,N,h1,h2,h3⟩:=G i hlt
     have K:=Ja w _ N;have c0:=(f.cell K).trans N;have c1:=(f.cell (p:=⟨b,_+1,_⟩) K).trans h1;have c2:=(f.cell (p:=⟨b,_+2,_⟩) K).trans h2;have c3:=(f.cell (p:=⟨b,_+3,_⟩) K).trans h3;have u:=Jb wr (.cells #[(S i).who,(S i).cab,(S i).many,(S i).all] 228);have r:=zk f (.cells #[(S i).who,(S i).cab,(S i).many,(S i).all] 228);clear N h1 h2 h3;go_upto_region 6 with fail;generalize hW:wr.alloc _=W at u r ⊢;clear hW;have I:=zM u;have x:=hI u;generalize wr.heap.size=B at *;clear c0 c1 c2 c3 u f;have i1:(0:Int)<=(i:Int):=by omega
     have i2:(i:Int)<=(c:Int):=by omega
     go_cut [67] (λa5 wx=>zll (OkR0 p S i) a5/\Below W.heap.size W wx)
     case first =>
      have z0:∀ g:zn W,g.val.cell? _=some (.int _ _):=λg=>(g.bel.cell I).trans (za x 0 _ rfl)
      have z1:∀ g:zn W,g.val.cell? _=some (.int _ _):=λg=>(g.bel.cell I).trans (za x 1 _ rfl)
      have z2:∀ g:zn W,g.val.cell? _=some (.int _ _):=λg=>(g.bel.cell I).trans (za x 2 _ rfl)
      have z3:∀ g:zn W,g.val.cell? _=some (.bool _):=λg=>(g.bel.cell I).trans (za x 3 _ rfl)
      by_cases g1:In (S i).who 1 9999
      ·have y:=Jd g1
       have H1:=hI g1;clear g1
       by_cases g2:Has (ZV S) i (S i).who
       ·have E:=hI g2
        clear g2;refine zh (by kernel_rfl) (by kernel_rfl) ?_
        repeat(first|go_big_quiet_skip|(go_big_quiet_want;go_big_quiet_op;first|go_big_quiet_on|(apply Jg;refine⟨λg=>?_,?_⟩;(focus(first|(go_at_call 89;refine zf (v:=.bool true) ((Qz _ _).mono ?_);rintro e s ⟨rfl,rfl⟩;exact⟨by rw[y],bZ⟩)|(go_at_call 152;refine zf (v:=.bool true) ((zcw _ i c S _ _ (by omega) ((G.upto (by omega)).below (ze r g.bel))).mono ?_);rintro e s ⟨⟨bb,rfl,z⟩,o⟩;obtain rfl:=z.2 E;exact⟨rfl,o⟩)));go_big_quiet_on)))
        refine Jl ?_;rintro _ ⟨g,rfl⟩;go_wp2;go_meet;exact⟨QP (λh=>h.2.1 E),g.bel⟩
       ·have E:=hI g2
        clear g2
        by_cases g3:In (S i).cab 0 ((m:Int) - 1)
        ·have H3:Hid (In (S i).cab 0 ((p.n:Int) - 1)):=by rw[J.out];exact g3
         obtain⟨l,R⟩:∃ l:Nat,(S i).cab=l:=⟨(S i).cab.toNat,by unfold In at g3;omega⟩
         have a7:l<m:=by unfold In at g3;omega
         have V:=hI R;have T:decide (In (l:Int) 0 _)=true:=Jd (by rw[← R];exact g3)
         have b5:∀ g:zn W,g.val.cell? _=_:=λg=>by rw[z1 g,R]
         obtain⟨b',a8,rfl,k1,k2⟩:=HX l (by rw[J.out];exact a7)
         have a6:=Ja w _ k1;have y2:∀ g:zn W,_:=λg=>((ze r g.bel).cell (p:=⟨b',_+1,_⟩) a6).trans k2
         have l1:(0:Int)<=(l:Int):=by omega
         have l2:(l:Int)<(m:Int):=by omega
         clear g3 z1 R k1 k2
         by_cases g4:In (S i).many 1 4
         ·have X:=Jd g4
          have H4:=hI g4;clear g4
          cases d:(S i).all with
          | false =>
           rw[d] at z3;have H5:=hI d;clear d;refine zh (by kernel_rfl) (by kernel_rfl) ?_
           repeat(first|go_big_quiet_skip|(go_big_quiet_want;go_big_quiet_op;first|go_big_quiet_on|(apply Jg;refine⟨λg=>?_,?_⟩;(focus(first|(go_at_call 89;refine zf (v:=.bool true) ((Qz _ _).mono ?_);rintro e s ⟨rfl,rfl⟩;exact⟨by rw[y],bZ⟩)|(go_at_call 152;refine zf (v:=.bool false) ((zcw _ i c S _ _ (by omega) ((G.upto (by omega)).below (ze r g.bel))).mono ?_);rintro e s ⟨⟨bb,rfl,z⟩,o⟩;obtain rfl:=Bool.eq_false_iff.2 (λe=>E (z.1 e));exact⟨rfl,o⟩)|(go_at_call 148;first|(refine zf (v:=.bool true) ((zt _ _ _ _).mono ?_);rintro e s ⟨rfl,rfl⟩;exact⟨by rw[T],bZ⟩)|(refine zf (v:=.bool true) ((zt _ _ _ _).mono ?_);rintro e s ⟨rfl,rfl⟩;exact⟨by rw[X],bZ⟩))));go_big_quiet_on)))
           refine Jl ?_;rintro _ ⟨g,rfl⟩;go_wp2;go_meet;exact⟨Q5 ⟨H1,E,H3,H4,λh=>by rw[H5.out] at h;cases h⟩,g.bel⟩
          | true =>
           rw[d] at z3;have H5:=hI d;clear d
           by_cases g6:(S i).many=p.B l
           ·have e6:((S i).many == p.B l)=true:=by simpa using g6
            have e7:((S i).many != p.B l)=false:=by simpa using g6
            have H6:=hI g6;clear g6;refine zh (by kernel_rfl) (by kernel_rfl) ?_
            repeat(first|go_big_quiet_skip|(go_big_quiet_want;go_big_quiet_op;first|go_big_quiet_on|(apply Jg;refine⟨λg=>?_,?_⟩;(focus(first|(go_at_call 89;refine zf (v:=.bool true) ((Qz _ _).mono ?_);rintro e s ⟨rfl,rfl⟩;exact⟨by rw[y],bZ⟩)|(go_at_call 152;refine zf (v:=.bool false) ((zcw _ i c S _ _ (by omega) ((G.upto (by omega)).below (ze r g.bel))).mono ?_);rintro e s ⟨⟨bb,rfl,z⟩,o⟩;obtain rfl:=Bool.eq_false_iff.2 (λe=>E (z.1 e));exact⟨rfl,o⟩)|(go_at_call 148;first|(refine zf (v:=.bool true) ((zt _ _ _ _).mono ?_);rintro e s ⟨rfl,rfl⟩;exact⟨by rw[T],bZ⟩)|(refine zf (v:=.bool true) ((zt _ _ _ _).mono ?_);rintro e s ⟨rfl,rfl⟩;exact⟨by rw[X],bZ⟩))));go_big_quiet_on)))
            refine Jl ?_;rintro _ ⟨g,rfl⟩;go_wp2;go_meet;exact⟨Q5 ⟨H1,E,H3,H4,λ_=>by rw[V.out];exact H6⟩,g.bel⟩
           ·have e6:((S i).many == p.B l)=false:=by simpa using g6
            have e7:((S i).many != p.B l)=true:=by simpa using g6
            have H6:=hI g6;clear g6;refine zh (by kernel_rfl) (by kernel_rfl) ?_
            repeat(first|go_big_quiet_skip|(go_big_quiet_want;go_big_quiet_op;first|go_big_quiet_on|(apply Jg;refine⟨λg=>?_,?_⟩;(focus(first|(go_at_call 89;refine zf (v:=.bool true) ((Qz _ _).mono ?_);rintro e s ⟨rfl,rfl⟩;exact⟨by rw[y],bZ⟩)|(go_at_call 152;refine zf (v:=.bool false) ((zcw _ i c S _ _ (by omega) ((G.upto (by omega)).below (ze r g.bel))).mono ?_);rintro e s ⟨⟨bb,rfl,z⟩,o⟩;obtain rfl:=Bool.eq_false_iff.2 (λe=>E (z.1 e));exact⟨rfl,o⟩)|(go_at_call 148;first|(refine zf (v:=.bool true) ((zt _ _ _ _).mono ?_);rintro e s ⟨rfl,rfl⟩;exact⟨by rw[T],bZ⟩)|(refine zf (v:=.bool true) ((zt _ _ _ _).mono ?_);rintro e s ⟨rfl,rfl⟩;exact⟨by rw[X],bZ⟩))));go_big_quiet_on)))
            refine Jl ?_;rintro _ ⟨g,rfl⟩;go_wp2;go_meet;exact⟨QP (λh=>H6 (by have:=h.2.2.2.2 H5;rw[V.out] at this;exact this)),g.bel⟩
         ·have X:=Jc g4
          have H4:=hI g4;clear g4;refine zh (by kernel_rfl) (by kernel_rfl) ?_
          repeat(first|go_big_quiet_skip|(go_big_quiet_want;go_big_quiet_op;first|go_big_quiet_on|(apply Jg;refine⟨λg=>?_,?_⟩;(focus(first|(go_at_call 89;refine zf (v:=.bool true) ((Qz _ _).mono ?_);rintro e s ⟨rfl,rfl⟩;exact⟨by rw[y],bZ⟩)|(go_at_call 152;refine zf (v:=.bool false) ((zcw _ i c S _ _ (by omega) ((G.upto (by omega)).below (ze r g.bel))).mono ?_);rintro e s ⟨⟨bb,rfl,z⟩,o⟩;obtain rfl:=Bool.eq_false_iff.2 (λe=>E (z.1 e));exact⟨rfl,o⟩)|(go_at_call 148;first|(refine zf (v:=.bool true) ((zt _ _ _ _).mono ?_);rintro e s ⟨rfl,rfl⟩;exact⟨by rw[T],bZ⟩)|(refine zf (v:=.bool false) ((zt _ _ _ _).mono ?_);rintro e s ⟨rfl,rfl⟩;exact⟨by rw[X],bZ⟩))));go_big_quiet_on)))
          refine Jl ?_;rintro _ ⟨g,rfl⟩;go_wp2;go_meet;exact⟨QP (λh=>H4 h.2.2.2.1),g.bel⟩
        ·have T:=Jc g3
         have H3:Hid (¬ In (S i).cab 0 ((p.n:Int) - 1)):=by rw[J.out];exact g3
         clear g3;refine zh (by kernel_rfl) (by kernel_rfl) ?_
         repeat(first|go_big_quiet_skip|(go_big_quiet_want;go_big_quiet_op;first|go_big_quiet_on|(apply Jg;refine⟨λg=>?_,?_⟩;(focus(first|(go_at_call 89;refine zf (v:=.bool true) ((Qz _ _).mono ?_);rintro e s ⟨rfl,rfl⟩;exact⟨by rw[y],bZ⟩)|(go_at_call 152;refine zf (v:=.bool false) ((zcw _ i c S _ _ (by omega) ((G.upto (by omega)).below (ze r g.bel))).mono ?_);rintro e s ⟨⟨bb,rfl,z⟩,o⟩;obtain rfl:=Bool.eq_false_iff.2 (λe=>E (z.1 e));exact⟨rfl,o⟩)|(go_at_call 148;first|(refine zf (v:=.bool false) ((zt _ _ _ _).mono ?_);rintro e s ⟨rfl,rfl⟩;exact⟨by rw[T],bZ⟩))));go_big_quiet_on)))
         refine Jl ?_;rintro _ ⟨g,rfl⟩;go_wp2;go_meet;exact⟨QP (λh=>H3 h.2.2.1),g.bel⟩
      ·have y:=Jc g1
       have H1:=hI g1;clear g1;refine zh (by kernel_rfl) (by kernel_rfl) ?_
       repeat(first|go_big_quiet_skip|(go_big_quiet_want;go_big_quiet_op;first|go_big_quiet_on|(apply Jg;refine⟨λg=>?_,?_⟩;(focus(first|(go_at_call 89;refine zf (v:=.bool false) ((Qz _ _).mono ?_);rintro e s ⟨rfl,rfl⟩;exact⟨by rw[y],bZ⟩)));go_big_quiet_on)))
       refine Jl ?_;rintro _ ⟨g,rfl⟩;go_wp2;go_meet;exact⟨QP (λh=>H1 h.1),g.bel⟩
     case rest =>
      obtain⟨⟨tb,rfl,a0⟩,P⟩:=hcut;have HT:=hI a0;have t:=ze r P;have Q:=zb x P;clear a0 r P x
      cases tb with
      | true =>
       have a4:Hid (¬ _):=λh=>by have:=HT.2 h;cases this
       clear HT;go_wp2;go_ret;exact⟨zl (λh=>a4 (h.2.2.1 i hlt).1),t⟩
      | false =>
       have H0:=hI (HT.1 rfl);clear HT;generalize wc=W2 at *;go_wp2;go_loopw [8,72] (λ_ j wq=>∃ k,k<=i/\j=int i64 k/\(∀ j,j<k->OkR2 S i j)/\Below W2.heap.size W2 wq) (λ_ j _=>i - (intOf j).toNat)
       case atStart=>exact⟨0,Jq _,rfl,λj C=>by omega,bZ⟩
       case round =>
        obtain⟨k,hk,rfl,A,a⟩:=hrel;have L:=hI A;clear A
        by_cases hlt2:k<i
        ·obtain⟨b2,a9,e2,N,h1,h2,h3⟩:=G k (by omega)
         simp only[Option.some.injEq,Addr.mk.injEq,and_true] at e2;obtain⟨rfl,rfl⟩:=e2;have c0:=((ze t a).cell K).trans N;have c1:=((ze t a).cell K).trans h1;have c2:=((ze t a).cell K).trans h2;have c3:=((ze t a).cell K).trans h3;have O:=zd (zb Q a) (.cells #[(S k).who,(S k).cab,(S k).many,(S k).all] 228);have y1:=za O 1 _ rfl;have y3:=za O 3 _ rfl;clear N h1 h2 h3 O
         by_cases g1:(S k).cab=(S i).cab
         ·have y:((S k).cab == (S i).cab)=true:=by simpa using g1
          have F:=hI g1;clear g1
          cases ho:(S k).all with
          | true =>
           rw[ho] at c3 y1 y3;have HO:=hI ho;clear ho;go_wp2;go_ret;exact⟨zl (λh=>by have:=((h.2.2.1 i hlt).2 k hlt2 F).1;rw[HO.out] at this;cases this),ze t (zk a _)⟩
          | false =>
           rw[ho] at c3 y1 y3;have HO:=hI ho;clear ho
           cases hr:(S i).all with
           | true =>
            rw[hr] at y3;have HR:=hI hr;clear hr;go_wp2;go_ret;exact⟨zl (λh=>by have:=((h.2.2.1 i hlt).2 k hlt2 F).2;rw[HR.out] at this;cases this),ze t (zk a _)⟩
           | false =>
            rw[hr] at y3;have HR:=hI hr;clear hr;go_wp2;go_roundw
            case rel=>exact⟨k+1,by omega,by go_num,λj C=>by
             by_cases e:j=k
             ·subst e;exact λ_=>⟨HO,HR⟩
             ·exact L j (by omega),zk a _⟩
            case measure=>simp[intOf];omega
         ·have y:((S k).cab == (S i).cab)=false:=by simpa using g1
          have F:=hI g1;clear g1;go_wp2;go_roundw
          case rel=>exact⟨k+1,by omega,by go_num,λj C=>by
           by_cases e:j=k
           ·subst e;exact λh=>absurd h F
           ·exact L j (by omega),zk a _⟩
          case measure=>simp[intOf];omega
        ·obtain rfl:k=i:=by omega
         have a3:Hid (∀ j,j<k+1->OkR p S j):=λj C=>by
          by_cases e:j=k
          ·subst e;exact⟨H0,L⟩
          ·exact HA j (by omega)
         go_wp2;go_roundw
         case rel=>exact⟨_,by omega,by go_num,a3,ze t a⟩
         case measure=>simp[intOf];omega
    ·obtain rfl:i=n:=by omega
     go_wp2_with fail;refine(zfo ao bo m mc i c p S _ J U h60 (λj C=>(HA j C).1.2.2.2.1) (HX.below f) (G.below f)).mono ?_
     rintro e w2 ⟨⟨v,rfl,D⟩,Y⟩;obtain⟨aw,cw,rfl,_⟩:=zp D;have HI:=hI (zbo D);have Z:=ze f Y;clear D Y f;go_wp2;go_loopw [10,95] (λ_ j wr=>∃ k,k<=m/\j=int i64 k/\(∀ j,j<k->0<=Za p S i j)/\wr=w2) (λ_ j _=>m - (intOf j).toNat)
     case atStart=>exact⟨0,Jq _,rfl,λj C=>by omega,rfl⟩
     case round =>
      obtain⟨k,hk,rfl,d,a1⟩:=hrel;have a2:=a1.symm;subst a2;clear a1;have HK:=hI d;clear d
      by_cases hlt3:k<m
      ·obtain⟨b3,b0,rfl,N⟩:=HI k hlt3
       by_cases hneg:Za p S i k<0
       ·have y:=Jd hneg
        have M:=hI hneg;clear hneg;go_wp2;go_ret;exact⟨zl (λh=>by have:=h.2.2.2 k (by rw[J.out];exact hlt3);have:=M.out;omega),Z⟩
       ·have y:=Jc hneg
        have M:=hI hneg;clear hneg;go_wp2;go_roundw
        case rel=>exact⟨k+1,by omega,by go_num,λj C=>by
         by_cases e:j=k
         ·subst e;have:=M.out;omega
         ·exact HK j (by omega),by trivial⟩
        case measure=>simp[intOf];omega
      ·obtain rfl:k=m:=by omega
       go_wp2;go_ret;exact⟨zR ⟨U,h60,HA,λj C=>HK j (by rw[J.out] at C;exact C)⟩,Z⟩
  ·have d0:decide (60<n)=true:=by simp;omega
   go_wp2;go_ret;exact⟨zl (λh=>h60 h.2.1),H⟩
end Go.Proofs.YtmdnjgihooflfaaGreatDoor
