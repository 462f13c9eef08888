/-
  OWN TEXT: ImplV, ImplW, FitsI, StayOf, ImplLane, FreeI, ConcatStay.
-/
import Derived.Deep.LoopGhost
import Derived.Lib.AppendZeros
import Derived.Test.YtmdnjgihooflfaaGreatDoorB10
namespace Go.Proofs.YtmdnjgihooflfaaGreatDoor
open Go.RowKit
open Go.Value (int)
open Go.IntKind (i64)
set_option maxHeartbeats 64000000
set_option maxRecDepth 100000
theorem Qg (x:Int)(w:World) :
  Calls Tryz.prog 102 #[int i64 x] w fun e w'=>e=.returned (.bool (decide (In x 1 9999)))/\w'=w:=by
 go_enter Tryz.func102,Tryz.ntmps102;go_wp2_with (first|(go_at_call 191;refine(zz _ _ _ _).mono ?_;rintro e w' ⟨rfl,rfl⟩))
 go_ret;exact⟨rfl,rfl⟩
section
open Go.RowKit
end
theorem zfp (D:Option Addr)(n c:Nat)(p:zH)(F:Nat->Int)(x l s h:Int)(w:World)(H:p.n=n)(hn:n<=4)(O:zG w D p) :
  Calls Tryz.prog 264 #[.slice D n c,.agg #[int i64 (F 0),int i64 (F 1),int i64 (F 2),int i64 (F 3)],.agg #[int i64 x,int i64 l,int i64 s,int i64 h]] w fun e w'=>qX (zmC p F ⟨x,l,s,h⟩) e/\Below w.heap.size w w':=by
 have B:=hI H;clear H;go_enter Tryz.func264,Tryz.ntmps264;go_upto_region 1 with fail;have f:((w.alloc (.cells #[int i64 (F 0),int i64 (F 1),int i64 (F 2),int i64 (F 3)] 319)).alloc (.cells #[int i64 x,int i64 l,int i64 s,int i64 h] 220)).heap[w.heap.size]?=some (.cells #[int i64 (F 0),int i64 (F 1),int i64 (F 2),int i64 (F 3)] 319 (0,0)):=zd (heap_alloc_new w _) _;have i:((w.alloc (.cells #[int i64 (F 0),int i64 (F 1),int i64 (F 2),int i64 (F 3)] 319)).alloc (.cells #[int i64 x,int i64 l,int i64 s,int i64 h] 220)).heap[w.heap.size+1]?=some (.cells #[int i64 x,int i64 l,int i64 s,int i64 h] 220 (0,0)):=by simpa using heap_alloc_new (w.alloc _) _
 have a:Below w.heap.size w ((w.alloc (.cells #[int i64 (F 0),int i64 (F 1),int i64 (F 2),int i64 (F 3)] 319)).alloc (.cells #[int i64 x,int i64 l,int i64 s,int i64 h] 220)):=zk (zk bZ _) _;generalize (w.alloc (.cells #[int i64 (F 0),int i64 (F 1),int i64 (F 2),int i64 (F 3)] 319)).alloc (.cells #[int i64 x,int i64 l,int i64 s,int i64 h] 220)=W at f i a ⊢;have J:=zM f;have q:=zM i;have z0:∀ g:zn W,g.val.cell? ⟨w.heap.size+1,0,none⟩=some (int i64 x):=fun g=>(g.bel.cell q).trans (za i 0 _ rfl)
 have z1:∀ g:zn W,g.val.cell? ⟨w.heap.size+1,1,none⟩=some (int i64 l):=fun g=>(g.bel.cell q).trans (za i 1 _ rfl)
 have z2:∀ g:zn W,g.val.cell? ⟨w.heap.size+1,2,none⟩=some (int i64 s):=fun g=>(g.bel.cell q).trans (za i 2 _ rfl)
 have z3:∀ g:zn W,g.val.cell? ⟨w.heap.size+1,3,none⟩=some (int i64 h):=fun g=>(g.bel.cell q).trans (za i 3 _ rfl)
 have y:Hid (∀ m,m<4->∀ g:zn W,g.val.cell? ⟨w.heap.size,m,none⟩=some (int i64 (F m))):=by
  intro m I g;refine(g.bel.cell J).trans ?_;have:m=0∨m=1∨m=2∨m=3:=by omega
  rcases this with rfl|rfl|rfl|rfl
  ·exact za f 0 _ rfl
  ·exact za f 1 _ rfl
  ·exact za f 2 _ rfl
  ·exact za f 3 _ rfl
 clear f i J q;have N:IntKind.i64.wrap ((n:Int) - 1)=(n:Int) - 1:=by rw[IntKind.wrap_i64];omega
 by_cases h1:In x 1 9999
 ·have j:decide (In x 1 9999)=true:=decide_eq_true h1
  have t:=hI h1;clear h1
  by_cases h2:In s 1 2000/\In h 1 500
  ·have k:decide (In s 1 2000/\In h 1 500)=true:=decide_eq_true h2
   have r:=hI h2;clear h2
   by_cases h3:In l 0 ((n:Int) - 1)
   ·have o:decide (In l 0 ((n:Int) - 1))=true:=decide_eq_true h3
    have u:=hI h3;obtain⟨m,rfl⟩:∃ m:Nat,l=m:=⟨l.toNat,by unfold In at h3;omega⟩
    have I:m<n:=by unfold In at h3;omega
    clear h3;obtain⟨b,off,rfl,E,G⟩:=O m (by rw[B.out];exact I)
    have M:=World.block_lt_of_cell? w _ E;have y2:∀ g:zn W,g.val.cell? ⟨b,off+m*2+1,none⟩=some (int i64 (p.B m)):=fun g=>((ze a g.bel).cell (p:=⟨b,off+m*2+1,none⟩) M).trans G
    have y3:∀ g:zn W,g.val.cell? ⟨w.heap.size,m,none⟩=some (int i64 (F m)):=y.out m (by omega)
    have i1:(0:Int)<=(m:Int):=by omega
    have i2:(m:Int)<(n:Int):=by omega
    have i3:(m:Int)<4:=by omega
    have i4:m<4:=by omega
    clear E G
    by_cases h4:h<=p.B m
    ·have K:decide (h<=p.B m)=true:=decide_eq_true h4
     have z:=hI h4;clear h4
     by_cases h5:s<=F m
     ·have L:decide (s<=F m)=true:=decide_eq_true h5
      have A:=hI h5;clear h5;refine zh (by kernel_rfl) (by kernel_rfl) ?_
      repeat(first|go_big_quiet_skip|(go_big_quiet_want;go_big_quiet_op;first|go_big_quiet_on|(apply Exists.intro;refine⟨fun g=>?_,?_⟩;(focus(first|(go_at_call 102;refine zf (v:=.bool true) ((Qg _ _).mono ?_);rintro e d ⟨rfl,rfl⟩;exact⟨by rw[j],bZ⟩)|(go_at_call 267;refine zf (v:=.bool true) ((zbq _ _ _).mono ?_);rintro e d ⟨rfl,rfl⟩;exact⟨by rw[k],bZ⟩)|(go_at_call 191;refine zf (v:=.bool true) ((zz _ _ _ _).mono ?_);rintro e d ⟨rfl,rfl⟩;exact⟨by rw[o],bZ⟩)));go_big_quiet_on)))
      refine wpQuiet_nil ?_;rintro _ ⟨g,rfl⟩;go_wp2;go_ret;exact⟨zR ⟨t.out,r.out.1,r.out.2,by rw[B.out];exact u.out,z.out,A.out⟩,ze a g.bel⟩
     ·have L:decide (s<=F m)=false:=decide_eq_false h5
      have A:=hI h5;clear h5;refine zh (by kernel_rfl) (by kernel_rfl) ?_
      repeat(first|go_big_quiet_skip|(go_big_quiet_want;go_big_quiet_op;first|go_big_quiet_on|(apply Exists.intro;refine⟨fun g=>?_,?_⟩;(focus(first|(go_at_call 102;refine zf (v:=.bool true) ((Qg _ _).mono ?_);rintro e d ⟨rfl,rfl⟩;exact⟨by rw[j],bZ⟩)|(go_at_call 267;refine zf (v:=.bool true) ((zbq _ _ _).mono ?_);rintro e d ⟨rfl,rfl⟩;exact⟨by rw[k],bZ⟩)|(go_at_call 191;refine zf (v:=.bool true) ((zz _ _ _ _).mono ?_);rintro e d ⟨rfl,rfl⟩;exact⟨by rw[o],bZ⟩)));go_big_quiet_on)))
      refine wpQuiet_nil ?_;rintro _ ⟨g,rfl⟩;go_wp2;go_ret;exact⟨zl (fun C=>Int.not_le.2 A.out C.room),ze a g.bel⟩
    ·have K:decide (h<=p.B m)=false:=decide_eq_false h4
     have z:=hI h4;clear h4;refine zh (by kernel_rfl) (by kernel_rfl) ?_
     repeat(first|go_big_quiet_skip|(go_big_quiet_want;go_big_quiet_op;first|go_big_quiet_on|(apply Exists.intro;refine⟨fun g=>?_,?_⟩;(focus(first|(go_at_call 102;refine zf (v:=.bool true) ((Qg _ _).mono ?_);rintro e d ⟨rfl,rfl⟩;exact⟨by rw[j],bZ⟩)|(go_at_call 267;refine zf (v:=.bool true) ((zbq _ _ _).mono ?_);rintro e d ⟨rfl,rfl⟩;exact⟨by rw[k],bZ⟩)|(go_at_call 191;refine zf (v:=.bool true) ((zz _ _ _ _).mono ?_);rintro e d ⟨rfl,rfl⟩;exact⟨by rw[o],bZ⟩)));go_big_quiet_on)))
     refine wpQuiet_nil ?_;rintro _ ⟨g,rfl⟩;go_wp2;go_ret;exact⟨zl (fun C=>Int.not_le.2 z.out C.high),ze a g.bel⟩
   ·have o:decide (In l 0 ((n:Int) - 1))=false:=decide_eq_false h3
    have u:=hI h3;clear h3;refine zh (by kernel_rfl) (by kernel_rfl) ?_
    repeat(first|go_big_quiet_skip|(go_big_quiet_want;go_big_quiet_op;first|go_big_quiet_on|(apply Exists.intro;refine⟨fun g=>?_,?_⟩;(focus(first|(go_at_call 102;refine zf (v:=.bool true) ((Qg _ _).mono ?_);rintro e d ⟨rfl,rfl⟩;exact⟨by rw[j],bZ⟩)|(go_at_call 267;refine zf (v:=.bool true) ((zbq _ _ _).mono ?_);rintro e d ⟨rfl,rfl⟩;exact⟨by rw[k],bZ⟩)|(go_at_call 191;refine zf (v:=.bool false) ((zz _ _ _ _).mono ?_);rintro e d ⟨rfl,rfl⟩;exact⟨by rw[o],bZ⟩)));go_big_quiet_on)))
    refine wpQuiet_nil ?_;rintro _ ⟨g,rfl⟩;go_wp2;go_ret;exact⟨zl (fun h=>u.out (by have:=h.ln;rw[B.out] at this;exact this)),ze a g.bel⟩
  ·have k:decide (In s 1 2000/\In h 1 500)=false:=decide_eq_false h2
   have r:=hI h2;clear h2;refine zh (by kernel_rfl) (by kernel_rfl) ?_
   repeat(first|go_big_quiet_skip|(go_big_quiet_want;go_big_quiet_op;first|go_big_quiet_on|(apply Exists.intro;refine⟨fun g=>?_,?_⟩;(focus(first|(go_at_call 102;refine zf (v:=.bool true) ((Qg _ _).mono ?_);rintro e d ⟨rfl,rfl⟩;exact⟨by rw[j],bZ⟩)|(go_at_call 267;refine zf (v:=.bool false) ((zbq _ _ _).mono ?_);rintro e d ⟨rfl,rfl⟩;exact⟨by rw[k],bZ⟩)));go_big_quiet_on)))
   refine wpQuiet_nil ?_;rintro _ ⟨g,rfl⟩;go_wp2;go_ret;exact⟨zl (fun h=>r.out ⟨h.len,h.hei⟩),ze a g.bel⟩
 ·have j:decide (In x 1 9999)=false:=decide_eq_false h1
  have t:=hI h1;clear h1;refine zh (by kernel_rfl) (by kernel_rfl) ?_
  repeat(first|go_big_quiet_skip|(go_big_quiet_want;go_big_quiet_op;first|go_big_quiet_on|(apply Exists.intro;refine⟨fun g=>?_,?_⟩;(focus(first|(go_at_call 102;refine zf (v:=.bool false) ((Qg _ _).mono ?_);rintro e d ⟨rfl,rfl⟩;exact⟨by rw[j],bZ⟩)));go_big_quiet_on)))
  refine wpQuiet_nil ?_;rintro _ ⟨g,rfl⟩;go_wp2;go_ret;exact⟨zl (fun h=>t.out h.who),ze a g.bel⟩
theorem zgP (c d f g x:Int)(a:Nat)(w:World)(i:w.cell? ⟨a,0,none⟩=some (int i64 x)) :
  Calls Tryz.prog 270 #[.agg #[int i64 c,int i64 d,int i64 f,int i64 g],.pointer (some ⟨a,0,none⟩)] w fun e w'=>e=.returned (.bool (c == x))/\Below w.heap.size w w':=by
 have b:=World.block_lt_of_cell? w _ i;have h:¬ a=w.heap.size:=by have:a<w.heap.size:=b;omega
 go_enter Tryz.func270,Tryz.ntmps270;go_wp2;go_ret;exact⟨rfl,zk bZ _⟩
theorem ziN (t:Option Addr)(n c:Nat)(S:Nat->Zp)(x:Int)(g:Nat)(w:World)(hn:n<=1048576)(z:qw w t n S)(r:w.cell? ⟨g,0,none⟩=some (int i64 x)) :
  Calls Tryz.prog 269 #[.slice t n c,.func (.func 270) #[] #[.pointer (some ⟨g,0,none⟩)]] w fun e w'=>e=.returned (int i64 (Zv (Qc S) x n))/\Below w.heap.size w w':=by
 have q:=World.block_lt_of_cell? w _ r;go_enter Tryz.func269,Tryz.ntmps269;go_wp2;go_loopw [5,8] (fun _ i wr=>∃ k:Nat,k<=n/\i=int i64 k/\(∀ j,j<k->Qc S j≠x)/\Below w.heap.size w wr) (fun _ i _=>n - (intOf i).toNat)
 case atStart=>exact⟨0,Nat.zero_le _,rfl,fun j y=>by omega,bZ⟩
 case round =>
  obtain⟨k,hk,rfl,d,a⟩:=hrel;have l:=hI d;clear d
  by_cases hlt2:k<n
  ·obtain⟨b,off,rfl,o,h1,h2,h3⟩:=z k hlt2
   have h:=World.block_lt_of_cell? w _ o;have c0:=(a.cell (p:=⟨b,off+k*4,none⟩) h).trans o;have c1:=(a.cell (p:=⟨b,off+k*4+1,none⟩) h).trans h1;have c2:=(a.cell (p:=⟨b,off+k*4+2,none⟩) h).trans h2;have c3:=(a.cell (p:=⟨b,off+k*4+3,none⟩) h).trans h3;have s:Hid (wr.cell? ⟨g,0,none⟩=some (int i64 x)):=(a.cell (p:=⟨g,0,none⟩) q).trans r;clear o h1 h2 h3 r
   by_cases he:Qc S k=x
   ·have v:((S k).who == x)=true:=by unfold Qc at he;simpa using he
    have m:Hid (Zv (Qc S) x n=k):=by
     have:zaj (Qc S) x n=k:=zfe hlt2 he l.out;unfold Zv Hid;rw[this,if_pos hlt2]
    clear he;go_wp2_with (first|(go_at_call 270;refine(zgP _ _ _ _ x g _ s.out).mono ?_;rintro e A ⟨rfl,f⟩))
    go_ret;exact⟨by rw[m.out];rfl,ze a f⟩
   ·have v:((S k).who == x)=false:=by unfold Qc at he;simpa using he
    have u:=hI he;clear he;go_wp2_with (first|(go_at_call 270;refine(zgP _ _ _ _ x g _ s.out).mono ?_;rintro e A ⟨rfl,f⟩))
    go_roundw
    case rel=>exact⟨k+1,by omega,by go_num,fun j y=>by
     by_cases e:j=k
     ·subst e;exact u.out
     ·exact l.out j (by omega),ze a f⟩
    case measure=>simp[intOf];omega
  ·obtain rfl:k=n:=by omega
   have m:=hI (zbM (zdp l.out));go_wp2;go_ret;exact⟨by rw[m.out];rfl,a⟩
/-- stayOf: where the stay of the by stands, -1 Zx one. -/
theorem zbz (d:Option Addr)(n c:Nat)(S:Nat->Zp)(x:Int)(w:World)(k:n<=1048576)(l:qw w d n S) :
  Calls Tryz.prog 243 #[.slice d n c,int i64 x] w fun e w'=>e=.returned (int i64 (Zv (Qc S) x n))/\Below w.heap.size w w':=by
 have b:Below w.heap.size w (w.alloc (.cells #[int i64 x] 3)):=zk bZ _;have i:=hI (l.below b);have h:Hid ((w.alloc (.cells #[int i64 x] 3)).cell? ⟨w.heap.size,0,none⟩=some (int i64 x)):=za (heap_alloc_new w _) 0 _ rfl;have j:∀ (g:Fn) (first a:Array Value) (w:World),(Instr.makeFunc g first a).run Tryz.prog w=.ok (.func g first a) w:=fun _ _ _ _=>rfl
 go_enter Tryz.func243,Tryz.ntmps243;go_wp2_with (first|(go_at_call 269;refine(ziN d n c S x _ _ k i.out h.out).mono ?_;rintro e w2 ⟨rfl,f⟩))
 go_ret;exact⟨rfl,ze b f⟩
theorem zeD (o:Option Addr)(n c:Nat)(p:zH)(w:World)(s:p.n=n)(hn:n<=1048576)(v:zG w o p) :
  Calls Tryz.prog 234 #[.slice o n c] w fun e w'=>qX (zaZ p 4 1 5000 100 500) e/\Below w.heap.size w w':=by
 have f:=hI s;clear s
 by_cases h0:n<=4
 ·have q:decide (4<n)=false:=by simp;omega
  go_enter Tryz.func234,Tryz.ntmps234;go_wp2;go_loopw [4,10] (fun _ i wr=>∃ k:Nat,k<=n/\i=int i64 k/\(∀ j,j<k->In (p.A j) 1 5000/\In (p.B j) 100 500)/\Below w.heap.size w wr) (fun _ i _=>n - (intOf i).toNat)
  case atStart=>exact⟨0,Nat.zero_le _,rfl,fun j l=>by omega,bZ⟩
  case round =>
   obtain⟨k,hk,rfl,d,a⟩:=hrel;have m:=hI d;clear d q
   by_cases hlt:k<n
   ·obtain⟨b,off,rfl,h1,h2⟩:=v k (by rw[f.out];omega)
    have r:=World.block_lt_of_cell? w _ h1;have c1:=(a.cell (p:=⟨b,off+k*2,none⟩) r).trans h1;have c2:=(a.cell (p:=⟨b,off+k*2+1,none⟩) r).trans h2;clear h1 h2
    by_cases g1:In (p.A k) 1 5000
    ·have t:decide (In (p.A k) 1 5000)=true:=decide_eq_true g1
     by_cases g2:In (p.B k) 100 500
     ·have u:decide (In (p.B k) 100 500)=true:=decide_eq_true g2
      have g:Hid (In (p.A k) 1 5000/\In (p.B k) 100 500):=⟨g1,g2⟩;clear g1 g2;go_wp2_with (first|(go_at_call 191;refine sC (zz _ _ _ _) ?_))
      go_roundw
      case rel=>exact⟨k+1,by omega,by go_num,fun j l=>by
       by_cases e:j=k
       ·subst e;exact g.out
       ·exact m.out j (by omega),zk a _⟩
      case measure=>simp[intOf];omega
     ·have u:decide (In (p.B k) 100 500)=false:=decide_eq_false g2
      have g:=hI g2;clear g1 g2;go_wp2_with (first|(go_at_call 191;refine sC (zz _ _ _ _) ?_))
      go_ret;exact⟨zl (fun h=>g.out (h.2 k (by rw[f.out];exact hlt)).2),zk a _⟩
    ·have t:decide (In (p.A k) 1 5000)=false:=decide_eq_false g1
     have g:=hI g1;clear g1;go_wp2_with (first|(go_at_call 191;refine sC (zz _ _ _ _) ?_))
     go_ret;exact⟨zl (fun h=>g.out (h.2 k (by rw[f.out];exact hlt)).1),zk a _⟩
   ·obtain rfl:k=n:=by omega
    go_wp2;go_ret;exact⟨zR ⟨by rw[f.out];exact h0,fun j l=>m.out j (by rw[f.out] at l;exact l)⟩,a⟩
 ·have q:decide (4<n)=true:=by simp;omega
  go_enter Tryz.func234,Tryz.ntmps234;go_wp2;go_ret;exact⟨zl (fun h=>by have:=h.1;rw[f.out] at this;exact h0 this),bZ⟩
def zmH (F:Nat->Int):Value:=.agg #[int i64 (F 0),int i64 (F 1),int i64 (F 2),int i64 (F 3)]
def zlX (p:zH)(n:Nat)(S:Nat->Zp)(e:Ending):Prop :=
 (zfj p n S/\e=.returned (.tuple #[zmH (qy p S n),.bool true]))∨(¬ zfj p n S/\e=.returned (.tuple #[zmH (fun _=>0),.bool false]))
theorem zeE {w:World}{g t:Nat}{u0 u1 u2 u3:Value}(h:w.heap[g]?=some (.cells #[u0,u1,u2,u3] t (0,0)))(v0 v1 v2 v3:Value) :
  ((((w.setCell ⟨g,0,none⟩ v0).setCell ⟨g,1,none⟩ v1).setCell ⟨g,2,none⟩ v2).setCell ⟨g,3,none⟩ v3).heap[g]?=some (.cells #[v0,v1,v2,v3] t (0,0)):=by
 have:=zm (zm (zm (zm h 0 v0) 1 v1) 2 v2) 3 v3
 simpa using this
theorem zcx {w w':World}{g:Nat}(h:Below w.heap.size w w')(a:w.heap.size<=g)(v0 v1 v2 v3:Value):Below w.heap.size w ((((w'.setCell ⟨g,0,none⟩ v0).setCell ⟨g,1,none⟩ v1).setCell ⟨g,2,none⟩ v2).setCell ⟨g,3,none⟩ v3) :=
 (((h.setCell a _).setCell a _).setCell a _).setCell a _
theorem zero_row {w:World}{g t:Nat}(h:w.heap[g]?=some (.cells #[int i64 0,int i64 0,int i64 0,int i64 0] t (0,0))):w.rowIs g t 4 (fun k=>int i64 (zbJ 0 (fun _=>(0:Int)) 0 k)):=by
 refine⟨_,h,rfl,fun i hi=>?_⟩
 have:i=0∨i=1∨i=2∨i=3:=by omega
 rcases this with rfl|rfl|rfl|rfl <;> rfl
theorem zee (ao bo:Option Addr)(m mc n c:Nat)(p:zH)(S:Nat->Zp)(w:World)(X:p.n=m)(hm:m<=1048576)(hn:n<=1048576)(hc:n<=c)(hx:zG w ao p)(hz:qw w bo n S) :
  Calls Tryz.prog 236 #[.slice ao m mc,.slice bo n c] w fun e w'=>zlX p n S e/\Below w.heap.size w w':=by
 have O:=hI X;have HX:=hI hx;have HZ:=hI hz;clear X hx hz;have Q:Below w.heap.size w (w.alloc (.cells #[int i64 0,int i64 0,int i64 0,int i64 0] 319)):=zk bZ _;have r0:(w.alloc (.cells #[int i64 0,int i64 0,int i64 0,int i64 0] 319)).heap[w.heap.size]?=some (.cells #[int i64 0,int i64 0,int i64 0,int i64 0] 319 (0,0)):=heap_alloc_new w _;go_enter Tryz.func236,Tryz.ntmps236;go_wp2_with fail;refine(zeD ao m mc p _ O.out hm (HX.out.below Q)).mono ?_;rintro e w1 ⟨⟨q,rfl,hq⟩,R⟩;have C:=ze Q R;have K:=zb r0 R;clear Q r0 R
 cases q with
 | false =>
  obtain⟨o0,o1,o2,o3⟩:=ce4 K;obtain⟨f0,f1,f2,f3⟩:=fe4 K;have Z:Hid (¬ zhB p):=fun h=>by have:=hq.2 h;cases this
  clear hq;go_wp2;have L:=zeE K (int i64 0) (int i64 0) (int i64 0) (int i64 0);obtain⟨F,H,I,J⟩:=ce4 L;exact bodyPost_ret (v:=.tuple #[zmH (fun _=>0),.bool false]) (by simp[results,Tryz.results236,go_sem,F,H,I,J,zmH]) rfl ⟨.inr ⟨fun h=>Z.out h.1,rfl⟩,zcx C (Nat.le_refl _) _ _ _ _⟩
 | true =>
  have Z:Hid (zhB p):=hq.1 rfl;have a4:m<=4:=by rw[← O.out];exact Z.out.1
  clear hq
  by_cases h60:n<=60
  ·have d0:decide (60<n)=false:=by simp;omega
   go_upto_region 4 with fail;have r2:=zd K (.cells #[int i64 0,int i64 0,int i64 0,int i64 0] 319);have x2:=zero_row (heap_alloc_new w1 (.cells #[int i64 0,int i64 0,int i64 0,int i64 0] 319));have P:=zk C (.cells #[int i64 0,int i64 0,int i64 0,int i64 0] 319);have hf:w.heap.size<w1.heap.size:=zM K;generalize w1.alloc (.cells #[int i64 0,int i64 0,int i64 0,int i64 0] 319)=w2 at r2 x2 P ⊢;generalize w1.heap.size=f at hf x2 ⊢;clear K C;go_wp2;go_loopw [7,21] (fun _ i wr=>∃ k:Nat,k<=m/\i=int i64 k/\wr.rowIs f 319 4 (fun j=>int i64 (zbJ k p.A 0 j))/\wr.heap[w.heap.size]?=some (.cells #[int i64 0,int i64 0,int i64 0,int i64 0] 319 (0,0))/\Below w.heap.size w wr) (fun _ i _=>m - (intOf i).toNat)
   case atStart=>exact⟨0,Nat.zero_le _,rfl,x2.congr (fun j _=>by unfold zbJ;rw[if_neg (Nat.not_lt_zero _),if_neg (Nat.not_lt_zero _)]),r2,P⟩
   case round =>
    obtain⟨k,hk,rfl,t,hr,x⟩:=hrel;clear r2 x2 P
    by_cases hlt:k<m
    ·obtain⟨b,off,rfl,h1,h2⟩:=HX.out k (by rw[O.out];exact hlt)
     have V:=World.block_lt_of_cell? w _ h1;have c1:=(x.cell (p:=⟨b,off+k*2,none⟩) V).trans h1;have o0:=t.cell (i:=k) (by omega)
     have f0:=t.frozen k;have i1:(0:Int)<=(k:Int):=by omega
     have i2:(k:Int)<4:=by omega
     clear h1 h2;go_wp2;go_roundw
     case rel=>exact⟨k+1,by omega,by go_num,(t.set k _).congr (fun j _=>by
      by_cases e:j=k
      ·subst e;rw[if_pos rfl,qr _ _ (Nat.lt_succ_self _)]
      ·rw[if_neg e,QB _ _ _ _ e]),zD hr _ _ (by omega),x.setCell (by show w.heap.size<=f;omega) _⟩
     case measure=>simp[intOf];omega
    ·obtain rfl:k=m:=by omega
     have z:wr.rowIs f 319 4 (fun j=>int i64 (qy p S 0 j)):=t.congr (fun j _=>by rw[freeAt_0,O.out])
     clear t;go_wp2;go_loopw [8,9,34] (fun _ _ i wr=>∃ k:Nat,k<=n/\i=int i64 k/\(∀ j,j<k->¬ Has (Qc S) j (S j).who/\zmC p (QW p S j) (S j))/\wr.rowIs f 319 4 (fun j=>int i64 (qy p S k j))/\wr.heap[w.heap.size]?=some (.cells #[int i64 0,int i64 0,int i64 0,int i64 0] 319 (0,0))/\Below w.heap.size w wr) (fun _ _ i _=>n - (intOf i).toNat)
     case atStart=>exact⟨0,Nat.zero_le _,rfl,fun j hj=>by omega,z,hr,x⟩
     case round =>
      obtain⟨i,hi,rfl,N,d,y,a⟩:=hrel;have HA:=hI N;clear N z hr x
      by_cases hlt2:i<n
      ·obtain⟨b,off,rfl,h0,h1,h2,h3⟩:=HZ.out i hlt2
       have V:=World.block_lt_of_cell? w _ h0;have c0:=(a.cell (p:=⟨b,off+i*4,none⟩) V).trans h0;have c1:=(a.cell (p:=⟨b,off+i*4+1,none⟩) V).trans h1;have c2:=(a.cell (p:=⟨b,off+i*4+2,none⟩) V).trans h2;have c3:=(a.cell (p:=⟨b,off+i*4+3,none⟩) V).trans h3;have o:=heap_alloc_new wr (.cells #[int i64 (S i).who,int i64 (S i).ln,int i64 (S i).len,int i64 (S i).hei] 220);have r:=zk a (.cells #[int i64 (S i).who,int i64 (S i).ln,int i64 (S i).len,int i64 (S i).hei] 220);have A:=zd y (.cells #[int i64 (S i).who,int i64 (S i).ln,int i64 (S i).len,int i64 (S i).hei] 220);have u:=qo d (zk (Below.refl _ wr) (.cells #[int i64 (S i).who,int i64 (S i).ln,int i64 (S i).len,int i64 (S i).hei] 220));clear h0 h1 h2 h3;go_upto_region 12 with fail;generalize hW:wr.alloc (.cells #[int i64 (S i).who,int i64 (S i).ln,int i64 (S i).len,int i64 (S i).hei] 220)=W at o r A u ⊢;clear hW;have E:wr.heap.size<W.heap.size:=zM o;have D:f<W.heap.size:=u.lt;have a3:=hI u;have z0:∀ g:zn W,g.val.cell? ⟨wr.heap.size,0,none⟩=some (int i64 (S i).who):=fun g=>(g.bel.cell E).trans (za o 0 _ rfl)
       have z1:∀ g:zn W,g.val.cell? ⟨wr.heap.size,1,none⟩=some (int i64 (S i).ln):=fun g=>(g.bel.cell E).trans (za o 1 _ rfl)
       have z2:∀ g:zn W,g.val.cell? ⟨wr.heap.size,2,none⟩=some (int i64 (S i).len):=fun g=>(g.bel.cell E).trans (za o 2 _ rfl)
       have z3:∀ g:zn W,g.val.cell? ⟨wr.heap.size,3,none⟩=some (int i64 (S i).hei):=fun g=>(g.bel.cell E).trans (za o 3 _ rfl)
       have y0:∀ g:zn W,g.val.cell? ⟨f,0,none⟩=some (int i64 (qy p S i 0)):=fun g=>(g.bel.cell D).trans (u.cell (i:=0) (by omega))
       have y1:∀ g:zn W,g.val.cell? ⟨f,1,none⟩=some (int i64 (qy p S i 1)):=fun g=>(g.bel.cell D).trans (u.cell (i:=1) (by omega))
       have y2:∀ g:zn W,g.val.cell? ⟨f,2,none⟩=some (int i64 (qy p S i 2)):=fun g=>(g.bel.cell D).trans (u.cell (i:=2) (by omega))
       have y3:∀ g:zn W,g.val.cell? ⟨f,3,none⟩=some (int i64 (qy p S i 3)):=fun g=>(g.bel.cell D).trans (u.cell (i:=3) (by omega))
       have i1:(0:Int)<=(i:Int):=by omega
       have i2:(i:Int)<=(c:Int):=by omega
       clear c0 c1 c2 c3 o d y a u
       by_cases hh:Has (Qc S) i (S i).who
       ·have e1:decide (0<=Zv (Qc S) (S i).who i)=true:=decide_eq_true ((QC _ _ _).2 hh)
        have HH:=hI hh;clear hh;refine zh (by kernel_rfl) (by kernel_rfl) ?_
        repeat(first|go_big_quiet_skip|(go_big_quiet_want;go_big_quiet_op;first|go_big_quiet_on|(apply Exists.intro;refine⟨fun g=>?_,?_⟩;(focus(first|(go_at_call 243;refine zf (v:=int i64 (Zv (Qc S) (S i).who i)) ((zbz _ i c S (S i).who _ (by omega) ((HZ.out.upto (by omega)).below (ze r g.bel))).mono ?_);rintro e w4 ⟨rfl,s⟩;exact⟨rfl,s⟩)));go_big_quiet_on)))
        refine wpQuiet_nil ?_;rintro _ ⟨g,rfl⟩;have U:=zb A g.bel;obtain⟨o0,o1,o2,o3⟩:=ce4 U;obtain⟨f0,f1,f2,f3⟩:=fe4 U;go_wp2;have L:=zeE U (int i64 0) (int i64 0) (int i64 0) (int i64 0);obtain⟨F,H,I,J⟩:=ce4 L;exact bodyPost_ret (v:=.tuple #[zmH (fun _=>0),.bool false]) (by simp[results,Tryz.results236,go_sem,F,H,I,J,zmH]) rfl ⟨.inr ⟨fun h=>(h.2.2 i hlt2).1 HH.out,rfl⟩,zcx (ze r g.bel) (Nat.le_refl _) _ _ _ _⟩
       ·have e1:decide (0<=Zv (Qc S) (S i).who i)=false:=decide_eq_false (fun h=>hh ((QC _ _ _).1 h))
        have HH:=hI hh;clear hh
        by_cases hfit:zmC p (qy p S i) (S i)
        ·have B:=hI hfit
         clear hfit;refine zh (by kernel_rfl) (by kernel_rfl) ?_
         repeat(first|go_big_quiet_skip|(go_big_quiet_want;go_big_quiet_op;first|go_big_quiet_on|(apply Exists.intro;refine⟨fun g=>?_,?_⟩;(focus(first|(go_at_call 243;refine zf (v:=int i64 (Zv (Qc S) (S i).who i)) ((zbz _ i c S (S i).who _ (by omega) ((HZ.out.upto (by omega)).below (ze r g.bel))).mono ?_);rintro e w4 ⟨rfl,s⟩;exact⟨rfl,s⟩)|(go_at_call 264;refine zf (v:=.bool true) ((zfp _ _ mc p (qy p S i) (S i).who (S i).ln (S i).len (S i).hei _ O.out a4 (HX.out.below (ze r g.bel))).mono ?_);rintro e w4 ⟨⟨bb,rfl,hi⟩,s⟩;obtain rfl:=hi.2 B.out;exact⟨rfl,s⟩)));go_big_quiet_on)))
         refine wpQuiet_nil ?_;rintro _ ⟨g,rfl⟩;obtain⟨l,X⟩:∃ l:Nat,(S i).ln=l:=⟨(S i).ln.toNat,by have:=B.out.ln;unfold In at this;omega⟩
         have a7:l<p.n:=by have:=B.out.ln;unfold In at this;omega
         have a0:=hI X;have l4:l<4:=by have:=O.out;omega
         have v1:g.val.cell? ⟨wr.heap.size,1,none⟩=some (int i64 (l:Int)):=by rw[z1 g,X]
         have v2:=z2 g;have M:=qo a3.out g.bel;have v3:=M.cell (i:=l) l4;have v4:=M.frozen l;have l1:(0:Int)<=(l:Int):=by omega
         have l2:(l:Int)<4:=by omega
         have HB:Hid (-120000<=qy p S i l/\qy p S i l<=5000):=ziG l Z.out (by omega) (fun j hj=>(HA.out j hj).2.len)
         have HN:=hI B.out.len;have a9:IntKind.i64.wrap (qy p S i l - (S i).len)=qy p S i l - (S i).len:=by
          have h1:=HB.out;have h2:=HN.out;unfold In at h2;rw[IntKind.wrap_i64];omega
         have a1:=hI (zb A g.bel);have Y:=hI (ze r g.bel);have a2:=hI M;clear X M z0 z1 z2 z3 y0 y1 y2 y3 A r;generalize g.val=G at *;go_upto_region 14 with fail;have T:Hid ((G.setCell ⟨f,l,none⟩ (int i64 (qy p S i l - (S i).len))).drew.rowIs f 319 4 (fun j=>int i64 (qy p S (i+1) j))):=by
          refine(a2.out.set l _).congr (fun j _=>?_)
          rw[← zlQ p S i l j a7 a0.out]
          split <;> rfl
         have a8:Hid ((G.setCell ⟨f,l,none⟩ (int i64 (qy p S i l - (S i).len))).drew.heap[w.heap.size]?=some (.cells #[int i64 0,int i64 0,int i64 0,int i64 0] 319 (0,0))):=zK (zD a1.out _ _ (by omega))
         have a6:Hid (Below w.heap.size w (G.setCell ⟨f,l,none⟩ (int i64 (qy p S i l - (S i).len))).drew):=(Y.out.setCell (by show w.heap.size<=f;omega) _).drew
         have a5:Hid (∀ j,j<i+1->¬ Has (Qc S) j (S j).who/\zmC p (QW p S j) (S j)):=fun j hj=>by
          by_cases e:j=i
          ·subst e;exact⟨HH.out,zgC.1 B.out⟩
          ·exact HA.out j (by omega)
         clear HH B HA a0 a1 Y a2 HB HN a3;go_region
         all_goals (go_wp2;go_roundw)
         all_goals first|(exact⟨i+1,by omega,by go_num,a5.out,T.out,a8.out,a6.out⟩)|(simp[intOf];omega)
        ·have B:=hI hfit
         clear hfit;refine zh (by kernel_rfl) (by kernel_rfl) ?_
         repeat(first|go_big_quiet_skip|(go_big_quiet_want;go_big_quiet_op;first|go_big_quiet_on|(apply Exists.intro;refine⟨fun g=>?_,?_⟩;(focus(first|(go_at_call 243;refine zf (v:=int i64 (Zv (Qc S) (S i).who i)) ((zbz _ i c S (S i).who _ (by omega) ((HZ.out.upto (by omega)).below (ze r g.bel))).mono ?_);rintro e w4 ⟨rfl,s⟩;exact⟨rfl,s⟩)|(go_at_call 264;refine zf (v:=.bool false) ((zfp _ _ mc p (qy p S i) (S i).who (S i).ln (S i).len (S i).hei _ O.out a4 (HX.out.below (ze r g.bel))).mono ?_);rintro e w4 ⟨⟨bb,rfl,hi⟩,s⟩;obtain rfl:=Bool.eq_false_iff.2 (fun e=>B.out (hi.1 e));exact⟨rfl,s⟩)));go_big_quiet_on)))
         refine wpQuiet_nil ?_;rintro _ ⟨g,rfl⟩;have U:=zb A g.bel;obtain⟨o0,o1,o2,o3⟩:=ce4 U;obtain⟨f0,f1,f2,f3⟩:=fe4 U;go_wp2;have L:=zeE U (int i64 0) (int i64 0) (int i64 0) (int i64 0);obtain⟨F,H,I,J⟩:=ce4 L;exact bodyPost_ret (v:=.tuple #[zmH (fun _=>0),.bool false]) (by simp[results,Tryz.results236,go_sem,F,H,I,J,zmH]) rfl ⟨.inr ⟨fun h=>B.out (zgC.2 (h.2.2 i hlt2).2),rfl⟩,zcx (ze r g.bel) (Nat.le_refl _) _ _ _ _⟩
      ·obtain rfl:i=n:=by omega
       obtain⟨o0,o1,o2,o3⟩:=ce4 y;obtain⟨f0,f1,f2,f3⟩:=fe4 y;have c0:=d.cell (i:=0) (by omega)
       have c1:=d.cell (i:=1) (by omega)
       have c2:=d.cell (i:=2) (by omega)
       have c3:=d.cell (i:=3) (by omega)
       go_wp2;have L:=zeE y (int i64 (qy p S i 0)) (int i64 (qy p S i 1)) (int i64 (qy p S i 2)) (int i64 (qy p S i 3));obtain⟨F,H,I,J⟩:=ce4 L;exact bodyPost_ret (v:=.tuple #[zmH (qy p S i),.bool true]) (by simp[results,Tryz.results236,go_sem,F,H,I,J,zmH]) rfl ⟨.inl ⟨⟨Z.out,h60,HA.out⟩,rfl⟩,zcx a (Nat.le_refl _) _ _ _ _⟩
  ·have d0:decide (60<n)=true:=by simp;omega
   obtain⟨o0,o1,o2,o3⟩:=ce4 K;obtain⟨f0,f1,f2,f3⟩:=fe4 K;go_wp2;have L:=zeE K (int i64 0) (int i64 0) (int i64 0) (int i64 0);obtain⟨F,H,I,J⟩:=ce4 L;exact bodyPost_ret (v:=.tuple #[zmH (fun _=>0),.bool false]) (by simp[results,Tryz.results236,go_sem,F,H,I,J,zmH]) rfl ⟨.inr ⟨fun h=>h60 h.2.1,rfl⟩,zcx C (Nat.le_refl _) _ _ _ _⟩
theorem zky (k:Nat)(w:World)(hk:k<=4194304) :
  Calls Tryz.prog 294 #[.slice none 0 0,int i64 k] w fun e w'=>(∃ v,e=.returned v/\w'.ownsRow w.heap.size 220 4 v 0 [])/\Below w.heap.size w w':=by
 have d0:decide ((k:Int)<0)=false:=by simp
 by_cases h0:0<k
 ·obtain⟨f,g,b,h,c⟩:=info_parts Tryz.infoStay
  have a:=Lib.run_append_nil_zeros (P:=Tryz.prog) w 141 3 141 220 f (.agg #[int i64 0,int i64 0,int i64 0,int i64 0]) .i64 .i64 Tryz.underlying141 Tryz.underlying3 g b k h0 (by omega) (by omega) (by rw[c];omega)
  have d1:decide (0<k)=true:=by simpa using h0
  go_enter Tryz.func294,Tryz.ntmps294;go_wp2_with (first|(at_builtin;refine Lib.wpList_append_run _ rfl _ _ _ _ rfl _ _ rfl rfl _ _ a ?_))
  go_ret;have d:=grownCap_ge w k 0 220;refine⟨⟨_,rfl,rfl,.inr ⟨w.heap.size,_,_,rfl,Nat.le_refl _,heap_alloc_new w _,Nat.zero_le _,grownCap_le_maxLen w k 0 _ (by unfold maxLen;omega),?_,rfl⟩⟩,(zk (Below.refl _ w) _).drew⟩
  rw[Array.size_append,size_zeroCells,size_zeroCells]
  show k*4+(_ - k)*4=_*4
  omega
 ·obtain rfl:k=0:=by omega
  go_enter Tryz.func294,Tryz.ntmps294;go_wp2;go_ret;exact⟨⟨_,rfl,rfl,.inl ⟨rfl,rfl⟩⟩,bZ⟩
def zfq (n j r:Nat):Nat:=if r=0 then 0 else if r=1 then n else n+j
theorem zns (o:Nat)(m p:Option Addr)(n j q C:Nat)(S T:Nat->Zp)(w:World)(hn:n<=1048576)(D:j<=1048576)
  (k:w.heap[o]?=some (.cells #[.slice m n q,.slice p j C] 141 (0,0))) (M:qw w m n S) (N:qw w p j T) (H:m=none->n=0/\q=0) (I:p=none->j=0/\C=0) :
  Calls Tryz.prog 288 #[.slice (some ⟨o,0,none⟩) 2 2] w fun e w'=>(∃ v,e=.returned v/\w'.ownsRow w.heap.size 220 4 v (n+j) (zy (QI S n T) (n+j)))/\Below w.heap.size w w':=by
 obtain⟨O,P,z,A,B⟩:=info_parts Tryz.infoStay;have V:=hI M;have W:=hI N;have Q:w.cell? ⟨o,0,none⟩=some (.slice m n q):=za k 0 _ rfl;have R:w.cell? ⟨o,1,none⟩=some (.slice p j C):=za k 1 _ rfl;have c0:zfq n j 0=0:=rfl;have c1:zfq n j 1=n:=rfl;have c2:zfq n j 2=n+j:=rfl;have L:zy (QI S n T) n=zy S n:=zbU (fun i X=>if_pos X)
 have K:=hI L;clear M N L;go_enter Tryz.func288,Tryz.ntmps288;go_wp2;go_loopg [3,5,11] 2 (fun g s _ i wr=>∃ r:Nat,r<=2/\g=2 - r/\i=int i64 r/\s=int i64 (zfq n j r)/\wr=w)
 case atStart=>exact⟨0,by omega,rfl,rfl,rfl,rfl⟩
 case round =>
  obtain⟨r,hr,rfl,rfl,rfl,t⟩:=hrel;have y:=t.symm;subst y;clear t;have f:r=0∨r=1∨r=2:=by omega
  rcases f with rfl|rfl|rfl
  ·go_wp2
   go_roundg 1
   case measure=>omega
   case rel=>exact⟨1,by omega,rfl,by go_num,by rw[c1],rfl⟩
  ·have hd:decide ((n:Int)+(j:Int)<0)=false:=by simp;omega
   go_wp2;go_roundg 0
   case measure=>omega
   case rel=>exact⟨2,by omega,rfl,by go_num,by rw[c2];go_num,rfl⟩
  ·go_wp2_with fail
   refine(zky (n+j) _ (by omega)).mono ?_
   rintro e w1 ⟨⟨v,rfl,J⟩,G⟩;clear Q R;go_wp2;go_loopg [6,8,27] 2 (fun g u _ i wr=>∃ r:Nat,r<=2/\g=2 - r/\i=int i64 r/\wr.ownsRow w.heap.size 220 4 u (zfq n j r) (zy (QI S n T) (zfq n j r))/\Below w.heap.size w wr)
   case atStart=>exact⟨0,by omega,rfl,rfl,J,G⟩
   case round =>
    obtain⟨r,hr,rfl,rfl,l,a⟩:=hrel;obtain⟨U,F⟩:∃ x,x=wr:=⟨_,rfl⟩;subst F;have c:=a.size;have d:=zb k a;have Q:U.cell? ⟨o,0,none⟩=some (.slice m n q):=za d 0 _ rfl;have R:U.cell? ⟨o,1,none⟩=some (.slice p j C):=za d 1 _ rfl;have f:r=0∨r=1∨r=2:=by omega
    rcases f with rfl|rfl|rfl
    ·have E:=hI (zal (V.out.below a))
     go_wp2_with (first|(at_builtin;refine zv _ (by rfl) (.tmp 31) (.tmp 32) 141 (by rfl) w.heap.size 220 O (.agg #[int i64 0,int i64 0,int i64 0,int i64 0]) 4 32 Tryz.underlying141 P z A B rfl (by decide) _ 0 [] (by rfl) l m n q (zy S n) (by rfl) H (ZR _ _) E.out (QQ _ _) (by unfold maxLen;omega) (by omega) c ?_;intro v' Y b h))
     go_roundg 1
     case measure=>omega
     case rel=>exact⟨1,by omega,rfl,by go_num,by
      rw[c1];rw[Nat.zero_add,List.nil_append] at b;rw[K.out];exact b,a.grown h c (fun j D=>(l.lt j D).1)⟩
    ·have E:=hI (zal (W.out.below a))
     rw[c1,K.out] at l;go_wp2_with (first|(at_builtin;refine zv _ (by rfl) (.tmp 31) (.tmp 32) 141 (by rfl) w.heap.size 220 O (.agg #[int i64 0,int i64 0,int i64 0,int i64 0]) 4 32 Tryz.underlying141 P z A B rfl (by decide) _ n (zy S n) (by rfl) l p j C (zy T j) (by rfl) I (ZR _ _) E.out (QQ _ _) (by unfold maxLen;omega) (by omega) c ?_;intro v' Y b h))
     go_roundg 0
     case measure=>omega
     case rel=>exact⟨2,by omega,rfl,by go_num,by
      rw[c2,zfy];exact b,a.grown h c (fun j D=>(l.lt j D).1)⟩
    ·rw[c2] at l
     go_wp2;go_ret;exact⟨⟨_,rfl,l⟩,a⟩
end Go.Proofs.YtmdnjgihooflfaaGreatDoor
