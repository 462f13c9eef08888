import Derived.Test.YtgmdnkngnhkgbaaGreatB22
namespace Go.Proofs.YtgmdnkngnhkgbaaGreat
open Go.RowKit
open Go.Value (int)
open Go.IntKind (i64)
set_option maxHeartbeats 64000000
set_option maxRecDepth 1000000
theorem Q2 {S:Nat->qH}{n j:Nat}{r:qH}(h:j<n):ZR S n (fun _=>r) j=S j:=by unfold ZR;rw[if_pos h]
theorem zdL {S:Nat->qH}{n:Nat}{r:qH}:ZR S n (fun _=>r) n=r:=by unfold ZR;rw[if_neg (Nat.lt_irrefl _)]
theorem used_cat {S:Nat->qH}{n:Nat}{r:qH}{k:Nat}:∀ i,i<=n->Zz (ZR S n (fun _=>r)) k i=Zz S k i:=by
 intro i
 induction i with
 | zero=>intro _;rfl
 | succ i ih =>
  intro hi;unfold Zz;rw[ih (by omega),Q2 (by omega)]
theorem zgx {p:zP}{S:Nat->qH}{n:Nat}{r:qH}{k i:Nat}(h:i<=n):qk p (ZR S n (fun _=>r)) i k=qk p S i k:=by
 unfold qk;rw[used_cat i h]
theorem has_cat {S:Nat->qH}{n:Nat}{r:qH}{i:Nat}{x:Int}(h:i<=n):Has (Zh (ZR S n (fun _=>r))) i x↔Has (Zh S) i x:=by
 unfold Has Zh
 constructor
 ·rintro⟨j,a,e⟩;exact⟨j,a,by rw[Q2 (by omega)] at e;exact e⟩
 ·rintro⟨j,a,e⟩;exact⟨j,a,by rw[Q2 (by omega)];exact e⟩
theorem zcc {p:zP}{F G:Nat->Int}{r:qH}(h:∀ k,F k=G k):QA p F r->QA p G r:=by
 unfold QA;rw[h];exact fun h=>h
theorem zgL {p:zP}{n:Nat}{S:Nat->qH}{r:qH}(h:qX p n S)(l:In r.who 1 9999)(g:¬ Has (Zh S) n r.who)(j:QA p (qk p S n) r):qX p (n+1) (ZR S n (fun _=>r)):=by
 have hf:=rooms_few h;obtain⟨f,_,d⟩:=zcO h;refine zcN ⟨f,by omega,fun i hi=>?_⟩
 by_cases e:i=n
 ·subst e
  rw[zdL];exact⟨l,fun q=>g ((has_cat (Nat.le_refl _)).1 q),zcc (fun k=>(zgx (Nat.le_refl _)).symm) j⟩
 ·have hl:i<n:=by omega
  rw[Q2 hl];obtain⟨a,b,c⟩:=d i hl;exact⟨a,fun q=>b ((has_cat (by omega)).1 q),zcc (fun k=>(zgx (by omega)).symm) c⟩
theorem zfY (q:Option Addr)(n c:Nat)(p:zP)(w:World)(hl:p.n=n)(hn:n<=1048576)(x:zT w q p) :
  Calls Tryz.prog 43 #[.slice q n c] w fun e w'=>SaysIf (zdi p) e/\Below w.heap.size w w':=by
 have f:=hI hl;clear hl
 by_cases h0:n<=4
 ·have r:decide (4<n)=false:=by simp;omega
  go_enter Tryz.func43,Tryz.ntmps43;go_wp2;go_loopw [4,10] (fun _ i wr=>∃ k:Nat,k<=n/\i=int i64 k/\(∀ j,j<k->In (p.A j) 1 5000/\In (p.B j) 100 500)/\Below w.heap.size w wr) (fun _ i _=>n - (intOf i).toNat)
  case atStart=>exact⟨0,Nat.zero_le _,rfl,fun j l=>by omega,bZ⟩
  case round =>
   obtain⟨k,hk,rfl,d,a⟩:=hrel;have o:=hI d;clear d r
   by_cases hlt:k<n
   ·obtain⟨b,off,rfl,m,s⟩:=x k (by rw[f.out];omega)
    have t:=World.block_lt_of_cell? w _ m;have c1:=(a.cell (p:=⟨b,off+k*2,none⟩) t).trans m;have c2:=(a.cell (p:=⟨b,off+k*2+1,none⟩) t).trans s;clear m s
    by_cases g1:In (p.A k) 1 5000
    ·have u:decide (In (p.A k) 1 5000)=true:=decide_eq_true g1
     by_cases g2:In (p.B k) 100 500
     ·have v:decide (In (p.B k) 100 500)=true:=decide_eq_true g2
      have g:Hid (In (p.A k) 1 5000/\In (p.B k) 100 500):=⟨g1,g2⟩;clear g1 g2;go_wp2_with (first|(go_at_call 45;refine sC (zo _ _ _ _) ?_))
      go_roundw
      case rel=>exact⟨k+1,by omega,by go_num,fun j l=>by
       by_cases e:j=k
       ·subst e;exact g.out
       ·exact o.out j (by omega),zl a _⟩
      case measure=>simp[intOf];omega
     ·have v:decide (In (p.B k) 100 500)=false:=decide_eq_false g2
      have g:=hI g2;clear g1 g2;go_wp2_with (first|(go_at_call 45;refine sC (zo _ _ _ _) ?_))
      go_ret;exact⟨zk (fun h=>g.out (h.2 k (by rw[f.out];exact hlt)).2),zl a _⟩
    ·have u:decide (In (p.A k) 1 5000)=false:=decide_eq_false g1
     have g:=hI g1;clear g1;go_wp2_with (first|(go_at_call 45;refine sC (zo _ _ _ _) ?_))
     go_ret;exact⟨zk (fun h=>g.out (h.2 k (by rw[f.out];exact hlt)).1),zl a _⟩
   ·obtain rfl:k=n:=by omega
    go_wp2;go_ret;exact⟨zI ⟨by rw[f.out];exact h0,fun j l=>o.out j (by rw[f.out] at l;exact l)⟩,a⟩
 ·have r:decide (4<n)=true:=by simp;omega
  go_enter Tryz.func43,Tryz.ntmps43;go_wp2;go_ret;exact⟨zk (fun h=>by have:=h.1;rw[f.out] at this;exact h0 this),bZ⟩
theorem zfk (m:Option Addr)(n c:Nat)(S:Nat->qW)(x:Int)(w:World)(hn:n<=1048576)(v:qp w m n S) :
  Calls Tryz.prog 46 #[.slice m n c,int i64 x] w fun e w'=>SaysIf (Has (Zb S) n x) e/\Below w.heap.size w w':=by
 go_enter Tryz.func46,Tryz.ntmps46;go_wp2;go_loopw [6,9] (fun _ i wr=>∃ k:Nat,k<=n/\i=int i64 k/\(∀ j,j<k->Zb S j≠x)/\Below w.heap.size w wr) (fun _ i _=>n - (intOf i).toNat)
 case atStart=>exact⟨0,Nat.zero_le _,rfl,fun j u=>by omega,bZ⟩
 case round =>
  obtain⟨k,hk,rfl,d,a⟩:=hrel;have l:=hI d;clear d
  by_cases hlt2:k<n
  ·obtain⟨b,off,rfl,h,o,q,r⟩:=v k hlt2
   have f:=World.block_lt_of_cell? w _ h;have c0:=(a.cell (p:=⟨b,off+k*4,none⟩) f).trans h;have c1:=(a.cell (p:=⟨b,off+k*4+1,none⟩) f).trans o;have c2:=(a.cell (p:=⟨b,off+k*4+2,none⟩) f).trans q;have c3:=(a.cell (p:=⟨b,off+k*4+3,none⟩) f).trans r;clear h o q r
   by_cases he:Zb S k=x
   ·have t:((S k).who == x)=true:=by unfold Zb at he;simpa using he
    have g:Hid (Has (Zb S) n x):=⟨k,hlt2,he⟩;clear he;go_wp2;go_ret;exact⟨zI g.out,zl a _⟩
   ·have t:((S k).who == x)=false:=by unfold Zb at he;simpa using he
    have s:=hI he;clear he;go_wp2;go_roundw
    case rel=>exact⟨k+1,by omega,by go_num,fun j u=>by
     by_cases e:j=k
     ·subst e;exact s.out
     ·exact l.out j (by omega),zl a _⟩
    case measure=>simp[intOf];omega
  ·obtain rfl:k=n:=by omega
   have g:=hI (zaB l.out);go_wp2;go_ret;exact⟨zk g.out,a⟩
theorem zdM (I J:Option Addr)(m mc n c:Nat)(p:zP)(S:Nat->qW)(w:World)(hl:p.n=m)(A:zdi p)(hn:n<=60)(P:∀ j,j<n->In (S j).len 1 2000)(R:zT w I p)(T:qp w J n S) :
  Calls Tryz.prog 47 #[.slice I m mc,.slice J n c] w fun e w'=>(∃ v,e=.returned v/\w'.ownsRow w.heap.size 3 1 v m (zw (Zy p S n) m))/\Below w.heap.size w w':=by
 obtain⟨j0,ji,D,E,F⟩:=info_parts Tryz.infoInt;have x:=hI hl;have G:=hI A;have H:=hI P;have W:=hI R;have X:=hI T;have Z:m<=4:=by rw[← hl];exact A.1
 clear hl A P R T;go_enter Tryz.func47,Tryz.ntmps47;go_wp2;go_loopw [5,6,7,8,10,13,20,21,22] (fun v _ _ _ _ i _ _ _ wr=>∃ k:Nat,k<=m/\i=int i64 k/\wr.ownsRow w.heap.size 3 1 v k (zw (Zy p S n) k)/\Below w.heap.size w wr) (fun _ _ _ _ _ i _ _ _ _=>m - (intOf i).toNat)
 case atStart=>exact⟨0,Nat.zero_le _,rfl,⟨rfl,.inl ⟨rfl,rfl⟩⟩,bZ⟩
 case round =>
  obtain⟨k,hk,rfl,l,f⟩:=hrel
  by_cases hlt:k<m
  ·obtain⟨b,off,rfl,q,r⟩:=W.out k (by rw[x.out];exact hlt)
   have N:=World.block_lt_of_cell? w _ q;have K:=(f.cell (p:=⟨b,off+k*2,none⟩) N).trans q;have L:=(f.cell (p:=⟨b,off+k*2+1,none⟩) N).trans r;have HA:Hid (In (p.A k) 1 5000):=(G.out.2 k (by rw[x.out];exact hlt)).1
   clear q r;go_wp2;go_loopw [8,10,22] (fun s8 _ i U=>∃ t:Nat,t<=n/\i=int i64 t/\s8=int i64 (Zy p S t k)/\U.ownsRow w.heap.size 3 1 u5 k (zw (Zy p S n) k)/\Below w.heap.size w U) (fun _ _ i _=>n - (intOf i).toNat)
   case atStart=>exact⟨0,Nat.zero_le _,rfl,by rw[left_0],zp (zl bZ _) l,zl f _⟩
   case round =>
    obtain⟨t,ht,rfl,rfl,d,a⟩:=hrel;clear l f K L
    by_cases hlt2:t<n
    ·obtain⟨b2,g,rfl,z,q,r,M⟩:=X.out t hlt2
     have o:=World.block_lt_of_cell? w _ z;have c0:=(a.cell (p:=⟨b2,g+t*4,none⟩) o).trans z;have K:=(a.cell (p:=⟨b2,g+t*4+1,none⟩) o).trans q;have L:=(a.cell (p:=⟨b2,g+t*4+2,none⟩) o).trans r;have c3:=(a.cell (p:=⟨b2,g+t*4+3,none⟩) o).trans M;clear z q r M
     by_cases he:(S t).ln=(k:Int)
     ·have Y:((S t).ln == (k:Int))=true:=by simpa using he
      have s:=hI he;have a1:IntKind.i64.wrap (Zy p S t k - (S t).len)=Zy p S t k - (S t).len:=by
       have q:=zcD G.out (show t<=60 by omega) (fun j O=>H.out j (by omega)) (show k<p.n by rw[x.out];exact hlt)
       have r:=H.out t hlt2;unfold In at r;rw[IntKind.wrap_i64];omega
      clear he;go_wp2;go_roundw
      case rel=>exact⟨t+1,by omega,by go_num,by rw[zcC p S t k s.out],zp (zl bZ _) d,zl a _⟩
      case measure=>simp[intOf];omega
     ·have Y:((S t).ln == (k:Int))=false:=by simpa using he
      have s:=hI he;clear he;go_wp2;go_roundw
      case rel=>exact⟨t+1,by omega,by go_num,by rw[zdY p S t k s.out],zp (zl bZ _) d,zl a _⟩
      case measure=>simp[intOf];omega
    ·obtain rfl:t=n:=by omega
     have a0:=a.size;have V:Hid (∀ y,(some ⟨wr.heap.size,0,none⟩:Option Addr)=some y->∀ j u,[Value.int .i64 (Zy p S t k)][j]?=some u->(wr.alloc (.cells #[int i64 (Zy p S t k)] 3)).cell? (y.add j)=some u):=by
      intro y e
      cases e
      exact World.news_of_block (heap_alloc_new wr _)
     go_wp2_with (first|(at_builtin;refine zu _ (by rfl) (.tmp 35) (.tmp 37) 37 (by rfl) w.heap.size 3 j0 (int i64 0) 1 8 Tryz.underlying37 ji D E F rfl (by decide) _ k (zw (Zy p S t) k) (by rfl) (d.alloc _) (some ⟨wr.heap.size,0,none⟩) 1 1 [int i64 (Zy p S t k)] (by rfl) (fun h=>(by cases h)) (by rfl) V.out (by intro u Q;simp at Q;subst Q;rfl) (by unfold maxLen;omega) (by omega) (by simp;omega) ?_;intro v' w3 C B))
     go_roundw
     case rel=>exact⟨k+1,by omega,by go_num,by rw[intList_succ];exact C,(zl a _).grown B (by simp;omega) (fun j O=>(d.lt j O).1)⟩
     case measure=>simp[intOf];omega
  ·obtain rfl:k=m:=by omega
   go_wp2;go_ret;exact⟨⟨_,rfl,l⟩,f⟩
theorem zfm (q:Option Addr)(n c:Nat)(p:zP)(w:World)(hl:p.n=n)(hn:n<=1048576)(x:zT w q p) :
  Calls Tryz.prog 48 #[.slice q n c] w fun e w'=>SaysIf (Qj p 6 1 3 1 4) e/\Below w.heap.size w w':=by
 have f:=hI hl;clear hl
 by_cases h0:n<=6
 ·have r:decide (6<n)=false:=by simp;omega
  go_enter Tryz.func48,Tryz.ntmps48;go_wp2;go_loopw [4,10] (fun _ i wr=>∃ k:Nat,k<=n/\i=int i64 k/\(∀ j,j<k->In (p.A j) 1 3/\In (p.B j) 1 4)/\Below w.heap.size w wr) (fun _ i _=>n - (intOf i).toNat)
  case atStart=>exact⟨0,Nat.zero_le _,rfl,fun j l=>by omega,bZ⟩
  case round =>
   obtain⟨k,hk,rfl,d,a⟩:=hrel;have o:=hI d;clear d r
   by_cases hlt:k<n
   ·obtain⟨b,off,rfl,m,s⟩:=x k (by rw[f.out];omega)
    have t:=World.block_lt_of_cell? w _ m;have c1:=(a.cell (p:=⟨b,off+k*2,none⟩) t).trans m;have c2:=(a.cell (p:=⟨b,off+k*2+1,none⟩) t).trans s;clear m s
    by_cases g1:In (p.A k) 1 3
    ·have u:decide (In (p.A k) 1 3)=true:=decide_eq_true g1
     by_cases g2:In (p.B k) 1 4
     ·have v:decide (In (p.B k) 1 4)=true:=decide_eq_true g2
      have g:Hid (In (p.A k) 1 3/\In (p.B k) 1 4):=⟨g1,g2⟩;clear g1 g2;go_wp2_with (first|(go_at_call 45;refine sC (zo _ _ _ _) ?_))
      go_roundw
      case rel=>exact⟨k+1,by omega,by go_num,fun j l=>by
       by_cases e:j=k
       ·subst e;exact g.out
       ·exact o.out j (by omega),zl a _⟩
      case measure=>simp[intOf];omega
     ·have v:decide (In (p.B k) 1 4)=false:=decide_eq_false g2
      have g:=hI g2;clear g1 g2;go_wp2_with (first|(go_at_call 45;refine sC (zo _ _ _ _) ?_))
      go_ret;exact⟨zk (fun h=>g.out (h.2 k (by rw[f.out];exact hlt)).2),zl a _⟩
    ·have u:decide (In (p.A k) 1 3)=false:=decide_eq_false g1
     have g:=hI g1;clear g1;go_wp2_with (first|(go_at_call 45;refine sC (zo _ _ _ _) ?_))
     go_ret;exact⟨zk (fun h=>g.out (h.2 k (by rw[f.out];exact hlt)).1),zl a _⟩
   ·obtain rfl:k=n:=by omega
    go_wp2;go_ret;exact⟨zI ⟨by rw[f.out];exact h0,fun j l=>o.out j (by rw[f.out] at l;exact l)⟩,a⟩
 ·have r:decide (6<n)=true:=by simp;omega
  go_enter Tryz.func48,Tryz.ntmps48;go_wp2;go_ret;exact⟨zk (fun h=>by have:=h.1;rw[f.out] at this;exact h0 this),bZ⟩
theorem zbT (l:Option Addr)(n c:Nat)(S:Nat->Qo)(x:Int)(w:World)(hn:n<=1048576)(t:qx w l n S) :
  Calls Tryz.prog 51 #[.slice l n c,int i64 x] w fun e w'=>SaysIf (Has (ZG S) n x) e/\Below w.heap.size w w':=by
 go_enter Tryz.func51,Tryz.ntmps51;go_wp2;go_loopw [6,9] (fun _ i wr=>∃ k:Nat,k<=n/\i=int i64 k/\(∀ j,j<k->ZG S j≠x)/\Below w.heap.size w wr) (fun _ i _=>n - (intOf i).toNat)
 case atStart=>exact⟨0,Nat.zero_le _,rfl,fun j s=>by omega,bZ⟩
 case round =>
  obtain⟨k,hk,rfl,d,a⟩:=hrel;have h:=hI d;clear d
  by_cases hlt2:k<n
  ·obtain⟨b,off,rfl,g,m⟩:=t k hlt2
   have o:=World.block_lt_of_cell? w _ g;have c0:=(a.cell (p:=⟨b,off+k*2,none⟩) o).trans g;have c1:=(a.cell (p:=⟨b,off+k*2+1,none⟩) o).trans m;clear g m
   by_cases he:ZG S k=x
   ·have r:((S k).who == x)=true:=by unfold ZG at he;simpa using he
    have f:Hid (Has (ZG S) n x):=⟨k,hlt2,he⟩;clear he;go_wp2;go_ret;exact⟨zI f.out,zl a _⟩
   ·have r:((S k).who == x)=false:=by unfold ZG at he;simpa using he
    have q:=hI he;clear he;go_wp2;go_roundw
    case rel=>exact⟨k+1,by omega,by go_num,fun j s=>by
     by_cases e:j=k
     ·subst e;exact q.out
     ·exact h.out j (by omega),zl a _⟩
    case measure=>simp[intOf];omega
  ·obtain rfl:k=n:=by omega
   have f:=hI (zaB h.out);go_wp2;go_ret;exact⟨zk f.out,a⟩
theorem zao (h:Option Addr)(n c:Nat)(S:Nat->Qo)(w:World)(hn:n<=60)(m:∀ j,j<n->In (S j).many 1 20)(s:qx w h n S) :
  Calls Tryz.prog 52 #[.slice h n c] w fun e w'=>e=.returned (int i64 (ZD S n))/\Below w.heap.size w w':=by
 have g:=hI m;clear m;go_enter Tryz.func52,Tryz.ntmps52;go_wp2;go_loopw [3,5,8] (fun v _ i wr=>∃ k:Nat,k<=n/\i=int i64 k/\v=int i64 (ZD S k)/\Below w.heap.size w wr) (fun _ _ i _=>n - (intOf i).toNat)
 case atStart=>exact⟨0,Nat.zero_le _,rfl,rfl,bZ⟩
 case round =>
  obtain⟨k,hk,rfl,rfl,a⟩:=hrel
  by_cases hlt:k<n
  ·obtain⟨b,off,rfl,d,f⟩:=s k hlt
   have l:=World.block_lt_of_cell? w _ d;have c0:=(a.cell (p:=⟨b,off+k*2,none⟩) l).trans d;have c1:=(a.cell (p:=⟨b,off+k*2+1,none⟩) l).trans f;clear d f;have r:IntKind.i64.wrap (ZD S k+(S k).many)=ZD S (k+1):=by
    have f:=zaY S k (fun j hj=>g.out j (by omega))
    have o:=g.out k hlt;unfold In at o;have q:ZD S (k+1)=ZD S k+(S k).many:=rfl;rw[q,IntKind.wrap_i64];omega
   go_wp2;go_roundw
   case rel=>exact⟨k+1,by omega,by go_num,rfl,zl a _⟩
   case measure=>simp[intOf];omega
  ·obtain rfl:k=n:=by omega
   go_wp2;go_ret;exact⟨rfl,a⟩
theorem zes (most:Int)(E:Option Addr)(n c:Nat)(S:Nat->Qo)(w:World)(hn:n<=2097152)(hc:n<=c)(O:qx w E n S) :
  Calls Tryz.prog 18 #[int i64 most,.slice E n c] w fun e w'=>SaysIf (Z4 most n S) e/\Below w.heap.size w w':=by
 have t:=hI O;clear O
 by_cases g0:In most 0 500
 ·have L:decide (In most 0 500)=true:=decide_eq_true g0
  have z:=hI g0;clear g0
  by_cases h60:n<=60
  ·have K:decide (60<n)=false:=by simp;omega
   go_enter Tryz.func18,Tryz.ntmps18;go_wp2_with (first|(go_at_call 45;refine sC (zo _ _ _ _) ?_))
   go_loopw [5,6,17] (fun _ _ i wr=>∃ k:Nat,k<=n/\i=int i64 k/\(∀ j,j<k->In (S j).who 1 9999/\¬ Has (ZG S) j (S j).who/\In (S j).many 1 20)/\Below w.heap.size w wr) (fun _ _ i _=>n - (intOf i).toNat)
   case atStart=>exact⟨0,Nat.zero_le _,rfl,fun j I=>by omega,bZ⟩
   case round =>
    obtain⟨i,s,rfl,m,a⟩:=hrel;have C:=hI m;clear m L K
    by_cases hlt:i<n
    ·obtain⟨b,off,rfl,G,M⟩:=t.out i hlt
     have N:=World.block_lt_of_cell? w _ G;have P:=(a.cell (p:=⟨b,off+i*2,none⟩) N).trans G;have Q:=(a.cell (p:=⟨b,off+i*2+1,none⟩) N).trans M;have d:=heap_alloc_new wr (.cells #[int i64 (S i).who,int i64 (S i).many] 99);have f:=zl a (.cells #[int i64 (S i).who,int i64 (S i).many] 99);clear G M;go_upto_region 6 with fail;generalize hW:wr.alloc (.cells #[int i64 (S i).who,int i64 (S i).many] 99)=W at d f ⊢;clear hW;have y:wr.heap.size<W.heap.size:=zQ d;have z0:∀ g:zv W,g.val.cell? ⟨wr.heap.size,0,none⟩=some (int i64 (S i).who):=fun g=>(g.bel.cell y).trans (za d 0 _ rfl)
     have z1:∀ g:zv W,g.val.cell? ⟨wr.heap.size,1,none⟩=some (int i64 (S i).many):=fun g=>(g.bel.cell y).trans (za d 1 _ rfl)
     have i1:(0:Int)<=(i:Int):=by omega
     have i2:(i:Int)<=(c:Int):=by omega
     clear P Q d a
     by_cases g1:In (S i).who 1 9999
     ·have u:decide (In (S i).who 1 9999)=true:=decide_eq_true g1
      have A:=hI g1;clear g1
      by_cases g2:Has (ZG S) i (S i).who
      ·have r:=hI g2
       clear g2;refine zg (by kernel_rfl) (by kernel_rfl) ?_
       repeat(first|go_big_quiet_skip|(go_big_quiet_want;go_big_quiet_op;first|go_big_quiet_on|(apply Exists.intro;refine⟨fun g=>?_,?_⟩;(focus(first|(go_at_call 44;refine zh (v:=.bool true) ((Zf _ _).mono ?_);rintro e o ⟨rfl,rfl⟩;exact⟨by rw[u],bZ⟩)|(go_at_call 51;refine zh (v:=.bool true) ((zbT _ i c S (S i).who _ (by omega) ((t.out.upto (by omega)).below (zf f g.bel))).mono ?_);rintro e o ⟨⟨J,rfl,s⟩,l⟩;obtain rfl:=s.2 r.out;exact⟨rfl,l⟩)));go_big_quiet_on)))
       refine wpQuiet_nil ?_;rintro _ ⟨g,rfl⟩;go_wp2;go_ret;exact⟨zk (fun h=>(h.2.2.1 i hlt).2.1 r.out),zf f g.bel⟩
      ·have r:=hI g2
       clear g2
       by_cases g3:In (S i).many 1 20
       ·have F:decide (In (S i).many 1 20)=true:=decide_eq_true g3
        have B:=hI g3;clear g3;refine zg (by kernel_rfl) (by kernel_rfl) ?_
        repeat(first|go_big_quiet_skip|(go_big_quiet_want;go_big_quiet_op;first|go_big_quiet_on|(apply Exists.intro;refine⟨fun g=>?_,?_⟩;(focus(first|(go_at_call 44;refine zh (v:=.bool true) ((Zf _ _).mono ?_);rintro e o ⟨rfl,rfl⟩;exact⟨by rw[u],bZ⟩)|(go_at_call 51;refine zh (v:=.bool false) ((zbT _ i c S (S i).who _ (by omega) ((t.out.upto (by omega)).below (zf f g.bel))).mono ?_);rintro e o ⟨⟨J,rfl,s⟩,l⟩;obtain rfl:=Bool.eq_false_iff.2 (fun e=>r.out (s.1 e));exact⟨rfl,l⟩)|(go_at_call 45;refine zh (v:=.bool true) ((zo _ _ _ _).mono ?_);rintro e o ⟨rfl,rfl⟩;exact⟨by rw[F],bZ⟩)));go_big_quiet_on)))
        refine wpQuiet_nil ?_;rintro _ ⟨g,rfl⟩;go_wp2;have D:Hid (∀ j,j<i+1->In (S j).who 1 9999/\¬ Has (ZG S) j (S j).who/\In (S j).many 1 20):=fun j I=>by
         by_cases e:j=i
         ·subst e;exact⟨A.out,r.out,B.out⟩
         ·exact C.out j (by omega)
        go_roundw
        case rel=>exact⟨i+1,by omega,by go_num,D.out,zf f g.bel⟩
        case measure=>simp[intOf];omega
       ·have F:decide (In (S i).many 1 20)=false:=decide_eq_false g3
        have B:=hI g3;clear g3;refine zg (by kernel_rfl) (by kernel_rfl) ?_
        repeat(first|go_big_quiet_skip|(go_big_quiet_want;go_big_quiet_op;first|go_big_quiet_on|(apply Exists.intro;refine⟨fun g=>?_,?_⟩;(focus(first|(go_at_call 44;refine zh (v:=.bool true) ((Zf _ _).mono ?_);rintro e o ⟨rfl,rfl⟩;exact⟨by rw[u],bZ⟩)|(go_at_call 51;refine zh (v:=.bool false) ((zbT _ i c S (S i).who _ (by omega) ((t.out.upto (by omega)).below (zf f g.bel))).mono ?_);rintro e o ⟨⟨J,rfl,s⟩,l⟩;obtain rfl:=Bool.eq_false_iff.2 (fun e=>r.out (s.1 e));exact⟨rfl,l⟩)|(go_at_call 45;refine zh (v:=.bool false) ((zo _ _ _ _).mono ?_);rintro e o ⟨rfl,rfl⟩;exact⟨by rw[F],bZ⟩)));go_big_quiet_on)))
        refine wpQuiet_nil ?_;rintro _ ⟨g,rfl⟩;go_wp2;go_ret;exact⟨zk (fun h=>B.out (h.2.2.1 i hlt).2.2),zf f g.bel⟩
     ·have u:decide (In (S i).who 1 9999)=false:=decide_eq_false g1
      have A:=hI g1;clear g1;refine zg (by kernel_rfl) (by kernel_rfl) ?_
      repeat(first|go_big_quiet_skip|(go_big_quiet_want;go_big_quiet_op;first|go_big_quiet_on|(apply Exists.intro;refine⟨fun g=>?_,?_⟩;(focus(first|(go_at_call 44;refine zh (v:=.bool false) ((Zf _ _).mono ?_);rintro e o ⟨rfl,rfl⟩;exact⟨by rw[u],bZ⟩)));go_big_quiet_on)))
      refine wpQuiet_nil ?_;rintro _ ⟨g,rfl⟩;go_wp2;go_ret;exact⟨zk (fun h=>A.out (h.2.2.1 i hlt).1),zf f g.bel⟩
    ·obtain rfl:i=n:=by omega
     go_wp2_with fail;refine(zao E i c S _ h60 (fun j I=>(C.out j I).2.2) (t.out.below a)).mono ?_
     rintro e w2 ⟨rfl,H⟩;have x:=zf a H
     by_cases hle:ZD S i<=most
     ·have R:decide (ZD S i<=most)=true:=decide_eq_true hle
      have q:=hI hle;clear hle;go_wp2;go_ret;exact⟨zI ⟨z.out,h60,C.out,q.out⟩,x⟩
     ·have R:decide (ZD S i<=most)=false:=decide_eq_false hle
      have q:=hI hle;clear hle;go_wp2;go_ret;exact⟨zk (fun h=>by have:=q.out;have:=h.2.2.2;omega),x⟩
  ·have K:decide (60<n)=true:=by simp;omega
   go_enter Tryz.func18,Tryz.ntmps18;go_wp2_with (first|(go_at_call 45;refine sC (zo _ _ _ _) ?_))
   go_ret;exact⟨zk (fun h=>h60 h.2.1),bZ⟩
 ·have L:decide (In most 0 500)=false:=decide_eq_false g0
  have z:=hI g0;clear g0;go_enter Tryz.func18,Tryz.ntmps18;go_wp2_with (first|(go_at_call 45;refine sC (zo _ _ _ _) ?_))
  go_ret;exact⟨zk (fun h=>z.out h.1),bZ⟩
theorem zet (x:Off)(z F:Option Addr)(c f B H y:Nat)(i:Nat)(C:Nat->List Value)(w:World)(hi:i<x.bkn)(hs:Off.Short x 1048576)
  (d7:SailsAt w z x.san x.sa) (hC:RecsAt w (some ⟨c,f,none⟩) x.bkn 13 C) (d5:∀ k,k<x.bkn->qi.Is w (C k) (x.bk k)) (h0:x.bkn<=y) :
  Calls Tryz.prog 19 #[.agg #[.slice z x.san B,.slice F x.ldn H,.slice (some ⟨c,f,none⟩) x.bkn y],int i64 i] w fun e w'=>SaysIf (qv x i) e/\Below w.heap.size w w':=by
 have e6:=hI d7;have HC:=hI hC;have HI:=hI d5;have d0:=hI hs;have f9:x.bkn<=1048576:=hs.2.2.1;clear d7 hC d5 hs;obtain⟨b0,f8,e0,n⟩:=HC.out i hi;simp only[Option.some.injEq,Addr.mk.injEq,and_true] at e0;obtain⟨rfl,rfl⟩:=e0;obtain⟨G,I,m,a1,e4⟩:=HI.out i hi;obtain⟨b,hb⟩:∃ b,b=x.bk i:=⟨_,rfl⟩;rw[← hb] at m a1 e4;have A:=hI hb;have e5:=hI a1;have b9:Hid (qi.Short b 1048576):=by rw[hb];exact d0.out.2.2.2 i hi
 have a:c<w.heap.size:=World.block_lt_of_cell? w _ (n 0 (by decide))
 have g0:w.cell? ⟨c,f+i*13,none⟩=some (int i64 b.name):=by have:=n 0 (by decide);rw[m] at this;exact this
 have g1:w.cell? ⟨c,f+i*13+1,none⟩=some (int i64 b.who):=by have:=n 1 (by decide);rw[m] at this;exact this
 have g2:w.cell? ⟨c,f+i*13+2,none⟩=some (.string b.own):=by have:=n 2 (by decide);rw[m] at this;exact this
 have g3:w.cell? ⟨c,f+i*13+3,none⟩=some (.slice G b.lgn I):=by have:=n 3 (by decide);rw[m] at this;exact this
 have g4:w.cell? ⟨c,f+i*13+4,none⟩=some (int i64 b.pe):=by have:=n 4 (by decide);rw[m] at this;exact this
 have g5:w.cell? ⟨c,f+i*13+5,none⟩=some (int i64 b.len):=by have:=n 5 (by decide);rw[m] at this;exact this
 have g6:w.cell? ⟨c,f+i*13+6,none⟩=some (int i64 b.hei):=by have:=n 6 (by decide);rw[m] at this;exact this
 have g7:w.cell? ⟨c,f+i*13+7,none⟩=some (int i64 b.cl):=by have:=n 7 (by decide);rw[m] at this;exact this
 have g8:w.cell? ⟨c,f+i*13+8,none⟩=some (.bool b.all):=by have:=n 8 (by decide);rw[m] at this;exact this
 have g9:w.cell? ⟨c,f+i*13+9,none⟩=some (int i64 b.be):=by have:=n 9 (by decide);rw[m] at this;exact this
 have Y:w.cell? ⟨c,f+i*13+10,none⟩=some (int i64 b.state):=by have:=n 10 (by decide);rw[m] at this;exact this
 have Z:w.cell? ⟨c,f+i*13+11,none⟩=some (int i64 b.unt):=by have:=n 11 (by decide);rw[m] at this;exact this
 have a0:w.cell? ⟨c,f+i*13+12,none⟩=some (int i64 b.price):=by have:=n 12 (by decide);rw[m] at this;exact this
 have d6:Below w.heap.size w (w.alloc (.cells #[.slice z x.san B,.slice F x.ldn H,.slice (some ⟨c,f,none⟩) x.bkn y] 27)):=zl bZ _;have bO:=heap_alloc_new w (.cells #[.slice z x.san B,.slice F x.ldn H,.slice (some ⟨c,f,none⟩) x.bkn y] 27);have c0:∀ o,(w.alloc o).cell? ⟨c,f+i*13,none⟩=some (int i64 b.name):=fun o=>((zl (Below.refl _ w) o).cell (p:=⟨c,f+i*13,none⟩) a).trans g0
 have c1:∀ o,(w.alloc o).cell? ⟨c,f+i*13+1,none⟩=some (int i64 b.who):=fun o=>((zl (Below.refl _ w) o).cell (p:=⟨c,f+i*13+1,none⟩) a).trans g1
 have c2:∀ o,(w.alloc o).cell? ⟨c,f+i*13+2,none⟩=some (.string b.own):=fun o=>((zl (Below.refl _ w) o).cell (p:=⟨c,f+i*13+2,none⟩) a).trans g2
 have c3:∀ o,(w.alloc o).cell? ⟨c,f+i*13+3,none⟩=some (.slice G b.lgn I):=fun o=>((zl (Below.refl _ w) o).cell (p:=⟨c,f+i*13+3,none⟩) a).trans g3
 have c4:∀ o,(w.alloc o).cell? ⟨c,f+i*13+4,none⟩=some (int i64 b.pe):=fun o=>((zl (Below.refl _ w) o).cell (p:=⟨c,f+i*13+4,none⟩) a).trans g4
 have c5:∀ o,(w.alloc o).cell? ⟨c,f+i*13+5,none⟩=some (int i64 b.len):=fun o=>((zl (Below.refl _ w) o).cell (p:=⟨c,f+i*13+5,none⟩) a).trans g5
 have c6:∀ o,(w.alloc o).cell? ⟨c,f+i*13+6,none⟩=some (int i64 b.hei):=fun o=>((zl (Below.refl _ w) o).cell (p:=⟨c,f+i*13+6,none⟩) a).trans g6
 have c7:∀ o,(w.alloc o).cell? ⟨c,f+i*13+7,none⟩=some (int i64 b.cl):=fun o=>((zl (Below.refl _ w) o).cell (p:=⟨c,f+i*13+7,none⟩) a).trans g7
 have c8:∀ o,(w.alloc o).cell? ⟨c,f+i*13+8,none⟩=some (.bool b.all):=fun o=>((zl (Below.refl _ w) o).cell (p:=⟨c,f+i*13+8,none⟩) a).trans g8
 have c9:∀ o,(w.alloc o).cell? ⟨c,f+i*13+9,none⟩=some (int i64 b.be):=fun o=>((zl (Below.refl _ w) o).cell (p:=⟨c,f+i*13+9,none⟩) a).trans g9
 have e8:∀ o,(w.alloc o).cell? ⟨c,f+i*13+10,none⟩=some (int i64 b.state):=fun o=>((zl (Below.refl _ w) o).cell (p:=⟨c,f+i*13+10,none⟩) a).trans Y
 have e9:∀ o,(w.alloc o).cell? ⟨c,f+i*13+11,none⟩=some (int i64 b.unt):=fun o=>((zl (Below.refl _ w) o).cell (p:=⟨c,f+i*13+11,none⟩) a).trans Z
 have f0:∀ o,(w.alloc o).cell? ⟨c,f+i*13+12,none⟩=some (int i64 b.price):=fun o=>((zl (Below.refl _ w) o).cell (p:=⟨c,f+i*13+12,none⟩) a).trans a0
 clear n m a1 e4 hb g0 g1 g2 g3 g4 g5 g6 g7 g8 g9 Y Z a0;have f4:IntKind.i64.wrap ((i:Int)+1)=(i:Int)+1:=by rw[IntKind.wrap_i64];omega
 have h1:(0:Int)<=(i:Int):=by omega
 have h2:(i:Int)<(x.bkn:Int):=by omega
 have g:Below w.heap.size w ((w.alloc (.cells #[.slice z x.san B,.slice F x.ldn H,.slice (some ⟨c,f,none⟩) x.bkn y] 27)).alloc (.cells #[int i64 b.name,int i64 b.who,.string b.own,.slice G b.lgn I,int i64 b.pe,int i64 b.len,int i64 b.hei,int i64 b.cl,.bool b.all,int i64 b.be,int i64 b.state,int i64 b.unt,int i64 b.price] 43)):=zl d6 _;have s:((w.alloc (.cells #[.slice z x.san B,.slice F x.ldn H,.slice (some ⟨c,f,none⟩) x.bkn y] 27)).alloc (.cells #[int i64 b.name,int i64 b.who,.string b.own,.slice G b.lgn I,int i64 b.pe,int i64 b.len,int i64 b.hei,int i64 b.cl,.bool b.all,int i64 b.be,int i64 b.state,int i64 b.unt,int i64 b.price] 43)).heap[w.heap.size]?=some (.cells #[.slice z x.san B,.slice F x.ldn H,.slice (some ⟨c,f,none⟩) x.bkn y] 27 (0,0)):=zc bO _;have r:((w.alloc (.cells #[.slice z x.san B,.slice F x.ldn H,.slice (some ⟨c,f,none⟩) x.bkn y] 27)).alloc (.cells #[int i64 b.name,int i64 b.who,.string b.own,.slice G b.lgn I,int i64 b.pe,int i64 b.len,int i64 b.hei,int i64 b.cl,.bool b.all,int i64 b.be,int i64 b.state,int i64 b.unt,int i64 b.price] 43)).heap[w.heap.size+1]?=some (.cells #[int i64 b.name,int i64 b.who,.string b.own,.slice G b.lgn I,int i64 b.pe,int i64 b.len,int i64 b.hei,int i64 b.cl,.bool b.all,int i64 b.be,int i64 b.state,int i64 b.unt,int i64 b.price] 43 (0,0)):=by simpa using heap_alloc_new (w.alloc _) _
 clear d6 bO
 by_cases n1:b.name=(i:Int)+1
 case neg =>
  have e1:(b.name != (i:Int)+1)=true:=by simpa using n1
  have E:Hid (¬ qv x i):=fun h=>n1 (by rw[A.out];exact h.1)
  clear n1;go_enter Tryz.func19,Tryz.ntmps19;go_wp2;go_ret;exact⟨zk E.out,g⟩
 have e1:(b.name != (i:Int)+1)=false:=by simpa using n1
 have a7:=hI n1;clear n1;go_enter Tryz.func19,Tryz.ntmps19;go_wp2_with fail;generalize (w.alloc (.cells #[.slice z x.san B,.slice F x.ldn H,.slice (some ⟨c,f,none⟩) x.bkn y] 27)).alloc (.cells #[int i64 b.name,int i64 b.who,.string b.own,.slice G b.lgn I,int i64 b.pe,int i64 b.len,int i64 b.hei,int i64 b.cl,.bool b.all,int i64 b.be,int i64 b.state,int i64 b.unt,int i64 b.price] 43)=W at g s r ⊢;clear c0 c1 c2 c3 c4 c5 c6 c7 c8 c9 e8 e9 f0 e1 f4;obtain⟨y0,y1,y2,y3,y4,y5,y6,y7,y8,y9,K,L,P⟩:=ce13 r;have z0:=za s 0 _ rfl;have z2:=za s 2 _ rfl;refine(Zf _ _).mono ?_;obtain⟨t0,a2⟩:∃ t,t=decide (In b.who 1 9999):=⟨_,rfl⟩;rw[← a2];have R:Hid (t0=true↔In b.who 1 9999):=by show t0=true↔In b.who 1 9999;rw[a2,decide_eq_true_eq]
 clear a2;rintro e v ⟨rfl,J⟩;have J:=J.symm;subst J
 cases t0 with
 | false =>
  have E:Hid (¬ qv x i):=fun h=>by have h:=(show qv x i from h);unfold qv at h;rw[← A.out] at h;have:=R.out.2 h.2.1;cases this
  go_wp2;go_ret;exact⟨zk E.out,g⟩
 | true =>
 have a8:Hid (In b.who 1 9999):=R.out.1 rfl;clear R;go_wp2_with fail;refine(qe _ _ (by have:=b9.out.1;omega)).mono ?_
 obtain⟨t1,a3⟩:∃ t,t=decide (qr b.own):=⟨_,rfl⟩;rw[← a3];have S:Hid (t1=true↔qr b.own):=by show t1=true↔qr b.own;rw[a3,decide_eq_true_eq]
 clear a3;rintro e v ⟨rfl,J⟩;have J:=J.symm;subst J
 cases t1 with
 | false =>
  have E:Hid (¬ qv x i):=fun h=>by have h:=(show qv x i from h);unfold qv at h;rw[← A.out] at h;have:=S.out.2 h.2.2.1;cases this
  go_wp2;go_ret;exact⟨zk E.out,g⟩
 | true =>
 have a9:Hid (qr b.own):=S.out.1 rfl;clear S;go_wp2_with fail;refine(zcF z G x.san b.lgn B I x.sa b.lg _ d0.out.1.1 b9.out.2 (e6.out.below g) (e5.out.below g)).mono ?_;rintro e v2 ⟨⟨t2,rfl,d8⟩,D⟩;have T:=hI d8;clear d8;have N:=zb s D;have M:=zb r D;have O:=zf g D;clear y0 y1 y2 y3 y4 y5 y6 y7 y8 y9 K L P z0 z2 g s r D;have g:=O;have s:=N;have r:=M;clear O N M;obtain⟨y0,y1,y2,y3,y4,y5,y6,y7,y8,y9,K,L,P⟩:=ce13 r;have z0:=za s 0 _ rfl;have z2:=za s 2 _ rfl
 cases t2 with
 | false =>
  have E:Hid (¬ qv x i):=fun h=>by have h:=(show qv x i from h);unfold qv at h;rw[← A.out] at h;have:=T.out.2 h.2.2.2.1;cases this
  go_wp2;go_ret;exact⟨zk E.out,g⟩
 | true =>
 have b5:Hid (Qz x.san x.sa b.lgn b.lg):=T.out.1 rfl;clear T;go_wp2_with fail;refine(ZV b.pe b.len b.hei b.cl b.all b.be _).mono ?_;rintro e v3 ⟨⟨t3,rfl,d9⟩,D⟩;have U:=hI d9;clear d9;have N:=zb s D;have M:=zb r D;have O:=zf g D;clear y0 y1 y2 y3 y4 y5 y6 y7 y8 y9 K L P z0 z2 g s r D;have g:=O;have s:=N;have r:=M;clear O N M;obtain⟨y0,y1,y2,y3,y4,y5,y6,y7,y8,y9,K,L,P⟩:=ce13 r;have z0:=za s 0 _ rfl;have z2:=za s 2 _ rfl
 cases t3 with
 | false =>
  have E:Hid (¬ qv x i):=fun h=>by have h:=(show qv x i from h);unfold qv at h;rw[← A.out] at h;have:=U.out.2 h.2.2.2.2.1;cases this
  go_wp2;go_ret;exact⟨zk E.out,g⟩
 | true =>
 have b6:Hid (qw b.p):=U.out.1 rfl;clear U;go_wp2_with fail;refine(zo _ _ _ _).mono ?_;obtain⟨t4,a5⟩:∃ t,t=decide (In b.state 1 4):=⟨_,rfl⟩;rw[← a5];have V:Hid (t4=true↔In b.state 1 4):=by show t4=true↔In b.state 1 4;rw[a5,decide_eq_true_eq]
 clear a5;rintro e v ⟨rfl,J⟩;have J:=J.symm;subst J
 cases t4 with
 | false =>
  have E:Hid (¬ qv x i):=fun h=>by have h:=(show qv x i from h);unfold qv at h;rw[← A.out] at h;have:=V.out.2 h.2.2.2.2.2.1;cases this
  go_wp2;go_ret;exact⟨zk E.out,g⟩
 | true =>
 have b7:Hid (In b.state 1 4):=V.out.1 rfl;clear V;go_wp2_with fail;refine(zo _ _ _ _).mono ?_;obtain⟨t5,a6⟩:∃ t,t=decide (In b.price 0 1000000):=⟨_,rfl⟩;rw[← a6];have X:Hid (t5=true↔In b.price 0 1000000):=by show t5=true↔In b.price 0 1000000;rw[a6,decide_eq_true_eq]
 clear a6;rintro e v ⟨rfl,J⟩;have J:=J.symm;subst J
 cases t5 with
 | false =>
  have E:Hid (¬ qv x i):=fun h=>by have h:=(show qv x i from h);unfold qv at h;rw[← A.out] at h;have:=X.out.2 h.2.2.2.2.2.2.1;cases this
  go_wp2;go_ret;exact⟨zk E.out,g⟩
 | true =>
 have b8:Hid (In b.price 0 1000000):=X.out.1 rfl;clear X;have f7:(x.bkn:Int)<=(y:Int):=by omega
 have h3:(i:Int)<=(y:Int):=by omega
 go_wp2;clear y0 y1 y2 y3 y4 y5 y6 y7 y8 y9 K L P z0 z2;go_loopw [7,61] (fun _ q wr=>∃ k:Nat,k<=i/\q=int i64 k/\(∀ j,j<k->(x.bk j).who≠b.who)/\Below v3.heap.size v3 wr) (fun _ q _=>i - (intOf q).toNat)
 case atStart=>exact⟨0,Nat.zero_le _,rfl,fun j hj=>by omega,bZ⟩
 case round =>
  obtain⟨k,hk,rfl,Q,u⟩:=hrel;have HA:=hI Q;clear Q
  by_cases hlt:k<i
  ·obtain⟨b2,o2,e2,n⟩:=HC.out k (by omega)
   simp only[Option.some.injEq,Addr.mk.injEq,and_true] at e2;obtain⟨rfl,rfl⟩:=e2;obtain⟨e7,f1,m,_,_⟩:=HI.out k (by omega)
   obtain⟨d,hd⟩:∃ d,d=x.bk k:=⟨_,rfl⟩;rw[← hd] at m;have HD:=hI hd;clear hd;have l:=zf g u;have g0:wr.cell? ⟨c,f+k*13,none⟩=some (int i64 d.name):=(l.cell (p:=⟨c,f+k*13,none⟩) a).trans (by have:=n 0 (by decide);rw[m] at this;exact this)
   have g1:wr.cell? ⟨c,f+k*13+1,none⟩=some (int i64 d.who):=(l.cell (p:=⟨c,f+k*13+1,none⟩) a).trans (by have:=n 1 (by decide);rw[m] at this;exact this)
   have g2:wr.cell? ⟨c,f+k*13+2,none⟩=some (.string d.own):=(l.cell (p:=⟨c,f+k*13+2,none⟩) a).trans (by have:=n 2 (by decide);rw[m] at this;exact this)
   have g3:wr.cell? ⟨c,f+k*13+3,none⟩=some (.slice e7 d.lgn f1):=(l.cell (p:=⟨c,f+k*13+3,none⟩) a).trans (by have:=n 3 (by decide);rw[m] at this;exact this)
   have g4:wr.cell? ⟨c,f+k*13+4,none⟩=some (int i64 d.pe):=(l.cell (p:=⟨c,f+k*13+4,none⟩) a).trans (by have:=n 4 (by decide);rw[m] at this;exact this)
   have g5:wr.cell? ⟨c,f+k*13+5,none⟩=some (int i64 d.len):=(l.cell (p:=⟨c,f+k*13+5,none⟩) a).trans (by have:=n 5 (by decide);rw[m] at this;exact this)
   have g6:wr.cell? ⟨c,f+k*13+6,none⟩=some (int i64 d.hei):=(l.cell (p:=⟨c,f+k*13+6,none⟩) a).trans (by have:=n 6 (by decide);rw[m] at this;exact this)
   have g7:wr.cell? ⟨c,f+k*13+7,none⟩=some (int i64 d.cl):=(l.cell (p:=⟨c,f+k*13+7,none⟩) a).trans (by have:=n 7 (by decide);rw[m] at this;exact this)
   have g8:wr.cell? ⟨c,f+k*13+8,none⟩=some (.bool d.all):=(l.cell (p:=⟨c,f+k*13+8,none⟩) a).trans (by have:=n 8 (by decide);rw[m] at this;exact this)
   have g9:wr.cell? ⟨c,f+k*13+9,none⟩=some (int i64 d.be):=(l.cell (p:=⟨c,f+k*13+9,none⟩) a).trans (by have:=n 9 (by decide);rw[m] at this;exact this)
   have Y:wr.cell? ⟨c,f+k*13+10,none⟩=some (int i64 d.state):=(l.cell (p:=⟨c,f+k*13+10,none⟩) a).trans (by have:=n 10 (by decide);rw[m] at this;exact this)
   have Z:wr.cell? ⟨c,f+k*13+11,none⟩=some (int i64 d.unt):=(l.cell (p:=⟨c,f+k*13+11,none⟩) a).trans (by have:=n 11 (by decide);rw[m] at this;exact this)
   have a0:wr.cell? ⟨c,f+k*13+12,none⟩=some (int i64 d.price):=(l.cell (p:=⟨c,f+k*13+12,none⟩) a).trans (by have:=n 12 (by decide);rw[m] at this;exact this)
   have y1:∀ o,(wr.alloc o).cell? ⟨w.heap.size+1,1,none⟩=some (int i64 b.who):=fun o=>za (zc (zb r u) o) 1 _ rfl
   clear n m l
   by_cases e3:d.who=b.who
   ·have f2:(d.who == b.who)=true:=by simpa using e3
    have E:Hid (¬ qv x i):=fun h=>h.2.2.2.2.2.2.2.1 k hlt (by rw[← HD.out,← A.out];exact e3)
    clear e3;go_wp2;go_ret;exact⟨zk E.out,zl (zf g u) _⟩
   ·have f2:(d.who == b.who)=false:=by simpa using e3
    have E:Hid ((x.bk k).who≠b.who):=by rw[← HD.out];exact e3
    clear e3;go_wp2;go_roundw
    case rel=>exact⟨k+1,by omega,by go_num,fun j hj=>by
     by_cases e:j=k
     ·subst e;exact E.out
     ·exact HA.out j (by omega),zl u _⟩
    case measure=>simp[intOf];omega
  ·obtain rfl:k=i:=by omega
   have l:=zf g u;have K:=za (zb r u) 10 _ rfl;have L:=za (zb r u) 11 _ rfl;have HF:Hid (qv x k↔ZU b):=by
    show qv x k↔ZU b
    unfold qv;rw[← A.out];exact⟨fun h=>h.2.2.2.2.2.2.2.2,fun h=>⟨a7.out,a8.out,a9.out,b5.out,b6.out,b7.out,b8.out,HA.out,h⟩⟩
   clear a7 a8 a9 b5 b6 b7 b8 HA u
   by_cases s1:b.state=1
   ·have f5:(b.state == 1)=true:=by simpa using s1
    have HU:Hid (ZU b↔In b.unt 0 10000):=by show ZU b↔In b.unt 0 10000;unfold ZU;rw[if_pos (.inl s1)]
    clear s1;go_wp2_with (first|(go_at_call 45;refine sC (zo _ _ _ _) ?_))
    go_ret;exact⟨⟨_,rfl,by rw[decide_eq_true_eq,HF.out,HU.out]⟩,l⟩
   ·have f5:(b.state == 1)=false:=by simpa using s1
    by_cases s4:b.state=4
    ·have f6:(b.state == 4)=true:=by simpa using s4
     have HU:Hid (ZU b↔In b.unt 0 10000):=by show ZU b↔In b.unt 0 10000;unfold ZU;rw[if_pos (.inr s4)]
     clear s1 s4;go_wp2_with (first|(go_at_call 45;refine sC (zo _ _ _ _) ?_))
     go_ret;exact⟨⟨_,rfl,by rw[decide_eq_true_eq,HF.out,HU.out]⟩,l⟩
    ·have f6:(b.state == 4)=false:=by simpa using s4
     have HU:Hid (ZU b↔b.unt=0):=by show ZU b↔b.unt=0;unfold ZU;rw[if_neg (fun h=>by rcases h with h|h;exact s1 h;exact s4 h)]
     clear s1 s4;go_wp2;go_ret;exact⟨⟨_,rfl,by rw[beq_iff_eq,HF.out,HU.out]⟩,l⟩
theorem zcX (b:Int)(w:World):Calls Tryz.prog 107 #[.int .u8 b] w fun e w'=>e=.returned (.bool (decide (QT b)))/\w'=w:=by
 obtain⟨c,d⟩:∃ c,c=decide (QT b):=⟨_,rfl⟩;rw[← d];have a:=hI d;clear d
 by_cases h1:97<=b
 ·have i:decide (97<=b)=true:=by simpa using h1
  by_cases h2:b<=122
  ·have j:decide (b<=122)=true:=by simpa using h2
   go_enter Tryz.func107,Tryz.ntmps107;go_wp2;go_ret;exact⟨by rw[a.out,decide_eq_true (.inl ⟨h1,h2⟩)];rfl,rfl⟩
  ·have j:decide (b<=122)=false:=by simpa using h2
   have f:decide (65<=b)=true:=by simp;omega
   have g:decide (b<=90)=false:=by simp;omega
   go_enter Tryz.func107,Tryz.ntmps107;go_wp2;go_ret;exact⟨by rw[a.out,decide_eq_false (by rintro(h|h) <;> omega)];rfl,rfl⟩
 ·have i:decide (97<=b)=false:=by simpa using h1
  by_cases h3:65<=b
  ·have f:decide (65<=b)=true:=by simpa using h3
   by_cases h4:b<=90
   ·have g:decide (b<=90)=true:=by simpa using h4
    go_enter Tryz.func107,Tryz.ntmps107;go_wp2;go_ret;exact⟨by rw[a.out,decide_eq_true (.inr ⟨h3,h4⟩)];rfl,rfl⟩
   ·have g:decide (b<=90)=false:=by simpa using h4
    go_enter Tryz.func107,Tryz.ntmps107;go_wp2;go_ret;exact⟨by rw[a.out,decide_eq_false (by rintro(h|h) <;> omega)];rfl,rfl⟩
  ·have f:decide (65<=b)=false:=by simpa using h3
   go_enter Tryz.func107,Tryz.ntmps107;go_wp2;go_ret;exact⟨by rw[a.out,decide_eq_false (by rintro(h|h) <;> omega)];rfl,rfl⟩
theorem zhb (s:ByteArray)(w:World)(hs:s.size<=1000000000000000) :
  Calls Tryz.prog 80 #[.string s] w fun e w'=>SaysIf (qr s) e/\w'=w:=by
 by_cases h0:In (s.size:Int) 1 12
 ·have b:=hI h0
  have g:decide (In (s.size:Int) 1 12)=true:=decide_eq_true h0;have m:s.size<=12:=by have:=h0.2;omega
  clear h0;go_enter Tryz.func80,Tryz.ntmps80;go_wp2_with (first|(go_at_call 74;refine sC (zM _ _ _ _) ?_))
  go_loop [3,10] (fun _ i=>∃ k:Nat,k<=s.size/\i=int i64 k/\∀ j,j<k->QT (zaP s j)) (fun _ i=>s.size - (intOf i).toNat)
  case atStart=>exact⟨0,Nat.zero_le _,rfl,fun j l=>by omega⟩
  case round =>
   obtain⟨k,hk,rfl,a⟩:=hrel;have f:=hI a;clear a
   by_cases hlt:k<s.size
   ·by_cases hL:QT (zaP s k)
    ·have d:decide (QT (zaP s k))=true:=decide_eq_true hL
     have c:=hI hL;clear hL;rw[← zcx s k hlt] at d;go_wp2_with (first|(go_at_call 107;refine sC (zcX _ _) ?_))
     go_round
     case rel=>exact⟨k+1,by omega,by go_num,fun j l=>by
      by_cases e:j=k
      ·subst e;exact c.out
      ·exact f.out j (by omega)⟩
     case measure=>simp[intOf];omega
    ·have d:decide (QT (zaP s k))=false:=decide_eq_false hL
     have c:=hI hL;clear hL;rw[← zcx s k hlt] at d;go_wp2_with (first|(go_at_call 107;refine sC (zcX _ _) ?_))
     go_ret;exact⟨zk (fun h=>c.out (h.2.2 k hlt)),rfl⟩
   ·obtain rfl:k=s.size:=by omega
    go_wp2;go_ret;exact⟨zI ⟨by have:=b.out.1;omega,by have:=b.out.2;omega,f.out⟩,rfl⟩
 ·have b:=hI h0
  have g:decide (In (s.size:Int) 1 12)=false:=decide_eq_false h0;clear h0;go_enter Tryz.func80,Tryz.ntmps80;go_wp2_with (first|(go_at_call 74;refine sC (zM _ _ _ _) ?_))
  go_ret;exact⟨zk (fun h=>b.out ⟨by have:=h.1;omega,by have:=h.2.1;omega⟩),rfl⟩
theorem Za (s:ByteArray)(w:World)(a:s.size<=1000000000000000) :
  Calls Tryz.prog 80 #[.string s] w fun e w'=>e=.returned (.bool (decide (qr s)))/\w'=w:=by
 refine(zhb s w a).mono ?_;rintro e w' ⟨⟨b',rfl,h⟩,rfl⟩;rw[bool_eq h (decide_eq_true_iff (p:=qr s))];exact⟨rfl,rfl⟩
end Go.Proofs.YtgmdnkngnhkgbaaGreat
