import Derived.Test.YtgmdnkngnhkgbaaGreatB23
namespace Go.Proofs.YtgmdnkngnhkgbaaGreat
open Go.RowKit
open Go.Value (int)
open Go.IntKind (i64)
set_option maxHeartbeats 64000000
set_option maxRecDepth 1000000
theorem Q6 (m:Option Addr)(n c:Nat)(S:Nat->qH)(x:Int)(w:World)(hn:n<=1048576)(v:qo w m n S) :
  Calls Tryz.prog 49 #[.slice m n c,int i64 x] w fun e w'=>SaysIf (Has (Zh S) n x) e/\Below w.heap.size w w':=by
 go_enter Tryz.func49,Tryz.ntmps49;go_wp2;go_loopw [6,9] (fun _ i wr=>∃ k:Nat,k<=n/\i=int i64 k/\(∀ j,j<k->Zh S j≠x)/\Below w.heap.size w wr) (fun _ i _=>n - (intOf i).toNat)
 case atStart=>exact⟨0,Nat.zero_le _,rfl,fun j u=>by omega,bZ⟩
 case round =>
  obtain⟨k,hk,rfl,d,a⟩:=hrel;have l:=hI d;clear d
  by_cases hlt2:k<n
  ·obtain⟨b,off,rfl,h,o,q,r⟩:=v k hlt2
   have f:=World.block_lt_of_cell? w _ h;have c0:=(a.cell (p:=⟨b,off+k*4,none⟩) f).trans h;have c1:=(a.cell (p:=⟨b,off+k*4+1,none⟩) f).trans o;have c2:=(a.cell (p:=⟨b,off+k*4+2,none⟩) f).trans q;have c3:=(a.cell (p:=⟨b,off+k*4+3,none⟩) f).trans r;clear h o q r
   by_cases he:Zh S k=x
   ·have t:((S k).who == x)=true:=by unfold Zh at he;simpa using he
    have g:Hid (Has (Zh S) n x):=⟨k,hlt2,he⟩;clear he;go_wp2;go_ret;exact⟨zI g.out,zl a _⟩
   ·have t:((S k).who == x)=false:=by unfold Zh at he;simpa using he
    have s:=hI he;clear he;go_wp2;go_roundw
    case rel=>exact⟨k+1,by omega,by go_num,fun j u=>by
     by_cases e:j=k
     ·subst e;exact s.out
     ·exact l.out j (by omega),zl a _⟩
    case measure=>simp[intOf];omega
  ·obtain rfl:k=n:=by omega
   have g:=hI (zaB l.out);go_wp2;go_ret;exact⟨zk g.out,a⟩
theorem zbP (H I:Option Addr)(m mc n c:Nat)(p:zP)(S:Nat->qH)(w:World)(hl:p.n=m)(z:zdj p)(hn:n<=60)(O:∀ j,j<n->In (S j).many 1 4)(Q:zT w H p)(R:qo w I n S) :
  Calls Tryz.prog 50 #[.slice H m mc,.slice I n c] w fun e w'=>(∃ v,e=.returned v/\w'.ownsRow w.heap.size 3 1 v m (zw (qk p S n) m))/\Below w.heap.size w w':=by
 obtain⟨j0,ji,C,D,E⟩:=info_parts Tryz.infoInt;have F:=hI hl;have V:=hI z;have G:=hI O;have W:=hI Q;have X:=hI R;have Z:m<=6:=by rw[← hl];exact z.1
 clear hl z O Q R;go_enter Tryz.func50,Tryz.ntmps50;go_wp2;go_loopw [5,6,7,8,10,13,20,21,22] (fun v _ _ _ _ i _ _ _ wr=>∃ k:Nat,k<=m/\i=int i64 k/\wr.ownsRow w.heap.size 3 1 v k (zw (qk p S n) k)/\Below w.heap.size w wr) (fun _ _ _ _ _ i _ _ _ _=>m - (intOf i).toNat)
 case atStart=>exact⟨0,Nat.zero_le _,rfl,⟨rfl,.inl ⟨rfl,rfl⟩⟩,bZ⟩
 case round =>
  obtain⟨k,hk,rfl,l,f⟩:=hrel
  by_cases hlt:k<m
  ·obtain⟨b,off,rfl,q,r⟩:=W.out k (by rw[F.out];exact hlt)
   have M:=World.block_lt_of_cell? w _ q;have J:=(f.cell (p:=⟨b,off+k*2,none⟩) M).trans q;have K:=(f.cell (p:=⟨b,off+k*2+1,none⟩) M).trans r;clear q r;go_wp2;go_loopw [8,10,22] (fun s8 _ i T=>∃ t:Nat,t<=n/\i=int i64 t/\s8=int i64 (qk p S t k)/\T.ownsRow w.heap.size 3 1 u5 k (zw (qk p S n) k)/\Below w.heap.size w T) (fun _ _ i _=>n - (intOf i).toNat)
   case atStart=>exact⟨0,Nat.zero_le _,rfl,by rw[zeb],zp (zl bZ _) l,zl f _⟩
   case round =>
    obtain⟨t,ht,rfl,rfl,d,a⟩:=hrel;clear l f J K
    by_cases hlt2:t<n
    ·obtain⟨b2,g,rfl,y,q,r,L⟩:=X.out t hlt2
     have o:=World.block_lt_of_cell? w _ y;have c0:=(a.cell (p:=⟨b2,g+t*4,none⟩) o).trans y;have J:=(a.cell (p:=⟨b2,g+t*4+1,none⟩) o).trans q;have K:=(a.cell (p:=⟨b2,g+t*4+2,none⟩) o).trans r;have c3:=(a.cell (p:=⟨b2,g+t*4+3,none⟩) o).trans L;clear y q r L
     by_cases he:(S t).cab=(k:Int)
     ·have Y:((S t).cab == (k:Int))=true:=by simpa using he
      have s:=hI he;have a1:IntKind.i64.wrap (qk p S t k - (S t).many)=qk p S t k - (S t).many:=by
       have q:=zca V.out (show t<=60 by omega) (fun j N=>G.out j (by omega)) (show k<p.n by rw[F.out];exact hlt)
       have r:=G.out t hlt2;unfold In at r;rw[IntKind.wrap_i64];omega
      clear he;go_wp2;go_roundw
      case rel=>exact⟨t+1,by omega,by go_num,by rw[zaI p S t k s.out],zp (zl bZ _) d,zl a _⟩
      case measure=>simp[intOf];omega
     ·have Y:((S t).cab == (k:Int))=false:=by simpa using he
      have s:=hI he;clear he;go_wp2;go_roundw
      case rel=>exact⟨t+1,by omega,by go_num,by rw[zcq p S t k s.out],zp (zl bZ _) d,zl a _⟩
      case measure=>simp[intOf];omega
    ·obtain rfl:t=n:=by omega
     have a0:=a.size;have U:Hid (∀ x,(some ⟨wr.heap.size,0,none⟩:Option Addr)=some x->∀ j u,[Value.int .i64 (qk p S t k)][j]?=some u->(wr.alloc (.cells #[int i64 (qk p S t k)] 3)).cell? (x.add j)=some u):=by
      intro x e
      cases e
      exact World.news_of_block (heap_alloc_new wr _)
     go_wp2_with (first|(at_builtin;refine zu _ (by rfl) (.tmp 35) (.tmp 37) 37 (by rfl) w.heap.size 3 j0 (int i64 0) 1 8 Tryz.underlying37 ji C D E rfl (by decide) _ k (zw (qk p S t) k) (by rfl) (d.alloc _) (some ⟨wr.heap.size,0,none⟩) 1 1 [int i64 (qk p S t k)] (by rfl) (fun h=>(by cases h)) (by rfl) U.out (by intro u P;simp at P;subst P;rfl) (by unfold maxLen;omega) (by omega) (by simp;omega) ?_;intro v' w3 B A))
     go_roundw
     case rel=>exact⟨k+1,by omega,by go_num,by rw[intList_succ];exact B,(zl a _).grown A (by simp;omega) (fun j N=>(d.lt j N).1)⟩
     case measure=>simp[intOf];omega
  ·obtain rfl:k=m:=by omega
   go_wp2;go_ret;exact⟨⟨_,rfl,l⟩,f⟩
theorem zek (ao bo:Option Addr)(m mc n c:Nat)(p:zP)(S:Nat->qH)(w:World)(hl:p.n=m)(hm:m<=1048576)(hn:n<=1048576)(hc:n<=c)(hx:zT w ao p)(hz:qo w bo n S) :
  Calls Tryz.prog 17 #[.slice ao m mc,.slice bo n c] w fun e w'=>SaysIf (qX p n S) e/\Below w.heap.size w w':=by
 have J:=hI hl;have HX:=hI hx;have G:=hI hz;clear hl hx hz;go_enter Tryz.func17,Tryz.ntmps17;go_wp2_with fail;refine(zfm ao m mc p _ J.out hm HX.out).mono ?_;rintro e w1 ⟨⟨q,rfl,hq⟩,H⟩
 cases q with
 | false =>
  have U:Hid (¬ zdj p):=fun h=>by have:=hq.2 h;cases this
  clear hq;go_wp2;go_ret;exact⟨zk (fun h=>U.out h.1),H⟩
 | true =>
  have U:Hid (zdj p):=hq.1 rfl;have b7:m<=6:=by rw[← J.out];exact U.out.1
  clear hq
  by_cases h60:n<=60
  ·have d0:decide (60<n)=false:=by simp;omega
   have b8:IntKind.i64.wrap ((m:Int) - 1)=(m:Int) - 1:=by rw[IntKind.wrap_i64];omega
   go_wp2;go_loopw [5,6,8,21,70,71,72] (fun _ _ _ i _ _ _ wr=>∃ k:Nat,k<=n/\i=int i64 k/\(∀ j,j<k->OkR p S j)/\Below w.heap.size w wr) (fun _ _ _ i _ _ _ _=>n - (intOf i).toNat)
   case atStart=>exact⟨0,Nat.zero_le _,rfl,fun j C=>by omega,H⟩
   case round =>
    obtain⟨i,z,rfl,d,f⟩:=hrel;have HA:=hI d;clear d H
    by_cases hlt:i<n
    ·obtain⟨b,off,rfl,O,Z,h2,h3⟩:=G.out i hlt
     have K:=World.block_lt_of_cell? w _ O;have c0:=(f.cell (p:=⟨b,off+i*4,none⟩) K).trans O;have c1:=(f.cell (p:=⟨b,off+i*4+1,none⟩) K).trans Z;have c2:=(f.cell (p:=⟨b,off+i*4+2,none⟩) K).trans h2;have c3:=(f.cell (p:=⟨b,off+i*4+3,none⟩) K).trans h3;have u:=heap_alloc_new wr (.cells #[int i64 (S i).who,int i64 (S i).cab,int i64 (S i).many,.bool (S i).all] 93);have r:=zl f (.cells #[int i64 (S i).who,int i64 (S i).cab,int i64 (S i).many,.bool (S i).all] 93);clear O Z h2 h3;go_upto_region 6 with fail;generalize hW:wr.alloc (.cells #[int i64 (S i).who,int i64 (S i).cab,int i64 (S i).many,.bool (S i).all] 93)=W at u r ⊢;clear hW;have I:wr.heap.size<W.heap.size:=zQ u;have x:=hI u;generalize wr.heap.size=B at *;clear c0 c1 c2 c3 u f;have i1:(0:Int)<=(i:Int):=by omega
     have i2:(i:Int)<=(c:Int):=by omega
     go_cut [67] (fun a8 wx=>Tells (OkR0 p S i) a8/\Below W.heap.size W wx)
     case first =>
      have z0:∀ g:zv W,g.val.cell? ⟨B,0,none⟩=some (int i64 (S i).who):=fun g=>(g.bel.cell I).trans (za x.out 0 _ rfl)
      have z1:∀ g:zv W,g.val.cell? ⟨B,1,none⟩=some (int i64 (S i).cab):=fun g=>(g.bel.cell I).trans (za x.out 1 _ rfl)
      have z2:∀ g:zv W,g.val.cell? ⟨B,2,none⟩=some (int i64 (S i).many):=fun g=>(g.bel.cell I).trans (za x.out 2 _ rfl)
      have z3:∀ g:zv W,g.val.cell? ⟨B,3,none⟩=some (.bool (S i).all):=fun g=>(g.bel.cell I).trans (za x.out 3 _ rfl)
      by_cases g1:In (S i).who 1 9999
      ·have y:decide (In (S i).who 1 9999)=true:=decide_eq_true g1
       have H1:=hI g1;clear g1
       by_cases g2:Has (Zh S) i (S i).who
       ·have E:=hI g2
        clear g2;refine zg (by kernel_rfl) (by kernel_rfl) ?_
        repeat(first|go_big_quiet_skip|(go_big_quiet_want;go_big_quiet_op;first|go_big_quiet_on|(apply Exists.intro;refine⟨fun g=>?_,?_⟩;(focus(first|(go_at_call 44;refine zh (v:=.bool true) ((Zf _ _).mono ?_);rintro e s ⟨rfl,rfl⟩;exact⟨by rw[y],bZ⟩)|(go_at_call 49;refine zh (v:=.bool true) ((Q6 _ i c S (S i).who _ (by omega) ((G.out.upto (by omega)).below (zf r g.bel))).mono ?_);rintro e s ⟨⟨X,rfl,z⟩,o⟩;obtain rfl:=z.2 E.out;exact⟨rfl,o⟩)));go_big_quiet_on)))
        refine wpQuiet_nil ?_;rintro _ ⟨g,rfl⟩;go_wp2;go_meet;exact⟨tells_bad (fun h=>h.2.1 E.out),g.bel⟩
       ·have E:=hI g2
        clear g2
        by_cases g3:In (S i).cab 0 ((m:Int) - 1)
        ·have H3:Hid (In (S i).cab 0 ((p.n:Int) - 1)):=by rw[J.out];exact g3
         obtain⟨l,hl⟩:∃ l:Nat,(S i).cab=l:=⟨(S i).cab.toNat,by unfold In at g3;omega⟩
         have b0:l<m:=by unfold In at g3;omega
         have V:=hI hl;have T:decide (In (l:Int) 0 ((m:Int) - 1))=true:=decide_eq_true (by rw[← hl];exact g3)
         have b9:∀ g:zv W,g.val.cell? ⟨B,1,none⟩=some (int i64 (l:Int)):=fun g=>by rw[z1 g,hl]
         obtain⟨b',L,rfl,k1,k2⟩:=HX.out l (by rw[J.out];exact b0)
         have a9:=World.block_lt_of_cell? w _ k1;have y2:∀ g:zv W,g.val.cell? ⟨b',L+l*2+1,none⟩=some (int i64 (p.B l)):=fun g=>((zf r g.bel).cell (p:=⟨b',L+l*2+1,none⟩) a9).trans k2
         have l1:(0:Int)<=(l:Int):=by omega
         have l2:(l:Int)<(m:Int):=by omega
         clear g3 z1 hl k1 k2
         by_cases g4:In (S i).many 1 4
         ·have Y:decide (In (S i).many 1 4)=true:=decide_eq_true g4
          have H4:=hI g4;clear g4
          cases d:(S i).all with
          | false =>
           rw[d] at z3;have H5:=hI d;clear d;refine zg (by kernel_rfl) (by kernel_rfl) ?_
           repeat(first|go_big_quiet_skip|(go_big_quiet_want;go_big_quiet_op;first|go_big_quiet_on|(apply Exists.intro;refine⟨fun g=>?_,?_⟩;(focus(first|(go_at_call 44;refine zh (v:=.bool true) ((Zf _ _).mono ?_);rintro e s ⟨rfl,rfl⟩;exact⟨by rw[y],bZ⟩)|(go_at_call 49;refine zh (v:=.bool false) ((Q6 _ i c S (S i).who _ (by omega) ((G.out.upto (by omega)).below (zf r g.bel))).mono ?_);rintro e s ⟨⟨X,rfl,z⟩,o⟩;obtain rfl:=Bool.eq_false_iff.2 (fun e=>E.out (z.1 e));exact⟨rfl,o⟩)|(go_at_call 45;first|(refine zh (v:=.bool true) ((zo _ _ _ _).mono ?_);rintro e s ⟨rfl,rfl⟩;exact⟨by rw[T],bZ⟩)|(refine zh (v:=.bool true) ((zo _ _ _ _).mono ?_);rintro e s ⟨rfl,rfl⟩;exact⟨by rw[Y],bZ⟩))));go_big_quiet_on)))
           refine wpQuiet_nil ?_;rintro _ ⟨g,rfl⟩;go_wp2;go_meet;exact⟨tells_good ⟨H1.out,E.out,H3.out,H4.out,fun h=>by rw[H5.out] at h;cases h⟩,g.bel⟩
          | true =>
           rw[d] at z3;have H5:=hI d;clear d
           by_cases g6:(S i).many=p.B l
           ·have e6:((S i).many == p.B l)=true:=by simpa using g6
            have e7:((S i).many != p.B l)=false:=by simpa using g6
            have H6:=hI g6;clear g6;refine zg (by kernel_rfl) (by kernel_rfl) ?_
            repeat(first|go_big_quiet_skip|(go_big_quiet_want;go_big_quiet_op;first|go_big_quiet_on|(apply Exists.intro;refine⟨fun g=>?_,?_⟩;(focus(first|(go_at_call 44;refine zh (v:=.bool true) ((Zf _ _).mono ?_);rintro e s ⟨rfl,rfl⟩;exact⟨by rw[y],bZ⟩)|(go_at_call 49;refine zh (v:=.bool false) ((Q6 _ i c S (S i).who _ (by omega) ((G.out.upto (by omega)).below (zf r g.bel))).mono ?_);rintro e s ⟨⟨X,rfl,z⟩,o⟩;obtain rfl:=Bool.eq_false_iff.2 (fun e=>E.out (z.1 e));exact⟨rfl,o⟩)|(go_at_call 45;first|(refine zh (v:=.bool true) ((zo _ _ _ _).mono ?_);rintro e s ⟨rfl,rfl⟩;exact⟨by rw[T],bZ⟩)|(refine zh (v:=.bool true) ((zo _ _ _ _).mono ?_);rintro e s ⟨rfl,rfl⟩;exact⟨by rw[Y],bZ⟩))));go_big_quiet_on)))
            refine wpQuiet_nil ?_;rintro _ ⟨g,rfl⟩;go_wp2;go_meet;exact⟨tells_good ⟨H1.out,E.out,H3.out,H4.out,fun _=>by rw[V.out];exact H6.out⟩,g.bel⟩
           ·have e6:((S i).many == p.B l)=false:=by simpa using g6
            have e7:((S i).many != p.B l)=true:=by simpa using g6
            have H6:=hI g6;clear g6;refine zg (by kernel_rfl) (by kernel_rfl) ?_
            repeat(first|go_big_quiet_skip|(go_big_quiet_want;go_big_quiet_op;first|go_big_quiet_on|(apply Exists.intro;refine⟨fun g=>?_,?_⟩;(focus(first|(go_at_call 44;refine zh (v:=.bool true) ((Zf _ _).mono ?_);rintro e s ⟨rfl,rfl⟩;exact⟨by rw[y],bZ⟩)|(go_at_call 49;refine zh (v:=.bool false) ((Q6 _ i c S (S i).who _ (by omega) ((G.out.upto (by omega)).below (zf r g.bel))).mono ?_);rintro e s ⟨⟨X,rfl,z⟩,o⟩;obtain rfl:=Bool.eq_false_iff.2 (fun e=>E.out (z.1 e));exact⟨rfl,o⟩)|(go_at_call 45;first|(refine zh (v:=.bool true) ((zo _ _ _ _).mono ?_);rintro e s ⟨rfl,rfl⟩;exact⟨by rw[T],bZ⟩)|(refine zh (v:=.bool true) ((zo _ _ _ _).mono ?_);rintro e s ⟨rfl,rfl⟩;exact⟨by rw[Y],bZ⟩))));go_big_quiet_on)))
            refine wpQuiet_nil ?_;rintro _ ⟨g,rfl⟩;go_wp2;go_meet;exact⟨tells_bad (fun h=>H6.out (by have:=h.2.2.2.2 H5.out;rw[V.out] at this;exact this)),g.bel⟩
         ·have Y:decide (In (S i).many 1 4)=false:=decide_eq_false g4
          have H4:=hI g4;clear g4;refine zg (by kernel_rfl) (by kernel_rfl) ?_
          repeat(first|go_big_quiet_skip|(go_big_quiet_want;go_big_quiet_op;first|go_big_quiet_on|(apply Exists.intro;refine⟨fun g=>?_,?_⟩;(focus(first|(go_at_call 44;refine zh (v:=.bool true) ((Zf _ _).mono ?_);rintro e s ⟨rfl,rfl⟩;exact⟨by rw[y],bZ⟩)|(go_at_call 49;refine zh (v:=.bool false) ((Q6 _ i c S (S i).who _ (by omega) ((G.out.upto (by omega)).below (zf r g.bel))).mono ?_);rintro e s ⟨⟨X,rfl,z⟩,o⟩;obtain rfl:=Bool.eq_false_iff.2 (fun e=>E.out (z.1 e));exact⟨rfl,o⟩)|(go_at_call 45;first|(refine zh (v:=.bool true) ((zo _ _ _ _).mono ?_);rintro e s ⟨rfl,rfl⟩;exact⟨by rw[T],bZ⟩)|(refine zh (v:=.bool false) ((zo _ _ _ _).mono ?_);rintro e s ⟨rfl,rfl⟩;exact⟨by rw[Y],bZ⟩))));go_big_quiet_on)))
          refine wpQuiet_nil ?_;rintro _ ⟨g,rfl⟩;go_wp2;go_meet;exact⟨tells_bad (fun h=>H4.out h.2.2.2.1),g.bel⟩
        ·have T:decide (In (S i).cab 0 ((m:Int) - 1))=false:=decide_eq_false g3
         have H3:Hid (¬ In (S i).cab 0 ((p.n:Int) - 1)):=by rw[J.out];exact g3
         clear g3;refine zg (by kernel_rfl) (by kernel_rfl) ?_
         repeat(first|go_big_quiet_skip|(go_big_quiet_want;go_big_quiet_op;first|go_big_quiet_on|(apply Exists.intro;refine⟨fun g=>?_,?_⟩;(focus(first|(go_at_call 44;refine zh (v:=.bool true) ((Zf _ _).mono ?_);rintro e s ⟨rfl,rfl⟩;exact⟨by rw[y],bZ⟩)|(go_at_call 49;refine zh (v:=.bool false) ((Q6 _ i c S (S i).who _ (by omega) ((G.out.upto (by omega)).below (zf r g.bel))).mono ?_);rintro e s ⟨⟨X,rfl,z⟩,o⟩;obtain rfl:=Bool.eq_false_iff.2 (fun e=>E.out (z.1 e));exact⟨rfl,o⟩)|(go_at_call 45;first|(refine zh (v:=.bool false) ((zo _ _ _ _).mono ?_);rintro e s ⟨rfl,rfl⟩;exact⟨by rw[T],bZ⟩))));go_big_quiet_on)))
         refine wpQuiet_nil ?_;rintro _ ⟨g,rfl⟩;go_wp2;go_meet;exact⟨tells_bad (fun h=>H3.out h.2.2.1),g.bel⟩
      ·have y:decide (In (S i).who 1 9999)=false:=decide_eq_false g1
       have H1:=hI g1;clear g1;refine zg (by kernel_rfl) (by kernel_rfl) ?_
       repeat(first|go_big_quiet_skip|(go_big_quiet_want;go_big_quiet_op;first|go_big_quiet_on|(apply Exists.intro;refine⟨fun g=>?_,?_⟩;(focus(first|(go_at_call 44;refine zh (v:=.bool false) ((Zf _ _).mono ?_);rintro e s ⟨rfl,rfl⟩;exact⟨by rw[y],bZ⟩)));go_big_quiet_on)))
       refine wpQuiet_nil ?_;rintro _ ⟨g,rfl⟩;go_wp2;go_meet;exact⟨tells_bad (fun h=>H1.out h.1),g.bel⟩
     case rest =>
      obtain⟨⟨tb,rfl,a2⟩,Q⟩:=hcut;have HT:=hI a2;have t:=zf r Q;have R:=zb x.out Q;clear a2 r Q x
      cases tb with
      | true =>
       have a7:Hid (¬ OkR0 p S i):=fun h=>by have:=HT.out.2 h;cases this
       clear HT;go_wp2;go_ret;exact⟨zk (fun h=>a7.out (h.2.2.1 i hlt).1),t⟩
      | false =>
       have H0:Hid (OkR0 p S i):=HT.out.1 rfl;clear HT;generalize wc=W2 at *;go_wp2;go_loopw [8,72] (fun _ j wq=>∃ k:Nat,k<=i/\j=int i64 k/\(∀ j,j<k->OkR2 S i j)/\Below W2.heap.size W2 wq) (fun _ j _=>i - (intOf j).toNat)
       case atStart=>exact⟨0,Nat.zero_le _,rfl,fun j C=>by omega,bZ⟩
       case round =>
        obtain⟨k,hk,rfl,A,a⟩:=hrel;have M:=hI A;clear A
        by_cases hlt2:k<i
        ·obtain⟨b2,b5,e2,O,Z,h2,h3⟩:=G.out k (by omega)
         simp only[Option.some.injEq,Addr.mk.injEq,and_true] at e2;obtain⟨rfl,rfl⟩:=e2;have c0:=((zf t a).cell (p:=⟨b,off+k*4,none⟩) K).trans O;have c1:=((zf t a).cell (p:=⟨b,off+k*4+1,none⟩) K).trans Z;have c2:=((zf t a).cell (p:=⟨b,off+k*4+2,none⟩) K).trans h2;have c3:=((zf t a).cell (p:=⟨b,off+k*4+3,none⟩) K).trans h3;have P:=zc (zb R a) (.cells #[int i64 (S k).who,int i64 (S k).cab,int i64 (S k).many,.bool (S k).all] 93);have y1:=za P 1 _ rfl;have y3:=za P 3 _ rfl;clear O Z h2 h3 P
         by_cases g1:(S k).cab=(S i).cab
         ·have y:((S k).cab == (S i).cab)=true:=by simpa using g1
          have F:=hI g1;clear g1
          cases ho:(S k).all with
          | true =>
           rw[ho] at c3 y1 y3;have HO:=hI ho;clear ho;go_wp2;go_ret;exact⟨zk (fun h=>by have:=((h.2.2.1 i hlt).2 k hlt2 F.out).1;rw[HO.out] at this;cases this),zf t (zl a _)⟩
          | false =>
           rw[ho] at c3 y1 y3;have HO:=hI ho;clear ho
           cases hr:(S i).all with
           | true =>
            rw[hr] at y3;have HR:=hI hr;clear hr;go_wp2;go_ret;exact⟨zk (fun h=>by have:=((h.2.2.1 i hlt).2 k hlt2 F.out).2;rw[HR.out] at this;cases this),zf t (zl a _)⟩
           | false =>
            rw[hr] at y3;have HR:=hI hr;clear hr;go_wp2;go_roundw
            case rel=>exact⟨k+1,by omega,by go_num,fun j C=>by
             by_cases e:j=k
             ·subst e;exact fun _=>⟨HO.out,HR.out⟩
             ·exact M.out j (by omega),zl a _⟩
            case measure=>simp[intOf];omega
         ·have y:((S k).cab == (S i).cab)=false:=by simpa using g1
          have F:=hI g1;clear g1;go_wp2;go_roundw
          case rel=>exact⟨k+1,by omega,by go_num,fun j C=>by
           by_cases e:j=k
           ·subst e;exact fun h=>absurd h F.out
           ·exact M.out j (by omega),zl a _⟩
          case measure=>simp[intOf];omega
        ·obtain rfl:k=i:=by omega
         have a6:Hid (∀ j,j<k+1->OkR p S j):=fun j C=>by
          by_cases e:j=k
          ·subst e;exact⟨H0.out,M.out⟩
          ·exact HA.out j (by omega)
         go_wp2;go_roundw
         case rel=>exact⟨k+1,by omega,by go_num,a6.out,zf t a⟩
         case measure=>simp[intOf];omega
    ·obtain rfl:i=n:=by omega
     go_wp2_with fail;refine(zbP ao bo m mc i c p S _ J.out U.out h60 (fun j C=>(HA.out j C).1.2.2.2.1) (HX.out.below f) (G.out.below f)).mono ?_
     rintro e w2 ⟨⟨v,rfl,D⟩,a0⟩;obtain⟨aw,cw,rfl,_⟩:=zr D;have HI:=hI (own_ints D);have a1:=zf f a0;clear D a0 f;go_wp2;go_loopw [10,95] (fun _ j wr=>∃ k:Nat,k<=m/\j=int i64 k/\(∀ j,j<k->0<=qk p S i j)/\wr=w2) (fun _ j _=>m - (intOf j).toNat)
     case atStart=>exact⟨0,Nat.zero_le _,rfl,fun j C=>by omega,rfl⟩
     case round =>
      obtain⟨k,hk,rfl,d,a3⟩:=hrel;have a5:=a3.symm;subst a5;clear a3;have HK:=hI d;clear d
      by_cases hlt3:k<m
      ·obtain⟨b3,b6,rfl,O⟩:=HI.out k hlt3
       by_cases hneg:qk p S i k<0
       ·have y:decide (qk p S i k<0)=true:=decide_eq_true hneg
        have N:=hI hneg;clear hneg;go_wp2;go_ret;exact⟨zk (fun h=>by have:=h.2.2.2 k (by rw[J.out];exact hlt3);have:=N.out;omega),a1⟩
       ·have y:decide (qk p S i k<0)=false:=decide_eq_false hneg
        have N:=hI hneg;clear hneg;go_wp2;go_roundw
        case rel=>exact⟨k+1,by omega,by go_num,fun j C=>by
         by_cases e:j=k
         ·subst e;have:=N.out;omega
         ·exact HK.out j (by omega),by trivial⟩
        case measure=>simp[intOf];omega
      ·obtain rfl:k=m:=by omega
       go_wp2;go_ret;exact⟨zI ⟨U.out,h60,HA.out,fun j C=>HK.out j (by rw[J.out] at C;exact C)⟩,a1⟩
  ·have d0:decide (60<n)=true:=by simp;omega
   go_wp2;go_ret;exact⟨zk (fun h=>h60 h.2.1),H⟩
end Go.Proofs.YtgmdnkngnhkgbaaGreat
