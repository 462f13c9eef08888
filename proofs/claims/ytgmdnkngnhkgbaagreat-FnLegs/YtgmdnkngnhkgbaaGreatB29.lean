import Derived.Test.YtgmdnkngnhkgbaaGreatB27
namespace Go.Proofs.YtgmdnkngnhkgbaaGreat
open Go.RowKit
open Go.Value (int)
open Go.IntKind (i64)
set_option maxHeartbeats 64000000
set_option maxRecDepth 1000000
theorem zfl (N bo:Option Addr)(m mc n c:Nat)(p:zP)(S:Nat->qW)(w:World)(hl:p.n=m)(hm:m<=1048576)(hn:n<=1048576)(hc:n<=c)(hx:zT w N p)(hz:qp w bo n S) :
  Calls Tryz.prog 16 #[.slice N m mc,.slice bo n c] w fun e w'=>SaysIf (DeckS p n S) e/\Below w.heap.size w w':=by
 have y:=hI hl;have HX:=hI hx;have M:=hI hz;clear hl hx hz;go_enter Tryz.func16,Tryz.ntmps16;go_wp2_with fail;refine(zfY N m mc p _ y.out hm HX.out).mono ?_;rintro e w1 ⟨⟨q,rfl,T⟩,u⟩
 cases q with
 | false =>
  have F:Hid (¬ zdi p):=fun h=>by have:=T.2 h;cases this
  clear T;go_wp2;go_ret;exact⟨zk (fun h=>F.out h.1),u⟩
 | true =>
  have F:Hid (zdi p):=T.1 rfl;have a5:m<=4:=by rw[← y.out];exact F.out.1
  clear T
  by_cases h60:n<=60
  ·have d0:decide (60<n)=false:=by simp;omega
   have a6:IntKind.i64.wrap ((m:Int) - 1)=(m:Int) - 1:=by rw[IntKind.wrap_i64];omega
   go_wp2;go_loopw [5,6,19] (fun _ _ i wr=>∃ k:Nat,k<=n/\i=int i64 k/\(∀ j,j<k->OkS p S j)/\Below w.heap.size w wr) (fun _ _ i _=>n - (intOf i).toNat)
   case atStart=>exact⟨0,Nat.zero_le _,rfl,fun j z=>by omega,u⟩
   case round =>
    obtain⟨i,R,rfl,r,a⟩:=hrel;have Z:=hI r;clear r u
    by_cases hlt:i<n
    ·obtain⟨b,off,rfl,P,h1,h2,h3⟩:=M.out i hlt
     have Q:=World.block_lt_of_cell? w _ P;have c0:=(a.cell (p:=⟨b,off+i*4,none⟩) Q).trans P;have c1:=(a.cell (p:=⟨b,off+i*4+1,none⟩) Q).trans h1;have c2:=(a.cell (p:=⟨b,off+i*4+2,none⟩) Q).trans h2;have c3:=(a.cell (p:=⟨b,off+i*4+3,none⟩) Q).trans h3;have d:=heap_alloc_new wr (.cells #[int i64 (S i).who,int i64 (S i).ln,int i64 (S i).len,int i64 (S i).hei] 84);have f:=zl a (.cells #[int i64 (S i).who,int i64 (S i).ln,int i64 (S i).len,int i64 (S i).hei] 84);clear P h1 h2 h3;go_upto_region 6 with fail;generalize hW:wr.alloc (.cells #[int i64 (S i).who,int i64 (S i).ln,int i64 (S i).len,int i64 (S i).hei] 84)=W at d f ⊢;clear hW;have x:wr.heap.size<W.heap.size:=zQ d;have z0:∀ g:zv W,g.val.cell? ⟨wr.heap.size,0,none⟩=some (int i64 (S i).who):=fun g=>(g.bel.cell x).trans (za d 0 _ rfl)
     have z1:∀ g:zv W,g.val.cell? ⟨wr.heap.size,1,none⟩=some (int i64 (S i).ln):=fun g=>(g.bel.cell x).trans (za d 1 _ rfl)
     have z2:∀ g:zv W,g.val.cell? ⟨wr.heap.size,2,none⟩=some (int i64 (S i).len):=fun g=>(g.bel.cell x).trans (za d 2 _ rfl)
     have z3:∀ g:zv W,g.val.cell? ⟨wr.heap.size,3,none⟩=some (int i64 (S i).hei):=fun g=>(g.bel.cell x).trans (za d 3 _ rfl)
     have i1:(0:Int)<=(i:Int):=by omega
     have i2:(i:Int)<=(c:Int):=by omega
     clear c0 c1 c2 c3 d a
     by_cases g1:In (S i).who 1 9999
     ·have t:decide (In (S i).who 1 9999)=true:=decide_eq_true g1
      have U:=hI g1;clear g1
      by_cases g2:In (S i).ln 0 ((m:Int) - 1)
      ·have V:Hid (In (S i).ln 0 ((p.n:Int) - 1)):=by rw[y.out];exact g2
       obtain⟨l,hl⟩:∃ l:Nat,(S i).ln=l:=⟨(S i).ln.toNat,by unfold In at g2;omega⟩
       have a2:l<m:=by unfold In at g2;omega
       have G:=hI hl;have D:decide (In (l:Int) 0 ((m:Int) - 1))=true:=decide_eq_true (by rw[← hl];exact g2)
       have a7:∀ g:zv W,g.val.cell? ⟨wr.heap.size,1,none⟩=some (int i64 (l:Int)):=fun g=>by rw[z1 g,hl]
       obtain⟨b',A,rfl,k1,k2⟩:=HX.out l (by rw[y.out];exact a2)
       have a1:=World.block_lt_of_cell? w _ k1;have y2:∀ g:zv W,g.val.cell? ⟨b',A+l*2+1,none⟩=some (int i64 (p.B l)):=fun g=>((zf f g.bel).cell (p:=⟨b',A+l*2+1,none⟩) a1).trans k2
       have l1:(0:Int)<=(l:Int):=by omega
       have l2:(l:Int)<(m:Int):=by omega
       clear g2 z1 hl k1 k2
       by_cases g3:In (S i).len 1 2000
       ·have H:decide (In (S i).len 1 2000)=true:=decide_eq_true g3
        have X:=hI g3;clear g3
        by_cases g4:In (S i).hei 1 (p.B l)
        ·have O:decide (In (S i).hei 1 (p.B l))=true:=decide_eq_true g4
         have Y:=hI g4;clear g4
         by_cases g5:Has (Zb S) i (S i).who
         ·have E:=hI g5
          clear g5;refine zg (by kernel_rfl) (by kernel_rfl) ?_
          repeat(first|go_big_quiet_skip|(go_big_quiet_want;go_big_quiet_op;first|go_big_quiet_on|(apply Exists.intro;refine⟨fun g=>?_,?_⟩;(focus(first|(go_at_call 44;refine zh (v:=.bool true) ((Zf _ _).mono ?_);rintro e o ⟨rfl,rfl⟩;exact⟨by rw[t],bZ⟩)|(go_at_call 45;first|(refine zh (v:=.bool true) ((zo _ _ _ _).mono ?_);rintro e o ⟨rfl,rfl⟩;exact⟨by rw[D],bZ⟩)|(refine zh (v:=.bool true) ((zo _ _ _ _).mono ?_);rintro e o ⟨rfl,rfl⟩;exact⟨by rw[H],bZ⟩)|(refine zh (v:=.bool true) ((zo _ _ _ _).mono ?_);rintro e o ⟨rfl,rfl⟩;exact⟨by rw[O],bZ⟩))|(go_at_call 46;refine zh (v:=.bool true) ((zfk _ i c S (S i).who _ (by omega) ((M.out.upto (by omega)).below (zf f g.bel))).mono ?_);rintro e o ⟨⟨bb,rfl,R⟩,C⟩;obtain rfl:=R.2 E.out;exact⟨rfl,C⟩)));go_big_quiet_on)))
          refine wpQuiet_nil ?_;rintro _ ⟨g,rfl⟩;go_wp2;go_ret;exact⟨zk (fun h=>(h.2.2.1 i hlt).2.2.2.2 E.out),zf f g.bel⟩
         ·have E:=hI g5
          clear g5;refine zg (by kernel_rfl) (by kernel_rfl) ?_
          repeat(first|go_big_quiet_skip|(go_big_quiet_want;go_big_quiet_op;first|go_big_quiet_on|(apply Exists.intro;refine⟨fun g=>?_,?_⟩;(focus(first|(go_at_call 44;refine zh (v:=.bool true) ((Zf _ _).mono ?_);rintro e o ⟨rfl,rfl⟩;exact⟨by rw[t],bZ⟩)|(go_at_call 45;first|(refine zh (v:=.bool true) ((zo _ _ _ _).mono ?_);rintro e o ⟨rfl,rfl⟩;exact⟨by rw[D],bZ⟩)|(refine zh (v:=.bool true) ((zo _ _ _ _).mono ?_);rintro e o ⟨rfl,rfl⟩;exact⟨by rw[H],bZ⟩)|(refine zh (v:=.bool true) ((zo _ _ _ _).mono ?_);rintro e o ⟨rfl,rfl⟩;exact⟨by rw[O],bZ⟩))|(go_at_call 46;refine zh (v:=.bool false) ((zfk _ i c S (S i).who _ (by omega) ((M.out.upto (by omega)).below (zf f g.bel))).mono ?_);rintro e o ⟨⟨bb,rfl,R⟩,C⟩;obtain rfl:=Bool.eq_false_iff.2 (fun e=>E.out (R.1 e));exact⟨rfl,C⟩)));go_big_quiet_on)))
          refine wpQuiet_nil ?_;rintro _ ⟨g,rfl⟩;go_wp2;have a0:Hid (∀ j,j<i+1->OkS p S j):=fun j z=>by
           by_cases e:j=i
           ·subst e;exact⟨U.out,V.out,X.out,by rw[G.out];exact Y.out,E.out⟩
           ·exact Z.out j (by omega)
          go_roundw
          case rel=>exact⟨i+1,by omega,by go_num,a0.out,zf f g.bel⟩
          case measure=>simp[intOf];omega
        ·have O:decide (In (S i).hei 1 (p.B l))=false:=decide_eq_false g4
         have Y:=hI g4;clear g4;refine zg (by kernel_rfl) (by kernel_rfl) ?_
         repeat(first|go_big_quiet_skip|(go_big_quiet_want;go_big_quiet_op;first|go_big_quiet_on|(apply Exists.intro;refine⟨fun g=>?_,?_⟩;(focus(first|(go_at_call 44;refine zh (v:=.bool true) ((Zf _ _).mono ?_);rintro e o ⟨rfl,rfl⟩;exact⟨by rw[t],bZ⟩)|(go_at_call 45;first|(refine zh (v:=.bool true) ((zo _ _ _ _).mono ?_);rintro e o ⟨rfl,rfl⟩;exact⟨by rw[D],bZ⟩)|(refine zh (v:=.bool true) ((zo _ _ _ _).mono ?_);rintro e o ⟨rfl,rfl⟩;exact⟨by rw[H],bZ⟩)|(refine zh (v:=.bool false) ((zo _ _ _ _).mono ?_);rintro e o ⟨rfl,rfl⟩;exact⟨by rw[O],bZ⟩))));go_big_quiet_on)))
         refine wpQuiet_nil ?_;rintro _ ⟨g,rfl⟩;go_wp2;go_ret;exact⟨zk (fun h=>Y.out (by have:=(h.2.2.1 i hlt).2.2.2.1;rw[G.out] at this;exact this)),zf f g.bel⟩
       ·have H:decide (In (S i).len 1 2000)=false:=decide_eq_false g3
        have X:=hI g3;clear g3;refine zg (by kernel_rfl) (by kernel_rfl) ?_
        repeat(first|go_big_quiet_skip|(go_big_quiet_want;go_big_quiet_op;first|go_big_quiet_on|(apply Exists.intro;refine⟨fun g=>?_,?_⟩;(focus(first|(go_at_call 44;refine zh (v:=.bool true) ((Zf _ _).mono ?_);rintro e o ⟨rfl,rfl⟩;exact⟨by rw[t],bZ⟩)|(go_at_call 45;first|(refine zh (v:=.bool true) ((zo _ _ _ _).mono ?_);rintro e o ⟨rfl,rfl⟩;exact⟨by rw[D],bZ⟩)|(refine zh (v:=.bool false) ((zo _ _ _ _).mono ?_);rintro e o ⟨rfl,rfl⟩;exact⟨by rw[H],bZ⟩))));go_big_quiet_on)))
        refine wpQuiet_nil ?_;rintro _ ⟨g,rfl⟩;go_wp2;go_ret;exact⟨zk (fun h=>X.out (h.2.2.1 i hlt).2.2.1),zf f g.bel⟩
      ·have D:decide (In (S i).ln 0 ((m:Int) - 1))=false:=decide_eq_false g2
       have V:Hid (¬ In (S i).ln 0 ((p.n:Int) - 1)):=by rw[y.out];exact g2
       clear g2;refine zg (by kernel_rfl) (by kernel_rfl) ?_
       repeat(first|go_big_quiet_skip|(go_big_quiet_want;go_big_quiet_op;first|go_big_quiet_on|(apply Exists.intro;refine⟨fun g=>?_,?_⟩;(focus(first|(go_at_call 44;refine zh (v:=.bool true) ((Zf _ _).mono ?_);rintro e o ⟨rfl,rfl⟩;exact⟨by rw[t],bZ⟩)|(go_at_call 45;first|(refine zh (v:=.bool false) ((zo _ _ _ _).mono ?_);rintro e o ⟨rfl,rfl⟩;exact⟨by rw[D],bZ⟩))));go_big_quiet_on)))
       refine wpQuiet_nil ?_;rintro _ ⟨g,rfl⟩;go_wp2;go_ret;exact⟨zk (fun h=>V.out (h.2.2.1 i hlt).2.1),zf f g.bel⟩
     ·have t:decide (In (S i).who 1 9999)=false:=decide_eq_false g1
      have U:=hI g1;clear g1;refine zg (by kernel_rfl) (by kernel_rfl) ?_
      repeat(first|go_big_quiet_skip|(go_big_quiet_want;go_big_quiet_op;first|go_big_quiet_on|(apply Exists.intro;refine⟨fun g=>?_,?_⟩;(focus(first|(go_at_call 44;refine zh (v:=.bool false) ((Zf _ _).mono ?_);rintro e o ⟨rfl,rfl⟩;exact⟨by rw[t],bZ⟩)));go_big_quiet_on)))
      refine wpQuiet_nil ?_;rintro _ ⟨g,rfl⟩;go_wp2;go_ret;exact⟨zk (fun h=>U.out (h.2.2.1 i hlt).1),zf f g.bel⟩
    ·obtain rfl:i=n:=by omega
     go_wp2_with fail;refine(zdM N bo m mc i c p S _ y.out F.out h60 (fun j z=>(Z.out j z).2.2.1) (HX.out.below a) (M.out.below a)).mono ?_
     rintro e w2 ⟨⟨v,rfl,s⟩,I⟩;obtain⟨aw,cw,rfl,_⟩:=zr s;have HI:=hI (own_ints s);have J:=zf a I;clear s I a;go_wp2;go_loopw [8,68] (fun _ j wr=>∃ k:Nat,k<=m/\j=int i64 k/\(∀ j,j<k->0<=Zy p S i j)/\wr=w2) (fun _ j _=>m - (intOf j).toNat)
     case atStart=>exact⟨0,Nat.zero_le _,rfl,fun j z=>by omega,rfl⟩
     case round =>
      obtain⟨k,hk,rfl,r,K⟩:=hrel;have L:=K.symm;subst L;clear K;have HK:=hI r;clear r
      by_cases hlt3:k<m
      ·obtain⟨b3,a3,rfl,P⟩:=HI.out k hlt3
       by_cases hneg:Zy p S i k<0
       ·have t:decide (Zy p S i k<0)=true:=decide_eq_true hneg
        have B:=hI hneg;clear hneg;go_wp2;go_ret;exact⟨zk (fun h=>by have:=h.2.2.2 k (by rw[y.out];exact hlt3);have:=B.out;omega),J⟩
       ·have t:decide (Zy p S i k<0)=false:=decide_eq_false hneg
        have B:=hI hneg;clear hneg;go_wp2;go_roundw
        case rel=>exact⟨k+1,by omega,by go_num,fun j z=>by
         by_cases e:j=k
         ·subst e;have:=B.out;omega
         ·exact HK.out j (by omega),by trivial⟩
        case measure=>simp[intOf];omega
      ·obtain rfl:k=m:=by omega
       go_wp2;go_ret;exact⟨zI ⟨F.out,h60,Z.out,fun j z=>HK.out j (by rw[y.out] at z;exact z)⟩,J⟩
  ·have d0:decide (60<n)=true:=by simp;omega
   go_wp2;go_ret;exact⟨zk (fun h=>h60 h.2.1),u⟩
def zcU (n:Nat)(S:Nat->qi)(a:Int):Prop:=In a 1 9999/\∀ i,i<n->(S i).who≠a
theorem zgh (r q l:Option Addr)(N M R v u s:Nat)(x:Off)(g:Int)(w:World)(hR:R<=1048576)(y:qK w l R x.bk) :
  Calls Tryz.prog 97 #[.agg #[.slice r N v,.slice q M u,.slice l R s],int i64 g] w fun e w'=>SaysIf (zcU R x.bk g) e/\Below w.heap.size w w':=by
 have B:=hI y;clear y;have E:Below w.heap.size w (w.alloc (.cells #[.slice r N v,.slice q M u,.slice l R s] 27)):=zl bZ _;go_enter Tryz.func97,Tryz.ntmps97;go_wp2;go_loopw [6,10] (fun _ i wr=>∃ t:Nat,t<=R/\i=int i64 t/\Hid (∀ j,j<t->(x.bk j).who≠g)/\Below w.heap.size w wr) (fun _ i _=>R - (intOf i).toNat)
 case atStart=>exact⟨0,Nat.zero_le _,rfl,(fun j P=>by omega),E⟩
 case round =>
  obtain⟨t,ht,rfl,F,a⟩:=hrel
  by_cases hlt:t<R
  ·obtain⟨Cc,A,z⟩:=B.out
   obtain⟨f,off,rfl,k⟩:=A t hlt;obtain⟨D,C,m,O,Q⟩:=z t hlt;obtain⟨b,n⟩:∃ b,b=x.bk t:=⟨_,rfl⟩;rw[← n] at m;have o:=hI n.symm;rw[m] at k;have d:=World.block_lt_of_cell? w _ (k 0 (by decide))
   have i0:(0:Int)<=(t:Int):=by omega
   have i1:(t:Int)<(R:Int):=by omega
   have c0:wr.cell? ⟨f,off+t*13,none⟩=some (int i64 b.name):=(a.cell (p:=⟨f,off+t*13,none⟩) d).trans (k 0 (by decide))
   have c1:wr.cell? ⟨f,off+t*13+1,none⟩=some (int i64 b.who):=(a.cell (p:=⟨f,off+t*13+1,none⟩) d).trans (k 1 (by decide))
   have c2:wr.cell? ⟨f,off+t*13+2,none⟩=some (.string b.own):=(a.cell (p:=⟨f,off+t*13+2,none⟩) d).trans (k 2 (by decide))
   have c3:wr.cell? ⟨f,off+t*13+3,none⟩=some (.slice D b.lgn C):=(a.cell (p:=⟨f,off+t*13+3,none⟩) d).trans (k 3 (by decide))
   have c4:wr.cell? ⟨f,off+t*13+4,none⟩=some (int i64 b.pe):=(a.cell (p:=⟨f,off+t*13+4,none⟩) d).trans (k 4 (by decide))
   have c5:wr.cell? ⟨f,off+t*13+5,none⟩=some (int i64 b.len):=(a.cell (p:=⟨f,off+t*13+5,none⟩) d).trans (k 5 (by decide))
   have c6:wr.cell? ⟨f,off+t*13+6,none⟩=some (int i64 b.hei):=(a.cell (p:=⟨f,off+t*13+6,none⟩) d).trans (k 6 (by decide))
   have c7:wr.cell? ⟨f,off+t*13+7,none⟩=some (int i64 b.cl):=(a.cell (p:=⟨f,off+t*13+7,none⟩) d).trans (k 7 (by decide))
   have c8:wr.cell? ⟨f,off+t*13+8,none⟩=some (.bool b.all):=(a.cell (p:=⟨f,off+t*13+8,none⟩) d).trans (k 8 (by decide))
   have c9:wr.cell? ⟨f,off+t*13+9,none⟩=some (int i64 b.be):=(a.cell (p:=⟨f,off+t*13+9,none⟩) d).trans (k 9 (by decide))
   have I:wr.cell? ⟨f,off+t*13+10,none⟩=some (int i64 b.state):=(a.cell (p:=⟨f,off+t*13+10,none⟩) d).trans (k 10 (by decide))
   have J:wr.cell? ⟨f,off+t*13+11,none⟩=some (int i64 b.unt):=(a.cell (p:=⟨f,off+t*13+11,none⟩) d).trans (k 11 (by decide))
   have K:wr.cell? ⟨f,off+t*13+12,none⟩=some (int i64 b.price):=(a.cell (p:=⟨f,off+t*13+12,none⟩) d).trans (k 12 (by decide))
   clear k m O Q A z n
   by_cases he:b.who=g
   ·have L:(b.who == g)=true:=by simpa using he
    have H:Hid (¬ zcU R x.bk g):=fun h=>h.2 t hlt (by rw[o.out];exact he)
    clear he;go_wp2;go_ret;exact⟨zk H.out,zl a _⟩
   ·have L:(b.who == g)=false:=by simpa using he
    have G:Hid (∀ j,j<t+1->(x.bk j).who≠g):=fun j P=>by
     by_cases c:j=t
     ·rw[c,o.out];exact he
     ·exact F.out j (by omega)
    clear he;go_wp2;go_roundw
    case rel=>exact⟨t+1,by omega,by go_num,G.out,zl a _⟩
    case measure=>simp[intOf];omega
  ·obtain rfl:t=R:=by omega
   go_wp2_with (first|(go_at_call 44;refine sC (Zf _ _) ?_))
   go_ret;refine⟨⟨_,rfl,?_⟩,a⟩;rw[decide_eq_true_eq];exact⟨fun h=>⟨h,F.out⟩,fun h=>h.1⟩
theorem ZY (x d a mo:Int)(fr tt:ByteArray)(lo r:Option Addr)(n m s t:Nat)(j k:zP)(w:World)(G:j.n=n)(H:k.n=m)(c:fr.size<=1000000000000000)(f:tt.size<=1000000000000000)(hn:n<=1048576)(O:m<=1048576)(P:zT w lo j)(Q:zT w r k) :
  Calls Tryz.prog 27 #[.agg #[int i64 x,.string fr,.string tt,int i64 d,int i64 a,.slice lo n s,.slice r m t,int i64 mo]] w fun e w'=>SaysIf (qn ⟨x,fr,tt,d,a,j,k,mo⟩) e/\Below w.heap.size w w':=by
 have b:Below w.heap.size w (w.alloc (.cells #[int i64 x,.string fr,.string tt,int i64 d,int i64 a,.slice lo n s,.slice r m t,int i64 mo] 33)):=zl bZ _;have D:=heap_alloc_new w (.cells #[int i64 x,.string fr,.string tt,int i64 d,int i64 a,.slice lo n s,.slice r m t,int i64 mo] 33);have L:=hI G;have M:=hI H;clear G H
 by_cases g1:In x 1 99
 case neg =>
  have y:decide (In x 1 99)=false:=by exact decide_eq_false g1
  have g:Hid (¬ qn ⟨x,fr,tt,d,a,j,k,mo⟩):=fun h=>g1 h.1
  clear g1;go_enter Tryz.func27,Tryz.ntmps27;go_wp2_with (first|(go_at_call 70;refine sC (Zc _ _) ?_)|(go_at_call 71;refine sC (qM _ _ _ c f) ?_)|(go_at_call 74;refine sC (zM _ _ _ _) ?_))
  go_ret;exact⟨zk g.out,b⟩
 have y:decide (In x 1 99)=true:=by exact decide_eq_true g1
 by_cases g2:zar fr tt
 case neg =>
  have z:decide (zar fr tt)=false:=by exact decide_eq_false g2
  have g:Hid (¬ qn ⟨x,fr,tt,d,a,j,k,mo⟩):=fun h=>g2 ⟨h.2.1,h.2.2.1,h.2.2.2.1⟩
  clear g1 g2;go_enter Tryz.func27,Tryz.ntmps27;go_wp2_with (first|(go_at_call 70;refine sC (Zc _ _) ?_)|(go_at_call 71;refine sC (qM _ _ _ c f) ?_)|(go_at_call 74;refine sC (zM _ _ _ _) ?_))
  go_ret;exact⟨zk g.out,b⟩
 have z:decide (zar fr tt)=true:=by exact decide_eq_true g2
 by_cases g3:0<=d
 case neg =>
  have A:decide (0<=d)=false:=by simpa using g3
  have g:Hid (¬ qn ⟨x,fr,tt,d,a,j,k,mo⟩):=fun h=>g3 h.2.2.2.2.1
  clear g1 g2 g3;go_enter Tryz.func27,Tryz.ntmps27;go_wp2_with (first|(go_at_call 70;refine sC (Zc _ _) ?_)|(go_at_call 71;refine sC (qM _ _ _ c f) ?_)|(go_at_call 74;refine sC (zM _ _ _ _) ?_))
  go_ret;exact⟨zk g.out,b⟩
 have A:decide (0<=d)=true:=by simpa using g3
 by_cases g4:d<a
 case neg =>
  have B:decide (d<a)=false:=by simpa using g4
  have g:Hid (¬ qn ⟨x,fr,tt,d,a,j,k,mo⟩):=fun h=>g4 h.2.2.2.2.2.1
  clear g1 g2 g3 g4;go_enter Tryz.func27,Tryz.ntmps27;go_wp2_with (first|(go_at_call 70;refine sC (Zc _ _) ?_)|(go_at_call 71;refine sC (qM _ _ _ c f) ?_)|(go_at_call 74;refine sC (zM _ _ _ _) ?_))
  go_ret;exact⟨zk g.out,b⟩
 have B:decide (d<a)=true:=by simpa using g4
 by_cases g5:a<=10000
 case neg =>
  have C:decide (a<=10000)=false:=by simpa using g5
  have g:Hid (¬ qn ⟨x,fr,tt,d,a,j,k,mo⟩):=fun h=>g5 h.2.2.2.2.2.2.1
  clear g1 g2 g3 g4 g5;go_enter Tryz.func27,Tryz.ntmps27;go_wp2_with (first|(go_at_call 70;refine sC (Zc _ _) ?_)|(go_at_call 71;refine sC (qM _ _ _ c f) ?_)|(go_at_call 74;refine sC (zM _ _ _ _) ?_))
  go_ret;exact⟨zk g.out,b⟩
 have C:decide (a<=10000)=true:=by simpa using g5
 have l:Hid (In x 1 99/\zar fr tt/\0<=d/\d<a/\a<=10000):=⟨g1,g2,g3,g4,g5⟩;clear g1 g2 g3 g4 g5;go_enter Tryz.func27,Tryz.ntmps27;go_wp2_with (first|(go_at_call 70;refine sC (Zc _ _) ?_)|(go_at_call 71;refine sC (qM _ _ _ c f) ?_)|(go_at_call 74;refine sC (zM _ _ _ _) ?_))
 refine(zbF lo n s j _ L.out hn (P.below b)).mono ?_;rintro e w1 ⟨⟨b1,rfl,I⟩,o⟩;have u:=zb D o;have i:=zf b o;have E:=hI I;clear I D b o
 cases b1 with
 | false =>
  go_wp2;go_ret;exact⟨zk (fun h=>by have:=E.out.2 h.2.2.2.2.2.2.2.1;cases this),i⟩
 | true =>
  have R:=za u 6 _ rfl;go_wp2_with fail;refine(zaT r m t k _ M.out O (Q.below i)).mono ?_;rintro e w2 ⟨⟨b2,rfl,J⟩,p⟩;have K:=zb u p;have q:=zf i p;have F:=hI J;clear J u i p R
  cases b2 with
  | false =>
   go_wp2;go_ret;exact⟨zk (fun h=>by have:=F.out.2 h.2.2.2.2.2.2.2.2.1;cases this),q⟩
  | true =>
   have q7:=za K 7 _ rfl
   by_cases g8:In mo 0 500
   ·have N:decide (In mo 0 500)=true:=decide_eq_true g8
    have v:=hI g8;clear g8;go_wp2_with (first|(go_at_call 70;refine sC (Zc _ _) ?_)|(go_at_call 71;refine sC (qM _ _ _ c f) ?_)|(go_at_call 74;refine sC (zM _ _ _ _) ?_))
    go_ret;exact⟨zI ⟨l.out.1,l.out.2.1.1,l.out.2.1.2.1,l.out.2.1.2.2,l.out.2.2.1,l.out.2.2.2.1,l.out.2.2.2.2,E.out.1 (by simp),F.out.1 (by simp),v.out⟩,q⟩
   ·have N:decide (In mo 0 500)=false:=decide_eq_false g8
    have v:=hI g8;clear g8;go_wp2_with (first|(go_at_call 70;refine sC (Zc _ _) ?_)|(go_at_call 71;refine sC (qM _ _ _ c f) ?_)|(go_at_call 74;refine sC (zM _ _ _ _) ?_))
    go_ret;exact⟨zk (fun h=>v.out h.2.2.2.2.2.2.2.2.2),q⟩
theorem sits_mono (S:Nat->Qo)(i n:Nat)(a:i<=n)(h:∀ j,j<n->In (S j).many 1 20):ZD S i<=ZD S n:=by
 induction n with
 | zero=>rw[show i=0 by omega];exact Int.le_refl _
 | succ n ih =>
  by_cases e:i=n+1
  ·rw[e];exact Int.le_refl _
  ·have:=ih (by omega) (fun j hj=>h j (by omega))
   have hn:=h n (by omega)
   unfold In at hn;have h3:ZD S (n+1)=ZD S n+(S n).many:=rfl
   omega
def SeatsAns (most:Int)(n:Nat)(S:Nat->Qo)(e:Ending):Prop :=
 (Z4 most n S/\e=.returned (.tuple #[int i64 (most - ZD S n),.bool true]))∨(¬ Z4 most n S/\e=.returned (.tuple #[int i64 0,.bool false]))
theorem zbH (most:Int)(H:Option Addr)(n c:Nat)(S:Nat->Qo)(w:World)(hn:n<=2097152)(hc:n<=c)(M:qx w H n S) :
  Calls Tryz.prog 60 #[int i64 most,.slice H n c] w fun e w'=>SeatsAns most n S e/\Below w.heap.size w w':=by
 have B:=hI M;clear M
 by_cases g0:In most 0 500
 ·have J:decide (In most 0 500)=true:=decide_eq_true g0
  have s:=hI g0;clear g0
  by_cases h60:n<=60
  ·have I:decide (60<n)=false:=by simp;omega
   go_enter Tryz.func60,Tryz.ntmps60;go_wp2_with (first|(go_at_call 74;refine sC (zM _ _ _ _) ?_))
   go_loopw [6,7,8,20] (fun v _ _ i wr=>∃ k:Nat,k<=n/\i=int i64 k/\v=int i64 (most - ZD S k)/\(∀ j,j<k->In (S j).who 1 9999/\¬ Has (ZG S) j (S j).who/\In (S j).many 1 20)/\ZD S k<=most/\Below w.heap.size w wr) (fun _ _ _ i _=>n - (intOf i).toNat)
   case atStart=>exact⟨0,Nat.zero_le _,rfl,by simp[ZD],fun j z=>by omega,s.out.1,bZ⟩
   case round =>
    obtain⟨i,hi,rfl,rfl,m,o,a⟩:=hrel;have F:=hI m;have N:=hI o;clear m o J I
    by_cases hlt:i<n
    ·obtain⟨b,off,rfl,x,y⟩:=B.out i hlt
     have L:=World.block_lt_of_cell? w _ x;have O:=(a.cell (p:=⟨b,off+i*2,none⟩) L).trans x;have P:=(a.cell (p:=⟨b,off+i*2+1,none⟩) L).trans y;have d:=heap_alloc_new wr (.cells #[int i64 (S i).who,int i64 (S i).many] 99);have f:=zl a (.cells #[int i64 (S i).who,int i64 (S i).many] 99);clear x y;go_upto_region 7 with fail;generalize hW:wr.alloc (.cells #[int i64 (S i).who,int i64 (S i).many] 99)=W at d f ⊢;clear hW;have A:wr.heap.size<W.heap.size:=zQ d;have z0:∀ g:zv W,g.val.cell? ⟨wr.heap.size,0,none⟩=some (int i64 (S i).who):=fun g=>(g.bel.cell A).trans (za d 0 _ rfl)
     have U:∀ g:zv W,g.val.cell? ⟨wr.heap.size,1,none⟩=some (int i64 (S i).many):=fun g=>(g.bel.cell A).trans (za d 1 _ rfl)
     have i1:(0:Int)<=(i:Int):=by omega
     have i2:(i:Int)<=(c:Int):=by omega
     clear O P d a
     by_cases g1:In (S i).who 1 9999
     ·have u:decide (In (S i).who 1 9999)=true:=decide_eq_true g1
      have D:=hI g1;clear g1
      by_cases g2:Has (ZG S) i (S i).who
      ·have Q:decide (0<=qL (ZG S) (S i).who i)=true:=decide_eq_true ((QX _ _ _).2 g2)
       have E:=hI g2;clear g2;refine zg (by kernel_rfl) (by kernel_rfl) ?_
       repeat(first|go_big_quiet_skip|(go_big_quiet_want;go_big_quiet_op;first|go_big_quiet_on|(apply Exists.intro;refine⟨fun g=>?_,?_⟩;(focus(first|(go_at_call 77;refine zh (v:=.bool true) ((ZJ _ _).mono ?_);rintro e q ⟨rfl,rfl⟩;exact⟨by rw[u],bZ⟩)|(go_at_call 85;refine zh (v:=int i64 (qL (ZG S) (S i).who i)) ((zaO _ i c S (S i).who _ (by omega) ((B.out.upto (by omega)).below (zf f g.bel))).mono ?_);rintro e q ⟨rfl,l⟩;exact⟨rfl,l⟩)));go_big_quiet_on)))
       refine wpQuiet_nil ?_;rintro _ ⟨g,rfl⟩;go_wp2;exact bodyPost_ret (v:=.tuple #[int i64 0,.bool false]) (by simp[results,Tryz.results60,go_sem]) rfl ⟨.inr ⟨fun h=>(h.2.2.1 i hlt).2.1 E.out,rfl⟩,zf f g.bel⟩
      ·have Q:decide (0<=qL (ZG S) (S i).who i)=false:=decide_eq_false (fun h=>g2 ((QX _ _ _).1 h))
       have E:=hI g2;clear g2
       by_cases g3:In (S i).many 1 (if most - ZD S i<20 then most - ZD S i else 20)
       ·have r:decide (In (S i).many 1 (if most - ZD S i<20 then most - ZD S i else 20))=true:=decide_eq_true g3
        have t:Hid (In (S i).many 1 20/\ZD S (i+1)<=most):=by
         have C:ZD S (i+1)=ZD S i+(S i).many:=rfl;unfold In at g3 ⊢
         show(_/\_)/\_
         rw[C]
         split at g3 <;> omega
        clear g3;have R:IntKind.i64.wrap (most - ZD S i - (S i).many)=most - ZD S (i+1):=by
         have y:=zaY S i (fun j z=>(F.out j z).2.2)
         have K:=t.out.1;have x:=s.out;unfold In at K x;have C:ZD S (i+1)=ZD S i+(S i).many:=rfl;rw[C,IntKind.wrap_i64];omega
        refine zg (by kernel_rfl) (by kernel_rfl) ?_
        repeat(first|go_big_quiet_skip|(go_big_quiet_want;go_big_quiet_op;first|go_big_quiet_on|(apply Exists.intro;refine⟨fun g=>?_,?_⟩;(focus(first|(go_at_call 77;refine zh (v:=.bool true) ((ZJ _ _).mono ?_);rintro e q ⟨rfl,rfl⟩;exact⟨by rw[u],bZ⟩)|(go_at_call 85;refine zh (v:=int i64 (qL (ZG S) (S i).who i)) ((zaO _ i c S (S i).who _ (by omega) ((B.out.upto (by omega)).below (zf f g.bel))).mono ?_);rintro e q ⟨rfl,l⟩;exact⟨rfl,l⟩)|(go_at_call 74;refine zh (v:=.bool true) ((zM _ _ _ _).mono ?_);rintro e q ⟨rfl,rfl⟩;exact⟨by first|rw[r]|rw[show min (20:Int) (most - ZD S i)=(if most - ZD S i<20 then most - ZD S i else 20) from by rw[Int.min_def];split <;> (split <;> omega),r],bZ⟩)));go_big_quiet_on)))
        refine wpQuiet_nil ?_;rintro _ ⟨g,rfl⟩;have v1:=U g;clear r;generalize (if most - ZD S i<20 then most - ZD S i else 20)=T;go_wp2;have G:Hid (∀ j,j<i+1->In (S j).who 1 9999/\¬ Has (ZG S) j (S j).who/\In (S j).many 1 20):=fun j z=>by
         by_cases e:j=i
         ·subst e;exact⟨D.out,E.out,t.out.1⟩
         ·exact F.out j (by omega)
        go_roundw
        case rel=>exact⟨i+1,by omega,by go_num,rfl,G.out,t.out.2,zf f g.bel⟩
        case measure=>simp[intOf];omega
       ·have r:decide (In (S i).many 1 (if most - ZD S i<20 then most - ZD S i else 20))=false:=decide_eq_false g3
        have t:Hid (¬ Z4 most n S):=fun h=>by
         have y:=(h.2.2.1 i hlt).2.2;have K:=sits_mono S (i+1) n (by omega) (fun j z=>(h.2.2.1 j z).2.2)
         have h4:=h.2.2.2;have C:ZD S (i+1)=ZD S i+(S i).many:=rfl;unfold In at g3 y
         split at g3 <;> omega
        clear g3;refine zg (by kernel_rfl) (by kernel_rfl) ?_
        repeat(first|go_big_quiet_skip|(go_big_quiet_want;go_big_quiet_op;first|go_big_quiet_on|(apply Exists.intro;refine⟨fun g=>?_,?_⟩;(focus(first|(go_at_call 77;refine zh (v:=.bool true) ((ZJ _ _).mono ?_);rintro e q ⟨rfl,rfl⟩;exact⟨by rw[u],bZ⟩)|(go_at_call 85;refine zh (v:=int i64 (qL (ZG S) (S i).who i)) ((zaO _ i c S (S i).who _ (by omega) ((B.out.upto (by omega)).below (zf f g.bel))).mono ?_);rintro e q ⟨rfl,l⟩;exact⟨rfl,l⟩)|(go_at_call 74;refine zh (v:=.bool false) ((zM _ _ _ _).mono ?_);rintro e q ⟨rfl,rfl⟩;exact⟨by first|rw[r]|rw[show min (20:Int) (most - ZD S i)=(if most - ZD S i<20 then most - ZD S i else 20) from by rw[Int.min_def];split <;> (split <;> omega),r],bZ⟩)));go_big_quiet_on)))
        refine wpQuiet_nil ?_;rintro _ ⟨g,rfl⟩;clear r;generalize (if most - ZD S i<20 then most - ZD S i else 20)=T;go_wp2;exact bodyPost_ret (v:=.tuple #[int i64 0,.bool false]) (by simp[results,Tryz.results60,go_sem]) rfl ⟨.inr ⟨t.out,rfl⟩,zf f g.bel⟩
     ·have u:decide (In (S i).who 1 9999)=false:=decide_eq_false g1
      have D:=hI g1;clear g1;refine zg (by kernel_rfl) (by kernel_rfl) ?_
      repeat(first|go_big_quiet_skip|(go_big_quiet_want;go_big_quiet_op;first|go_big_quiet_on|(apply Exists.intro;refine⟨fun g=>?_,?_⟩;(focus(first|(go_at_call 77;refine zh (v:=.bool false) ((ZJ _ _).mono ?_);rintro e q ⟨rfl,rfl⟩;exact⟨by rw[u],bZ⟩)));go_big_quiet_on)))
      refine wpQuiet_nil ?_;rintro _ ⟨g,rfl⟩;go_wp2;exact bodyPost_ret (v:=.tuple #[int i64 0,.bool false]) (by simp[results,Tryz.results60,go_sem]) rfl ⟨.inr ⟨fun h=>D.out (h.2.2.1 i hlt).1,rfl⟩,zf f g.bel⟩
    ·obtain rfl:i=n:=by omega
     go_wp2;exact bodyPost_ret (v:=.tuple #[int i64 (most - ZD S i),.bool true]) (by simp[results,Tryz.results60,go_sem]) rfl ⟨.inl ⟨⟨s.out,h60,F.out,N.out⟩,rfl⟩,a⟩
  ·have I:decide (60<n)=true:=by simp;omega
   go_enter Tryz.func60,Tryz.ntmps60;go_wp2_with (first|(go_at_call 74;refine sC (zM _ _ _ _) ?_))
   exact bodyPost_ret (v:=.tuple #[int i64 0,.bool false]) (by simp[results,Tryz.results60,go_sem]) rfl ⟨.inr ⟨fun h=>h60 h.2.1,rfl⟩,bZ⟩
 ·have J:decide (In most 0 500)=false:=decide_eq_false g0
  have s:=hI g0;clear g0;go_enter Tryz.func60,Tryz.ntmps60;go_wp2_with (first|(go_at_call 74;refine sC (zM _ _ _ _) ?_))
  exact bodyPost_ret (v:=.tuple #[int i64 0,.bool false]) (by simp[results,Tryz.results60,go_sem]) rfl ⟨.inr ⟨fun h=>s.out h.1,rfl⟩,bZ⟩
theorem zeG (most:Int)(i:Option Addr)(n c:Nat)(S:Nat->Qo)(w:World)(hn:n<=2097152)(l:n<=c)(j:qx w i n S) :
  Calls Tryz.prog 30 #[int i64 most,.slice i n c] w fun e w'=>SaysIf (Z4 most n S) e/\Below w.heap.size w w':=by
 have k:=hI j;clear j;go_enter Tryz.func30,Tryz.ntmps30;go_wp2_with fail;refine(zbH most i n c S _ hn l k.out).mono ?_;rintro e w1 ⟨a,b⟩
 rcases a with⟨f,rfl⟩|⟨d,rfl⟩
 ·have h:=hI f
  clear f;go_wp2;go_ret;exact⟨zI h.out,b⟩
 ·have g:=hI d
  clear d;go_wp2;go_ret;exact⟨zk g.out,b⟩
end Go.Proofs.YtgmdnkngnhkgbaaGreat
