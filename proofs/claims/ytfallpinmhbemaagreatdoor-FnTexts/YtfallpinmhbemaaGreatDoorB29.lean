import Derived.Test.YtfallpinmhbemaaGreatDoorB26
namespace Go.Proofs.YtfallpinmhbemaaGreatDoor
open Go.RowKit
open Go.Value (int)
open Go.IntKind (i64)
set_option maxHeartbeats 64000000
set_option maxRecDepth 1000000
theorem zgb (N bo:Option Addr)(m mc n c:Nat)(p:qi)(S:Nat->ZX)(w:World)(hl:p.n=m)(hm:m<=1048576)(hn:n<=1048576)(hc:n<=c)(hx:qd w N p)(hz:Zv w bo n S) :
  Calls Tryz.prog 112 #[.slice N m mc,.slice bo n c] w fun e w'=>SaysIf (DeckS p n S) e/\Below w.heap.size w w':=by
 have y:=hI hl;have HX:=hI hx;have M:=hI hz;clear hl hx hz;go_enter Tryz.func112,Tryz.ntmps112;go_wp2_with fail;refine(zha N m mc p _ y.out hm HX.out).mono ?_;rintro e w1 ⟨⟨q,rfl,T⟩,u⟩
 cases q with
 | false =>
  have F:Hid (¬ zgO p):=fun h=>by have:=T.2 h;cases this
  clear T;go_wp2;go_ret;exact⟨zC (fun h=>F.out h.1),u⟩
 | true =>
  have F:Hid (zgO p):=T.1 rfl;have a5:m<=4:=by rw[← y.out];exact F.out.1
  clear T
  by_cases h60:n<=60
  ·have d0:decide (60<n)=false:=by simp;omega
   have a6:IntKind.i64.wrap ((m:Int) - 1)=(m:Int) - 1:=by rw[IntKind.wrap_i64];omega
   go_wp2;go_loopw [5,6,19] (fun _ _ i wr=>∃ k:Nat,k<=n/\i=int i64 k/\(∀ j,j<k->OkS p S j)/\Below w.heap.size w wr) (fun _ _ i _=>n - (intOf i).toNat)
   case atStart=>exact⟨0,Nat.zero_le _,rfl,fun j z=>by omega,u⟩
   case round =>
    obtain⟨i,R,rfl,r,a⟩:=hrel;have Z:=hI r;clear r u
    by_cases hlt:i<n
    ·obtain⟨b,off,rfl,P,h1,h2,h3⟩:=M.out i hlt
     have Q:=World.block_lt_of_cell? w _ P;have c0:=(a.cell (p:=⟨b,off+i*4,none⟩) Q).trans P;have c1:=(a.cell (p:=⟨b,off+i*4+1,none⟩) Q).trans h1;have c2:=(a.cell (p:=⟨b,off+i*4+2,none⟩) Q).trans h2;have c3:=(a.cell (p:=⟨b,off+i*4+3,none⟩) Q).trans h3;have d:=heap_alloc_new wr (.cells #[int i64 (S i).who,int i64 (S i).ln,int i64 (S i).len,int i64 (S i).hei] 186);have f:=zr a (.cells #[int i64 (S i).who,int i64 (S i).ln,int i64 (S i).len,int i64 (S i).hei] 186);clear P h1 h2 h3;go_upto_region 6 with fail;generalize hW:wr.alloc (.cells #[int i64 (S i).who,int i64 (S i).ln,int i64 (S i).len,int i64 (S i).hei] 186)=W at d f ⊢;clear hW;have x:wr.heap.size<W.heap.size:=zZ d;have z0:∀ g:qe W,g.val.cell? ⟨wr.heap.size,0,none⟩=some (int i64 (S i).who):=fun g=>(g.bel.cell x).trans (za d 0 _ rfl)
     have z1:∀ g:qe W,g.val.cell? ⟨wr.heap.size,1,none⟩=some (int i64 (S i).ln):=fun g=>(g.bel.cell x).trans (za d 1 _ rfl)
     have z2:∀ g:qe W,g.val.cell? ⟨wr.heap.size,2,none⟩=some (int i64 (S i).len):=fun g=>(g.bel.cell x).trans (za d 2 _ rfl)
     have z3:∀ g:qe W,g.val.cell? ⟨wr.heap.size,3,none⟩=some (int i64 (S i).hei):=fun g=>(g.bel.cell x).trans (za d 3 _ rfl)
     have i1:(0:Int)<=(i:Int):=by omega
     have i2:(i:Int)<=(c:Int):=by omega
     clear c0 c1 c2 c3 d a
     by_cases g1:In (S i).who 1 9999
     ·have t:decide (In (S i).who 1 9999)=true:=decide_eq_true g1
      have U:=hI g1;clear g1
      by_cases g2:In (S i).ln 0 ((m:Int) - 1)
      ·have V:Hid (In (S i).ln 0 ((p.n:Int) - 1)):=by rw[y.out];exact g2
       obtain⟨l,hl⟩:∃ l:Nat,(S i).ln=l:=⟨(S i).ln.toNat,by unfold In at g2;omega⟩
       have a2:l<m:=by unfold In at g2;omega
       have G:=hI hl;have D:decide (In (l:Int) 0 ((m:Int) - 1))=true:=decide_eq_true (by rw[← hl];exact g2)
       have a7:∀ g:qe W,g.val.cell? ⟨wr.heap.size,1,none⟩=some (int i64 (l:Int)):=fun g=>by rw[z1 g,hl]
       obtain⟨b',A,rfl,k1,k2⟩:=HX.out l (by rw[y.out];exact a2)
       have a1:=World.block_lt_of_cell? w _ k1;have y2:∀ g:qe W,g.val.cell? ⟨b',A+l*2+1,none⟩=some (int i64 (p.B l)):=fun g=>((zj f g.bel).cell (p:=⟨b',A+l*2+1,none⟩) a1).trans k2
       have l1:(0:Int)<=(l:Int):=by omega
       have l2:(l:Int)<(m:Int):=by omega
       clear g2 z1 hl k1 k2
       by_cases g3:In (S i).len 1 2000
       ·have H:decide (In (S i).len 1 2000)=true:=decide_eq_true g3
        have X:=hI g3;clear g3
        by_cases g4:In (S i).hei 1 (p.B l)
        ·have O:decide (In (S i).hei 1 (p.B l))=true:=decide_eq_true g4
         have Y:=hI g4;clear g4
         by_cases g5:Has (Q8 S) i (S i).who
         ·have E:=hI g5
          clear g5;refine zp (by kernel_rfl) (by kernel_rfl) ?_
          repeat(first|go_big_quiet_skip|(go_big_quiet_want;go_big_quiet_op;first|go_big_quiet_on|(apply Exists.intro;refine⟨fun g=>?_,?_⟩;(focus(first|(go_at_call 119;refine zi (v:=.bool true) ((ZE _ _).mono ?_);rintro e o ⟨rfl,rfl⟩;exact⟨by rw[t],bZ⟩)|(go_at_call 19;first|(refine zi (v:=.bool true) ((zx _ _ _ _).mono ?_);rintro e o ⟨rfl,rfl⟩;exact⟨by rw[D],bZ⟩)|(refine zi (v:=.bool true) ((zx _ _ _ _).mono ?_);rintro e o ⟨rfl,rfl⟩;exact⟨by rw[H],bZ⟩)|(refine zi (v:=.bool true) ((zx _ _ _ _).mono ?_);rintro e o ⟨rfl,rfl⟩;exact⟨by rw[O],bZ⟩))|(go_at_call 130;refine zi (v:=.bool true) ((zga _ i c S (S i).who _ (by omega) ((M.out.upto (by omega)).below (zj f g.bel))).mono ?_);rintro e o ⟨⟨bb,rfl,R⟩,C⟩;obtain rfl:=R.2 E.out;exact⟨rfl,C⟩)));go_big_quiet_on)))
          refine wpQuiet_nil ?_;rintro _ ⟨g,rfl⟩;go_wp2;go_ret;exact⟨zC (fun h=>(h.2.2.1 i hlt).2.2.2.2 E.out),zj f g.bel⟩
         ·have E:=hI g5
          clear g5;refine zp (by kernel_rfl) (by kernel_rfl) ?_
          repeat(first|go_big_quiet_skip|(go_big_quiet_want;go_big_quiet_op;first|go_big_quiet_on|(apply Exists.intro;refine⟨fun g=>?_,?_⟩;(focus(first|(go_at_call 119;refine zi (v:=.bool true) ((ZE _ _).mono ?_);rintro e o ⟨rfl,rfl⟩;exact⟨by rw[t],bZ⟩)|(go_at_call 19;first|(refine zi (v:=.bool true) ((zx _ _ _ _).mono ?_);rintro e o ⟨rfl,rfl⟩;exact⟨by rw[D],bZ⟩)|(refine zi (v:=.bool true) ((zx _ _ _ _).mono ?_);rintro e o ⟨rfl,rfl⟩;exact⟨by rw[H],bZ⟩)|(refine zi (v:=.bool true) ((zx _ _ _ _).mono ?_);rintro e o ⟨rfl,rfl⟩;exact⟨by rw[O],bZ⟩))|(go_at_call 130;refine zi (v:=.bool false) ((zga _ i c S (S i).who _ (by omega) ((M.out.upto (by omega)).below (zj f g.bel))).mono ?_);rintro e o ⟨⟨bb,rfl,R⟩,C⟩;obtain rfl:=Bool.eq_false_iff.2 (fun e=>E.out (R.1 e));exact⟨rfl,C⟩)));go_big_quiet_on)))
          refine wpQuiet_nil ?_;rintro _ ⟨g,rfl⟩;go_wp2;have a0:Hid (∀ j,j<i+1->OkS p S j):=fun j z=>by
           by_cases e:j=i
           ·subst e;exact⟨U.out,V.out,X.out,by rw[G.out];exact Y.out,E.out⟩
           ·exact Z.out j (by omega)
          go_roundw
          case rel=>exact⟨i+1,by omega,by go_num,a0.out,zj f g.bel⟩
          case measure=>simp[intOf];omega
        ·have O:decide (In (S i).hei 1 (p.B l))=false:=decide_eq_false g4
         have Y:=hI g4;clear g4;refine zp (by kernel_rfl) (by kernel_rfl) ?_
         repeat(first|go_big_quiet_skip|(go_big_quiet_want;go_big_quiet_op;first|go_big_quiet_on|(apply Exists.intro;refine⟨fun g=>?_,?_⟩;(focus(first|(go_at_call 119;refine zi (v:=.bool true) ((ZE _ _).mono ?_);rintro e o ⟨rfl,rfl⟩;exact⟨by rw[t],bZ⟩)|(go_at_call 19;first|(refine zi (v:=.bool true) ((zx _ _ _ _).mono ?_);rintro e o ⟨rfl,rfl⟩;exact⟨by rw[D],bZ⟩)|(refine zi (v:=.bool true) ((zx _ _ _ _).mono ?_);rintro e o ⟨rfl,rfl⟩;exact⟨by rw[H],bZ⟩)|(refine zi (v:=.bool false) ((zx _ _ _ _).mono ?_);rintro e o ⟨rfl,rfl⟩;exact⟨by rw[O],bZ⟩))));go_big_quiet_on)))
         refine wpQuiet_nil ?_;rintro _ ⟨g,rfl⟩;go_wp2;go_ret;exact⟨zC (fun h=>Y.out (by have:=(h.2.2.1 i hlt).2.2.2.1;rw[G.out] at this;exact this)),zj f g.bel⟩
       ·have H:decide (In (S i).len 1 2000)=false:=decide_eq_false g3
        have X:=hI g3;clear g3;refine zp (by kernel_rfl) (by kernel_rfl) ?_
        repeat(first|go_big_quiet_skip|(go_big_quiet_want;go_big_quiet_op;first|go_big_quiet_on|(apply Exists.intro;refine⟨fun g=>?_,?_⟩;(focus(first|(go_at_call 119;refine zi (v:=.bool true) ((ZE _ _).mono ?_);rintro e o ⟨rfl,rfl⟩;exact⟨by rw[t],bZ⟩)|(go_at_call 19;first|(refine zi (v:=.bool true) ((zx _ _ _ _).mono ?_);rintro e o ⟨rfl,rfl⟩;exact⟨by rw[D],bZ⟩)|(refine zi (v:=.bool false) ((zx _ _ _ _).mono ?_);rintro e o ⟨rfl,rfl⟩;exact⟨by rw[H],bZ⟩))));go_big_quiet_on)))
        refine wpQuiet_nil ?_;rintro _ ⟨g,rfl⟩;go_wp2;go_ret;exact⟨zC (fun h=>X.out (h.2.2.1 i hlt).2.2.1),zj f g.bel⟩
      ·have D:decide (In (S i).ln 0 ((m:Int) - 1))=false:=decide_eq_false g2
       have V:Hid (¬ In (S i).ln 0 ((p.n:Int) - 1)):=by rw[y.out];exact g2
       clear g2;refine zp (by kernel_rfl) (by kernel_rfl) ?_
       repeat(first|go_big_quiet_skip|(go_big_quiet_want;go_big_quiet_op;first|go_big_quiet_on|(apply Exists.intro;refine⟨fun g=>?_,?_⟩;(focus(first|(go_at_call 119;refine zi (v:=.bool true) ((ZE _ _).mono ?_);rintro e o ⟨rfl,rfl⟩;exact⟨by rw[t],bZ⟩)|(go_at_call 19;first|(refine zi (v:=.bool false) ((zx _ _ _ _).mono ?_);rintro e o ⟨rfl,rfl⟩;exact⟨by rw[D],bZ⟩))));go_big_quiet_on)))
       refine wpQuiet_nil ?_;rintro _ ⟨g,rfl⟩;go_wp2;go_ret;exact⟨zC (fun h=>V.out (h.2.2.1 i hlt).2.1),zj f g.bel⟩
     ·have t:decide (In (S i).who 1 9999)=false:=decide_eq_false g1
      have U:=hI g1;clear g1;refine zp (by kernel_rfl) (by kernel_rfl) ?_
      repeat(first|go_big_quiet_skip|(go_big_quiet_want;go_big_quiet_op;first|go_big_quiet_on|(apply Exists.intro;refine⟨fun g=>?_,?_⟩;(focus(first|(go_at_call 119;refine zi (v:=.bool false) ((ZE _ _).mono ?_);rintro e o ⟨rfl,rfl⟩;exact⟨by rw[t],bZ⟩)));go_big_quiet_on)))
      refine wpQuiet_nil ?_;rintro _ ⟨g,rfl⟩;go_wp2;go_ret;exact⟨zC (fun h=>U.out (h.2.2.1 i hlt).1),zj f g.bel⟩
    ·obtain rfl:i=n:=by omega
     go_wp2_with fail;refine(zep N bo m mc i c p S _ y.out F.out h60 (fun j z=>(Z.out j z).2.2.1) (HX.out.below a) (M.out.below a)).mono ?_
     rintro e w2 ⟨⟨v,rfl,s⟩,I⟩;obtain⟨aw,cw,rfl,_⟩:=zt s;have HI:=hI (own_ints s);have J:=zj a I;clear s I a;go_wp2;go_loopw [8,68] (fun _ j wr=>∃ k:Nat,k<=m/\j=int i64 k/\(∀ j,j<k->0<=QF p S i j)/\wr=w2) (fun _ j _=>m - (intOf j).toNat)
     case atStart=>exact⟨0,Nat.zero_le _,rfl,fun j z=>by omega,rfl⟩
     case round =>
      obtain⟨k,hk,rfl,r,K⟩:=hrel;have L:=K.symm;subst L;clear K;have HK:=hI r;clear r
      by_cases hlt3:k<m
      ·obtain⟨b3,a3,rfl,P⟩:=HI.out k hlt3
       by_cases hneg:QF p S i k<0
       ·have t:decide (QF p S i k<0)=true:=decide_eq_true hneg
        have B:=hI hneg;clear hneg;go_wp2;go_ret;exact⟨zC (fun h=>by have:=h.2.2.2 k (by rw[y.out];exact hlt3);have:=B.out;omega),J⟩
       ·have t:decide (QF p S i k<0)=false:=decide_eq_false hneg
        have B:=hI hneg;clear hneg;go_wp2;go_roundw
        case rel=>exact⟨k+1,by omega,by go_num,fun j z=>by
         by_cases e:j=k
         ·subst e;have:=B.out;omega
         ·exact HK.out j (by omega),by trivial⟩
        case measure=>simp[intOf];omega
      ·obtain rfl:k=m:=by omega
       go_wp2;go_ret;exact⟨says_yes ⟨F.out,h60,Z.out,fun j z=>HK.out j (by rw[y.out] at z;exact z)⟩,J⟩
  ·have d0:decide (60<n)=true:=by simp;omega
   go_wp2;go_ret;exact⟨zC (fun h=>h60 h.2.1),u⟩
theorem qV (pe len hei cl:Int)(all:Bool)(be legs:Int)(w:World)(y:In pe 0 20)(hl:In legs 0 3) :
  Calls Tryz.prog 143 #[.agg #[int i64 pe,int i64 len,int i64 hei,int i64 cl,.bool all,int i64 be],int i64 legs] w fun e w'=>e=.returned (int i64 (Zg ⟨pe,len,hei,cl,all,be⟩ legs))/\Below w.heap.size w w':=by
 obtain⟨V,q⟩:∃ V,V=Zg ⟨pe,len,hei,cl,all,be⟩ legs:=⟨_,rfl⟩;rw[← q];obtain⟨b,h⟩:∃ c,c=Qo len hei:=⟨_,rfl⟩;obtain⟨j,f⟩:∃ c,c=ZY cl all be:=⟨_,rfl⟩;have s:Hid (V=zde pe legs (legs*(40*pe+b+j))):=by show V=_;rw[q,h,f];rfl
 have b1:0<=b/\b<=500:=by rw[h];exact zdK len hei
 have b2:0<=j/\j<=320:=by rw[f];exact zcQ cl all be
 have p:=hI h;have o:=hI f;unfold In at y hl;have z:IntKind.i64.wrap (40*pe)=40*pe:=by rw[IntKind.wrap_i64];omega
 have A:IntKind.i64.wrap (40*pe+b)=40*pe+b:=by rw[IntKind.wrap_i64];omega
 have B:IntKind.i64.wrap (40*pe+b+j)=40*pe+b+j:=by rw[IntKind.wrap_i64];omega
 obtain⟨M,n⟩:∃ M,M=legs*(40*pe+b+j):=⟨_,rfl⟩;have m:0<=M/\M<=10000:=by
  have x:legs=0∨legs=1∨legs=2∨legs=3:=by omega
  rw[n]
  rcases x with rfl|rfl|rfl|rfl <;> omega
 have C:IntKind.i64.wrap (legs*(40*pe+b+j))=M:=by rw[← n,IntKind.wrap_i64];omega
 have d:Hid (V=zde pe legs M):=by show V=_;rw[s.out,n]
 have u:=hI hl;clear q h f s n;have q1:Int.tdiv M 20=M / 20:=by rw[Int.tdiv_eq_ediv_of_nonneg m.1]
 have q2:Int.tdiv M 10=M / 10:=by rw[Int.tdiv_eq_ediv_of_nonneg m.1]
 have D:IntKind.i64.wrap (M / 20)=M / 20:=by rw[IntKind.wrap_i64];omega
 have E:IntKind.i64.wrap (M - M / 20)=M - M / 20:=by rw[IntKind.wrap_i64];omega
 have F:IntKind.i64.wrap (M / 10)=M / 10:=by rw[IntKind.wrap_i64];omega
 have G:IntKind.i64.wrap (M - M / 10)=M - M / 10:=by rw[IntKind.wrap_i64];omega
 have q3:Int.tdiv (M - M / 20) 10=(M - M / 20) / 10:=by rw[Int.tdiv_eq_ediv_of_nonneg (by omega)]
 have H:IntKind.i64.wrap ((M - M / 20) / 10)=(M - M / 20) / 10:=by rw[IntKind.wrap_i64];omega
 have I:IntKind.i64.wrap (M - M / 20 - (M - M / 20) / 10)=M - M / 20 - (M - M / 20) / 10:=by rw[IntKind.wrap_i64];omega
 go_enter Tryz.func143,Tryz.ntmps143;go_upto_region 1 with fail;have a:Below w.heap.size w (w.alloc (.cells #[int i64 pe,int i64 len,int i64 hei,int i64 cl,.bool all,int i64 be] 25)):=zr bZ _;have i:=heap_alloc_new w (.cells #[int i64 pe,int i64 len,int i64 hei,int i64 cl,.bool all,int i64 be] 25);generalize w.alloc (.cells #[int i64 pe,int i64 len,int i64 hei,int i64 cl,.bool all,int i64 be] 25)=W at a i ⊢;have l:=zZ i;have t:∀ g:qe W,g.val.cell? ⟨w.heap.size,0,none⟩=some (int i64 pe):=fun g=>(g.bel.cell l).trans (za i 0 _ rfl)
 have N:∀ g:qe W,g.val.cell? ⟨w.heap.size,1,none⟩=some (int i64 len):=fun g=>(g.bel.cell l).trans (za i 1 _ rfl)
 have O:∀ g:qe W,g.val.cell? ⟨w.heap.size,2,none⟩=some (int i64 hei):=fun g=>(g.bel.cell l).trans (za i 2 _ rfl)
 have P:∀ g:qe W,g.val.cell? ⟨w.heap.size,3,none⟩=some (int i64 cl):=fun g=>(g.bel.cell l).trans (za i 3 _ rfl)
 have Q:∀ g:qe W,g.val.cell? ⟨w.heap.size,4,none⟩=some (.bool all):=fun g=>(g.bel.cell l).trans (za i 4 _ rfl)
 have R:∀ g:qe W,g.val.cell? ⟨w.heap.size,5,none⟩=some (int i64 be):=fun g=>(g.bel.cell l).trans (za i 5 _ rfl)
 refine zp (by kernel_rfl) (by kernel_rfl) ?_
 repeat(first|go_big_quiet_skip|(go_big_quiet_want;go_big_quiet_op;first|go_big_quiet_on|(apply Exists.intro;refine⟨fun g=>?_,?_⟩;(focus(first|(go_at_call 155;refine zi (v:=int i64 b) ((zih _ _ _).mono ?_);rintro e J ⟨rfl,rfl⟩;exact⟨by rw[p.out],bZ⟩)|(go_at_call 156;refine zi (v:=int i64 j) ((zeW _ _ _ _).mono ?_);rintro e J ⟨rfl,r⟩;exact⟨by rw[o.out],r⟩)));go_big_quiet_on)))
 refine wpQuiet_nil ?_;rintro _ ⟨g,rfl⟩;have y0:=t g;clear t N O P Q R
 by_cases k1:8<=pe
 ·have K:decide (8<=pe)=true:=decide_eq_true k1
  by_cases k2:legs=3
  ·subst k2
   have k:Hid (V=M - M / 20 - (M - M / 20) / 10):=by show V=_;rw[d.out];unfold zde;rw[if_pos k1,if_pos rfl]
   clear k1;go_wp2;go_ret;exact⟨by rw[k.out];rfl,zj a g.bel⟩
  ·have L:(legs == 3)=false:=by simpa using k2
   have k:Hid (V=M - M / 20):=by show V=_;rw[d.out];unfold zde;rw[if_pos k1,if_neg k2]
   clear k1 k2;go_wp2;go_ret;exact⟨by rw[k.out];rfl,zj a g.bel⟩
 ·have K:decide (8<=pe)=false:=decide_eq_false k1
  by_cases k2:legs=3
  ·subst k2
   have k:Hid (V=M - M / 10):=by show V=_;rw[d.out];unfold zde;rw[if_neg k1,if_pos rfl]
   clear k1;go_wp2;go_ret;exact⟨by rw[k.out];rfl,zj a g.bel⟩
  ·have L:(legs == 3)=false:=by simpa using k2
   have k:Hid (V=M):=by show V=_;rw[d.out];unfold zde;rw[if_neg k1,if_neg k2]
   clear k1 k2;go_wp2;go_ret;exact⟨by rw[k.out];rfl,zj a g.bel⟩
def zdq (n:Nat)(S:Nat->ZK)(a:Int):Prop:=In a 1 9999/\∀ i,i<n->(S i).who≠a
theorem zhj (r q l:Option Addr)(N M R v u s:Nat)(x:Off)(g:Int)(w:World)(hR:R<=1048576)(y:ZU w l R x.bk) :
  Calls Tryz.prog 103 #[.agg #[.slice r N v,.slice q M u,.slice l R s],int i64 g] w fun e w'=>SaysIf (zdq R x.bk g) e/\Below w.heap.size w w':=by
 have B:=hI y;clear y;have E:Below w.heap.size w (w.alloc (.cells #[.slice r N v,.slice q M u,.slice l R s] 66)):=zr bZ _;go_enter Tryz.func103,Tryz.ntmps103;go_wp2;go_loopw [6,10] (fun _ i wr=>∃ t:Nat,t<=R/\i=int i64 t/\Hid (∀ j,j<t->(x.bk j).who≠g)/\Below w.heap.size w wr) (fun _ i _=>R - (intOf i).toNat)
 case atStart=>exact⟨0,Nat.zero_le _,rfl,(fun j P=>by omega),E⟩
 case round =>
  obtain⟨t,ht,rfl,F,a⟩:=hrel
  by_cases hlt:t<R
  ·obtain⟨Cc,A,z⟩:=B.out
   obtain⟨f,off,rfl,k⟩:=A t hlt;obtain⟨D,C,m,O,Q⟩:=z t hlt;obtain⟨b,n⟩:∃ b,b=x.bk t:=⟨_,rfl⟩;rw[← n] at m;have o:=hI n.symm;rw[m] at k;have d:=World.block_lt_of_cell? w _ (k 0 (by decide))
   have i0:(0:Int)<=(t:Int):=by omega
   have i1:(t:Int)<(R:Int):=by omega
   have c0:wr.cell? ⟨f,off+t*13,none⟩=some (int i64 b.name):=(a.cell (p:=⟨f,off+t*13,none⟩) d).trans (k 0 (by decide))
   have c1:wr.cell? ⟨f,off+t*13+1,none⟩=some (int i64 b.who):=(a.cell (p:=⟨f,off+t*13+1,none⟩) d).trans (k 1 (by decide))
   have c2:wr.cell? ⟨f,off+t*13+2,none⟩=some (.string b.own):=(a.cell (p:=⟨f,off+t*13+2,none⟩) d).trans (k 2 (by decide))
   have c3:wr.cell? ⟨f,off+t*13+3,none⟩=some (.slice D b.lgn C):=(a.cell (p:=⟨f,off+t*13+3,none⟩) d).trans (k 3 (by decide))
   have c4:wr.cell? ⟨f,off+t*13+4,none⟩=some (int i64 b.pe):=(a.cell (p:=⟨f,off+t*13+4,none⟩) d).trans (k 4 (by decide))
   have c5:wr.cell? ⟨f,off+t*13+5,none⟩=some (int i64 b.len):=(a.cell (p:=⟨f,off+t*13+5,none⟩) d).trans (k 5 (by decide))
   have c6:wr.cell? ⟨f,off+t*13+6,none⟩=some (int i64 b.hei):=(a.cell (p:=⟨f,off+t*13+6,none⟩) d).trans (k 6 (by decide))
   have c7:wr.cell? ⟨f,off+t*13+7,none⟩=some (int i64 b.cl):=(a.cell (p:=⟨f,off+t*13+7,none⟩) d).trans (k 7 (by decide))
   have c8:wr.cell? ⟨f,off+t*13+8,none⟩=some (.bool b.all):=(a.cell (p:=⟨f,off+t*13+8,none⟩) d).trans (k 8 (by decide))
   have c9:wr.cell? ⟨f,off+t*13+9,none⟩=some (int i64 b.be):=(a.cell (p:=⟨f,off+t*13+9,none⟩) d).trans (k 9 (by decide))
   have I:wr.cell? ⟨f,off+t*13+10,none⟩=some (int i64 b.state):=(a.cell (p:=⟨f,off+t*13+10,none⟩) d).trans (k 10 (by decide))
   have J:wr.cell? ⟨f,off+t*13+11,none⟩=some (int i64 b.unt):=(a.cell (p:=⟨f,off+t*13+11,none⟩) d).trans (k 11 (by decide))
   have K:wr.cell? ⟨f,off+t*13+12,none⟩=some (int i64 b.price):=(a.cell (p:=⟨f,off+t*13+12,none⟩) d).trans (k 12 (by decide))
   clear k m O Q A z n
   by_cases he:b.who=g
   ·have L:(b.who == g)=true:=by simpa using he
    have H:Hid (¬ zdq R x.bk g):=fun h=>h.2 t hlt (by rw[o.out];exact he)
    clear he;go_wp2;go_ret;exact⟨zC H.out,zr a _⟩
   ·have L:(b.who == g)=false:=by simpa using he
    have G:Hid (∀ j,j<t+1->(x.bk j).who≠g):=fun j P=>by
     by_cases c:j=t
     ·rw[c,o.out];exact he
     ·exact F.out j (by omega)
    clear he;go_wp2;go_roundw
    case rel=>exact⟨t+1,by omega,by go_num,G.out,zr a _⟩
    case measure=>simp[intOf];omega
  ·obtain rfl:t=R:=by omega
   go_wp2_with (first|(go_at_call 119;refine sC (ZE _ _) ?_))
   go_ret;refine⟨⟨_,rfl,?_⟩,a⟩;rw[decide_eq_true_eq];exact⟨fun h=>⟨h,F.out⟩,fun h=>h.1⟩
theorem zfg (u:Nat):qf (u:Int)=⟨(Lib.decDigits u).toArray⟩:=by
 unfold qf Lib.itoa;rw[if_neg (by omega)]
 rfl
theorem qh {n:Int}(a:0<=n)(h1:n<=9223372036854775807):(qf n).size<=100:=by
 obtain⟨u,rfl⟩:=Int.eq_ofNat_of_zero_le a;rw[zfg]
 show(Lib.decDigits u).toArray.size<=100
 rw[List.size_toArray];exact zhM u (by omega)
theorem Za {n:Int}(a:0<=n)(h1:n<=9223372036854775807)(w:World):Calls Tryz.prog 47 #[int i64 n] w fun e w'=>e=.returned (.string (qf n))/\Below w.heap.size w w':=by
 obtain⟨u,rfl⟩:=Int.eq_ofNat_of_zero_le a;rw[zfg];exact l1Num_nat u w (by omega)
theorem qk (a b:ByteArray)(ha:a.size<=1000000)(hb:b.size<=1000000)(W:World):(Op.stringOp .add a b).run Tryz.prog W=.ok (.string (a++b)) W:=run_string_add_sum W a b (by omega)
def spT:ByteArray:=⟨#[32]⟩
def coT:ByteArray:=⟨#[44]⟩
def opt (b:Bool)(p:ByteArray):List ByteArray:=if b then [p] else []
theorem ZH (sep p:ByteArray):qD sep [p]=p:=by
 unfold qD;rw[List.map_cons,List.map_nil,Lib.join_one,Lib.mk_data]
theorem zbT (sep:List UInt8):∀ (l:List (List UInt8))(p:List UInt8),l≠[]->Lib.join (l++[p]) sep=Lib.join l sep++(sep++p)
 | [],_,h=>absurd rfl h
 | x :: r,p,_=>by
  rw[List.cons_append,Lib.join_cons,Lib.join_cons];simp[Lib.joinTail,List.append_assoc]
theorem ZR (sep p:ByteArray){l:List ByteArray}(h:l≠[]):qD sep (l++[p])=qD sep l++(sep++p):=by
 unfold qD;rw[List.map_append,List.map_cons,List.map_nil,zbT _ _ _ (by simpa using h)]
 apply ByteArray.ext
 simp[ByteArray.data_append]
theorem zbU (sep:ByteArray)(hs:sep.size<=1)(l:List ByteArray)(hl:∀ p,p ∈ l->p.size<=1000):(qD sep l).size<=1001*l.length:=by
 have d:∀ m:List ByteArray,(∀ p,p ∈ m->p.size<=1000)->(qD sep m.reverse).size<=1001*m.length:=by
  intro m
  induction m with
  | nil=>intro _;show(qD sep []).size<=_;exact Nat.zero_le _
  | cons a r ih =>
   intro h;have ha:=h a (by simp)
   have hr:=ih (fun p b=>h p (by simp[b]))
   rw[List.reverse_cons]
   by_cases c:r.reverse=[]
   ·rw[c,List.nil_append,ZH,List.length_cons];omega
   ·rw[ZR sep a c,ByteArray.size_append,ByteArray.size_append,List.length_cons];omega
 have:=d l.reverse (fun p b=>hl p (by simpa using b))
 rw[List.reverse_reverse,List.length_reverse] at this;exact this
def zaS (p:Zf):ByteArray:=if p.len=0/\p.hei=0 then ⟨#[]⟩ else (⟨#[43]⟩:ByteArray)++(qf p.len++⟨#[47]⟩++qf p.hei)
def zhN (p:Zf):ByteArray:=if p.all=true then ⟨#[]⟩ else (⟨#[120]⟩:ByteArray)++qf p.be
def cabT (p:Zf):ByteArray:=if p.cl=0 then ⟨#[]⟩ else (⟨#[64]⟩:ByteArray)++qf p.cl
def qC (p:Zf):ByteArray:=if p.cl=0 then qf p.pe++zaS p else qf p.pe++zaS p++cabT p++zhN p
def ZB (n:Nat)(f:Nat->Int):ByteArray:=qD coT ((List.range n).map (fun i=>qf (f i)))
def zP (k:Nat):ByteArray:=match k with
 | 1=>⟨#[113,117,111,116,101]⟩
 | 2=>⟨#[104,111,108,100]⟩
 | 3=>⟨#[98,111,111,107]⟩
 | 4=>⟨#[99,111,110,102,105,114,109]⟩
 | 5=>⟨#[97,109,101,110,100]⟩
 | 6=>⟨#[99,97,110,99,101,108]⟩
 | 7=>⟨#[116,114,97,110,115,102,101,114]⟩
 | 8=>⟨#[101,120,112,105,114,101]⟩
 | 9=>⟨#[109,97,110,105,102,101,115,116]⟩
 | _=>⟨#[]⟩
theorem zet (k:Nat):(zP k).size<=10:=by
 unfold zP
 split <;> decide
def zcJ (x:OpD):List ByteArray:=[zP x.kind.toNat]
def zbV (x:OpD):List ByteArray:=zcJ x++opt (qM x.kind.toNat) (qf x.name)
def zcf (x:OpD):List ByteArray:=zbV x++opt (qr x.kind.toNat) x.own
def zbW (x:OpD):List ByteArray:=zcf x++opt (decide (0<qx x.kind.toNat)) (ZB x.lgn x.lg)
def zbX (x:OpD):List ByteArray:=zbW x++opt (qp x.kind.toNat) (qC x.p)
def zcg (x:OpD):List ByteArray:=zbX x++opt (qs x.kind.toNat) (qf x.unt)
def zcv (x:OpD):List ByteArray:=zcg x++opt (Qg x.kind.toNat) (qf x.now)
def opT (x:OpD):ByteArray:=qD spT (zcv x)
def qn (x:OpD):Prop:=Qz x/\∀ i,i<x.lgn->In (x.lg i) 0 99999
theorem opP0_ne (x:OpD):zcJ x≠[]:=by simp[zcJ]
theorem opP1_ne (x:OpD):zbV x≠[]:=by simp[zbV,zcJ]
theorem opP2_ne (x:OpD):zcf x≠[]:=by simp[zcf,zbV,zcJ]
theorem opP3_ne (x:OpD):zbW x≠[]:=by simp[zbW,zcf,zbV,zcJ]
theorem opP4_ne (x:OpD):zbX x≠[]:=by simp[zbX,zbW,zcf,zbV,zcJ]
theorem opP5_ne (x:OpD):zcg x≠[]:=by simp[zcg,zbX,zbW,zcf,zbV,zcJ]
theorem zas {sep p:ByteArray}{l:List ByteArray}(h:l≠[]){b:Bool}(a:b=true):qD sep (l++opt b p)=qD sep l++(sep++p):=by
 subst a;exact ZR sep p h
theorem zat {sep p:ByteArray}{l:List ByteArray}{b:Bool}(a:b=false):qD sep (l++opt b p)=qD sep l:=by
 subst a
 show qD sep (l++[])=_
 rw[List.append_nil]
theorem len_P0 (x:OpD):(zcJ x).length<=1:=by
 simp[zcJ]
theorem len_P1 (x:OpD):(zbV x).length<=2:=by
 have:=len_P0 x;unfold zbV opt;rw[List.length_append]
 split <;> simp <;> omega
theorem len_P2 (x:OpD):(zcf x).length<=3:=by
 have:=len_P1 x;unfold zcf opt;rw[List.length_append]
 split <;> simp <;> omega
theorem len_P3 (x:OpD):(zbW x).length<=4:=by
 have:=len_P2 x;unfold zbW opt;rw[List.length_append]
 split <;> simp <;> omega
theorem len_P4 (x:OpD):(zbX x).length<=5:=by
 have:=len_P3 x;unfold zbX opt;rw[List.length_append]
 split <;> simp <;> omega
theorem len_P5 (x:OpD):(zcg x).length<=6:=by
 have:=len_P4 x;unfold zcg opt;rw[List.length_append]
 split <;> simp <;> omega
theorem len_P6 (x:OpD):(zcv x).length<=7:=by
 have:=len_P5 x;unfold zcv opt;rw[List.length_append]
 split <;> simp <;> omega
theorem rng1 {x:OpD}{k:Nat}(h:qn x)(_:x.kind.toNat=k)(_:qM k=true):0<=x.name/\x.name<=30:=by
 have a:=h.1.2.2.1;unfold Zp at a
 split at a
 ·exact⟨by have:=a.1;omega,a.2⟩
 ·omega
theorem rng5 {x:OpD}{k:Nat}(h:qn x)(_:x.kind.toNat=k)(_:qs k=true):0<=x.unt/\x.unt<=10000:=by
 have a:=h.1.2.2.2.2.2.1
 rcases a with a|a
 ·omega
 ·exact a.2
theorem rng6 {x:OpD}{k:Nat}(h:qn x)(_:x.kind.toNat=k)(_:Qg k=true):0<=x.now/\x.now<=10000:=by
 have a:=h.1.2.2.2.2.2.2
 rcases a with a|a
 ·omega
 ·exact a.2
theorem zcw {x:OpD}{k:Nat}(h:qn x)(hk:x.kind.toNat=k):qp k=true↔zR x.kind:=by
 have:=h.1.1;unfold In at this;unfold qp zR;rw[decide_eq_true_eq]
 omega
theorem rng3 {x:OpD}{k:Nat}(h:qn x)(hk:x.kind.toNat=k)(f:decide (0<qx k)=true):0<x.lgn/\x.lgn<=3:=by
 have a:=h.1.2.2.2.1;have e:=h.1.1;have b:=of_decide_eq_true f;unfold In at e;unfold qj at a;unfold qx at b
 by_cases c:zR x.kind
 ·rw[if_pos c] at a;omega
 ·rw[if_neg c] at a
  unfold zR at c
  by_cases d:x.kind=9
  ·rw[if_pos d] at a;omega
  ·rw[if_neg (by omega),if_neg (by omega)] at b
   omega
theorem rng4 {x:OpD}{k:Nat}(h:qn x)(b:x.kind.toNat=k)(c:qp k=true):qI x.p:=by
 have a:=h.1.2.2.2.2.1;unfold qt at a
 rwa [if_pos ((zcw h b).1 c)] at a
theorem zin (n:Nat)(f:Nat->Int)(h:0<n):ZB (n+1) f=ZB n f++coT++qf (f n):=by
 unfold ZB;rw[List.range_succ,List.map_append,List.map_cons,List.map_nil,ZR _ _ (by
  intro e;have:=congrArg List.length e;simp at this
  omega),ByteArray.append_assoc]
theorem legsT_one (f:Nat->Int):ZB 1 f=qf (f 0):=ZH _ _
theorem zio (n:Nat)(f:Nat->Int)(hn:n<=3)(h:∀ i,i<n->In (f i) 0 99999):(ZB n f).size<=3003:=by
 have:=zbU coT (by show 1<=1;omega) ((List.range n).map (fun i=>qf (f i))) (fun p c=>by
  obtain⟨i,b,rfl⟩:=List.mem_map.1 c;have a:=h i (by simpa using b)
  unfold In at a;have:=qh (n:=f i) (by omega) (by omega)
  omega)
 rw[List.length_map,List.length_range] at this;unfold ZB
 omega
theorem zhn (m:Option Addr)(n cap:Nat)(f:Nat->Int)(w:World)(hn:n<=3)(s:IntsAt w m n f)(o:∀ i,i<n->In (f i) 0 99999) :
  Calls Tryz.prog 48 #[.slice m n cap] w fun e w'=>e=.returned (.string (ZB n f))/\Below w.heap.size w w':=by
 have l:=hI o;clear o;go_enter Tryz.func48,Tryz.ntmps48;go_wp2;go_loopw [3,4,5,8] (fun v _ _ i wr=>∃ k:Nat,k<=n/\i=int i64 k/\v=.string (ZB k f)/\Below w.heap.size w wr)
  (fun _ _ _ i _=>n - (intOf i).toNat)
 case atStart=>exact⟨0,Nat.zero_le _,rfl,rfl,bZ⟩
 case round =>
  obtain⟨k,hk,rfl,rfl,a⟩:=hrel
  by_cases hlt:k<n
  ·obtain⟨b,off,rfl,g⟩:=(s k (by omega))
   have r:wr.cell? ⟨b,off+k,none⟩=some (int i64 (f k)):=(a.cell (World.block_lt_of_cell? w _ g)).trans g;have j:=l.out k hlt;unfold In at j;have sn:=qh (n:=f k) (by omega) (by omega)
   have sl:=zio k f (by omega) (fun i h=>l.out i (by omega))
   clear g
   by_cases h0:k=0
   ·have p:decide ((0:Int)<(k:Int))=false:=decide_eq_false (by omega)
    have q:decide (0<k)=false:=decide_eq_false (by omega)
    have dn:¬ 0<k:=by omega
    have d:Hid (ZB (k+1) f=ZB k f++qf (f k)):=by
     rw[h0]
     show ZB 1 f=_
     rw[legsT_one]
     show qf (f 0)=(⟨#[]⟩:ByteArray)++qf (f 0)
     exact ByteArray.empty_append.symm
    have t:=qk (ZB k f) (qf (f k)) (by omega) (by omega)
    clear h0;go_wp2_with fail;refine(Za (n:=f k) (by omega) (by omega) _).mono ?_
    rintro e u ⟨rfl,c⟩;go_wp2;go_roundw
    case rel=>exact⟨k+1,by omega,by go_num,by rw[d.out],zj a c⟩
    case measure=>simp[intOf];omega
   ·have p:decide ((0:Int)<(k:Int))=true:=decide_eq_true (by omega)
    have d:Hid (ZB (k+1) f=ZB k f++⟨#[44]⟩++qf (f k)):=zin k f (by omega)
    have r1:=qk (ZB k f) ⟨#[44]⟩ (by omega) (by show 1<=_;omega)
    have t:=qk (ZB k f++⟨#[44]⟩) (qf (f k)) (by rw[ByteArray.size_append];show _+1<=_;omega) (by omega)
    go_wp2_with fail;refine(Za (n:=f k) (by omega) (by omega) _).mono ?_
    rintro e u ⟨rfl,c⟩;go_wp2;go_roundw
    case rel=>exact⟨k+1,by omega,by go_num,by rw[d.out],zj a c⟩
    case measure=>simp[intOf];omega
  ·obtain rfl:n=k:=by omega
   go_wp2;go_ret;exact⟨rfl,a⟩
theorem zgm (p:Zf)(w:World)(E:qI p) :
  Calls Tryz.prog 49 #[.agg #[int i64 p.pe,int i64 p.len,int i64 p.hei,int i64 p.cl,.bool p.all,int i64 p.be]] w fun e w'=>e=.returned (.string (qC p))/\Below w.heap.size w w':=by
 obtain⟨pe,len,hei,cl,all,be⟩:=p;have HK:=hI E;unfold qI Q3 zbH In at E;dsimp only at E ⊢;have s1:=qh (n:=pe) (by omega) (by omega)
 have s2:=qh (n:=len) (by omega) (by omega)
 have s3:=qh (n:=hei) (by omega) (by omega)
 have s4:=qh (n:=cl) (by omega) (by omega)
 have s5:=qh (n:=be) (by omega) (by omega)
 have a:Hid ((0<=pe/\pe<=1000)/\(0<=len/\len<=2000)/\(0<=hei/\hei<=500)/\(0<=cl/\cl<=3)/\(0<=be/\be<=4)):=by
  show(0<=pe/\pe<=1000)/\(0<=len/\len<=2000)/\(0<=hei/\hei<=500)/\(0<=cl/\cl<=3)/\(0<=be/\be<=4)
  omega
 have H:Hid (len=0->hei=0):=by show len=0->hei=0;omega
 clear E;have D:=heap_alloc_new w (.cells #[int i64 pe,int i64 len,int i64 hei,int i64 cl,.bool all,int i64 be] 25);have l:Below w.heap.size w (w.alloc (.cells #[int i64 pe,int i64 len,int i64 hei,int i64 cl,.bool all,int i64 be] 25)):=zr bZ _;go_enter Tryz.func49,Tryz.ntmps49;go_upto_region 1 with fail;generalize w.alloc (.cells #[int i64 pe,int i64 len,int i64 hei,int i64 cl,.bool all,int i64 be] 25)=wA at D l ⊢;have x0:=za D 0 _ rfl;go_wp2_with fail;refine(Za (n:=pe) (by have:=a.out;omega) (by have:=a.out;omega) _).mono ?_
 rintro e F ⟨rfl,m⟩;have b:=zc D m;have y:=zj l m;clear D l m x0;have O:=za b 1 _ rfl;have B:(zaS ⟨pe,len,hei,cl,all,be⟩).size<=300:=by
  unfold zaS
  split
  ·exact Nat.zero_le _
  ·rw[ByteArray.size_append,ByteArray.size_append,ByteArray.size_append]
   show 1+((qf len).size+1+(qf hei).size)<=300
   omega
 obtain⟨q,N⟩:∃ q,q=decide ((0:Int)<len):=⟨_,rfl⟩;have K:Hid (q=true↔0<len):=by show q=true↔0<len;rw[N,decide_eq_true_eq]
 have C:=N.symm;clear N;go_upto_if 9 with fail;go_cut [3] (fun v Z=>v=.string (qf pe++zaS ⟨pe,len,hei,cl,all,be⟩)/\Hid (Below F.heap.size F Z))
 case first =>
  clear C O
  cases q with
  | false =>
   have u:len=0:=by
    have h1:=a.out
    by_cases c:0<len
    ·have:=K.out.2 c;cases this
    ·omega
   have t:qf pe++zaS ⟨pe,len,hei,cl,all,be⟩=qf pe:=by
    unfold zaS;rw[if_pos ⟨u,H.out u⟩];exact ByteArray.append_empty
   have G:=hI t.symm;clear u t;go_wp2;go_meet;exact⟨congrArg Value.string G.out,bZ⟩
  | true =>
   have u:0<len:=K.out.1 rfl;have t:zaS ⟨pe,len,hei,cl,all,be⟩=⟨#[43]⟩++qf len++⟨#[47]⟩++qf hei:=by
    unfold zaS;rw[if_neg (fun h=>by have h:len=0:=h.1;omega)]
    simp only[ByteArray.append_assoc]
   have G:Hid (qf pe++(⟨#[43]⟩++qf len++⟨#[47]⟩++qf hei)=qf pe++zaS ⟨pe,len,hei,cl,all,be⟩):=by show _=_;rw[t]
   have R:((⟨#[43]⟩:ByteArray)++qf len).size<=101:=by rw[ByteArray.size_append];show 1+_<=_;omega
   have S:((⟨#[43]⟩:ByteArray)++qf len++⟨#[47]⟩).size<=102:=by rw[ByteArray.size_append];show _+1<=_;omega
   have T:((⟨#[43]⟩:ByteArray)++qf len++⟨#[47]⟩++qf hei).size<=202:=by rw[ByteArray.size_append];omega
   have U:=qk ⟨#[43]⟩ (qf len) (by show 1<=_;omega) (by omega)
   have V:=qk (⟨#[43]⟩++qf len) ⟨#[47]⟩ (by omega) (by show 1<=_;omega)
   have X:=qk (⟨#[43]⟩++qf len++⟨#[47]⟩) (qf hei) (by omega) (by omega)
   have Y:=qk (qf pe) (⟨#[43]⟩++qf len++⟨#[47]⟩++qf hei) (by omega) (by omega)
   have P:=zZ b;have O:∀ g:qe F,g.val.cell? ⟨w.heap.size,1,none⟩=some (int i64 len):=fun g=>(g.bel.cell P).trans (za b 1 _ rfl)
   have y2:∀ g:qe F,g.val.cell? ⟨w.heap.size,2,none⟩=some (int i64 hei):=fun g=>(g.bel.cell P).trans (za b 2 _ rfl)
   clear u t B R S T;have I:Hid (∀ W:World,Calls Tryz.prog 47 #[int i64 len] W fun e w'=>e=.returned (.string (qf len))/\Below W.heap.size W w'):=fun W=>Za (by have:=a.out;omega) (by have:=a.out;omega) W
   have J:Hid (∀ W:World,Calls Tryz.prog 47 #[int i64 hei] W fun e w'=>e=.returned (.string (qf hei))/\Below W.heap.size W w'):=fun W=>Za (by have:=a.out;omega) (by have:=a.out;omega) W
   go_upto_region 3 with fail;refine zp (by kernel_rfl) (by kernel_rfl) ?_
   repeat(first|go_big_quiet_skip|(go_big_quiet_want;go_big_quiet_op;first|go_big_quiet_on|(apply Exists.intro;refine⟨fun g=>?_,?_⟩;(focus(go_at_call 47;first|(with_reducible refine zi (v:=.string (qf len)) (I.out _))|(with_reducible refine zi (v:=.string (qf hei)) (J.out _))));go_big_quiet_on)))
   refine wpQuiet_nil ?_;rintro _ ⟨g,rfl⟩;go_wp2;go_meet;exact⟨congrArg Value.string G.out,g.bel⟩
 case rest =>
 obtain⟨rfl,L⟩:=hcut;have j:=zc b L.out;have k:=zj y L.out;clear b y L C O;obtain⟨f,r⟩:∃ z,z=zaS ⟨pe,len,hei,cl,all,be⟩:=⟨_,rfl⟩;have i:=hI r;rw[← r] at B ⊢;clear r K q;have y3:=za j 3 _ rfl
 by_cases hc:0<cl
 case neg =>
  have Q:decide ((0:Int)<cl)=false:=decide_eq_false hc;have s:Hid (qf pe++f=qC ⟨pe,len,hei,cl,all,be⟩):=by
   show qf pe++f=qC _
   unfold qC;rw[if_pos (by have:=a.out;show cl=0;omega),i.out]
  clear hc;go_wp2;go_ret;exact⟨congrArg (fun z=>Ending.returned (Value.string z)) s.out,k⟩
 case pos =>
  have Q:decide ((0:Int)<cl)=true:=decide_eq_true hc;have d:¬ cl=0:=by omega
  have t1:(qf pe++f).size<=500:=by rw[ByteArray.size_append];omega
  have t2:((⟨#[64]⟩:ByteArray)++qf cl).size<=101:=by rw[ByteArray.size_append];show 1+_<=_;omega
  have U:=qk ⟨#[64]⟩ (qf cl) (by show 1<=_;omega) (by omega)
  have V:=qk (qf pe++f) (⟨#[64]⟩++qf cl) (by omega) (by omega)
  go_wp2_with fail;refine(Za (n:=cl) (by have:=a.out;omega) (by have:=a.out;omega) _).mono ?_
  rintro e w6 ⟨rfl,o⟩;have x:=zc j o;have A:=zj k o;clear j k o y3;have y4:=za x 4 _ rfl;have y5:=za x 5 _ rfl
  cases all with
  | true =>
   have s:Hid (qf pe++f++(⟨#[64]⟩++qf cl)=qC ⟨pe,len,hei,cl,true,be⟩):=by
    show qf pe++f++(⟨#[64]⟩++qf cl)=qC _
    unfold qC cabT zhN;rw[if_neg d,if_neg d,if_pos rfl,i.out];exact ByteArray.append_empty.symm
   clear hc d;go_wp2;go_ret;exact⟨congrArg (fun z=>Ending.returned (Value.string z)) s.out,A⟩
  | false =>
   have s:Hid (qf pe++f++(⟨#[64]⟩++qf cl)++(⟨#[120]⟩++qf be)=qC ⟨pe,len,hei,cl,false,be⟩):=by
    show qf pe++f++(⟨#[64]⟩++qf cl)++(⟨#[120]⟩++qf be)=qC _
    unfold qC cabT zhN;rw[if_neg d,if_neg d,if_neg (by simp),i.out]
   clear hc d;have X:=qk ⟨#[120]⟩ (qf be) (by show 1<=_;omega) (by omega)
   have Y:=qk (qf pe++f++(⟨#[64]⟩++qf cl)) (⟨#[120]⟩++qf be) (by rw[ByteArray.size_append];omega) (by rw[ByteArray.size_append];show 1+_<=_;omega)
   go_wp2_with fail;refine(Za (n:=be) (by have:=a.out;omega) (by have:=a.out;omega) _).mono ?_
   rintro e w7 ⟨rfl,M⟩;go_wp2;go_ret;exact⟨congrArg (fun z=>Ending.returned (Value.string z)) s.out,zj A M⟩
section
open Go.RowKit
end
theorem zdu (x d a mo:Int)(fr tt:ByteArray)(lo r:Option Addr)(n m s t:Nat)(j k:qi)(w:World)(G:j.n=n)(H:k.n=m)(c:fr.size<=1000000000000000)(f:tt.size<=1000000000000000)(hn:n<=1048576)(O:m<=1048576)(P:qd w lo j)(Q:qd w r k) :
  Calls Tryz.prog 24 #[.agg #[int i64 x,.string fr,.string tt,int i64 d,int i64 a,.slice lo n s,.slice r m t,int i64 mo]] w fun e w'=>SaysIf (zU ⟨x,fr,tt,d,a,j,k,mo⟩) e/\Below w.heap.size w w':=by
 have b:Below w.heap.size w (w.alloc (.cells #[int i64 x,.string fr,.string tt,int i64 d,int i64 a,.slice lo n s,.slice r m t,int i64 mo] 37)):=zr bZ _;have D:=heap_alloc_new w (.cells #[int i64 x,.string fr,.string tt,int i64 d,int i64 a,.slice lo n s,.slice r m t,int i64 mo] 37);have L:=hI G;have M:=hI H;clear G H
 by_cases g1:In x 1 99
 case neg =>
  have y:decide (In x 1 99)=false:=by exact decide_eq_false g1
  have g:Hid (¬ zU ⟨x,fr,tt,d,a,j,k,mo⟩):=fun h=>g1 h.1
  clear g1;go_enter Tryz.func24,Tryz.ntmps24;go_wp2_with (first|(go_at_call 60;refine sC (ZC _ _) ?_)|(go_at_call 61;refine sC (Zd _ _ _ c f) ?_)|(go_at_call 31;refine sC (ql _ _ _ _) ?_))
  go_ret;exact⟨zC g.out,b⟩
 have y:decide (In x 1 99)=true:=by exact decide_eq_true g1
 by_cases g2:zaP fr tt
 case neg =>
  have z:decide (zaP fr tt)=false:=by exact decide_eq_false g2
  have g:Hid (¬ zU ⟨x,fr,tt,d,a,j,k,mo⟩):=fun h=>g2 ⟨h.2.1,h.2.2.1,h.2.2.2.1⟩
  clear g1 g2;go_enter Tryz.func24,Tryz.ntmps24;go_wp2_with (first|(go_at_call 60;refine sC (ZC _ _) ?_)|(go_at_call 61;refine sC (Zd _ _ _ c f) ?_)|(go_at_call 31;refine sC (ql _ _ _ _) ?_))
  go_ret;exact⟨zC g.out,b⟩
 have z:decide (zaP fr tt)=true:=by exact decide_eq_true g2
 by_cases g3:0<=d
 case neg =>
  have A:decide (0<=d)=false:=by simpa using g3
  have g:Hid (¬ zU ⟨x,fr,tt,d,a,j,k,mo⟩):=fun h=>g3 h.2.2.2.2.1
  clear g1 g2 g3;go_enter Tryz.func24,Tryz.ntmps24;go_wp2_with (first|(go_at_call 60;refine sC (ZC _ _) ?_)|(go_at_call 61;refine sC (Zd _ _ _ c f) ?_)|(go_at_call 31;refine sC (ql _ _ _ _) ?_))
  go_ret;exact⟨zC g.out,b⟩
 have A:decide (0<=d)=true:=by simpa using g3
 by_cases g4:d<a
 case neg =>
  have B:decide (d<a)=false:=by simpa using g4
  have g:Hid (¬ zU ⟨x,fr,tt,d,a,j,k,mo⟩):=fun h=>g4 h.2.2.2.2.2.1
  clear g1 g2 g3 g4;go_enter Tryz.func24,Tryz.ntmps24;go_wp2_with (first|(go_at_call 60;refine sC (ZC _ _) ?_)|(go_at_call 61;refine sC (Zd _ _ _ c f) ?_)|(go_at_call 31;refine sC (ql _ _ _ _) ?_))
  go_ret;exact⟨zC g.out,b⟩
 have B:decide (d<a)=true:=by simpa using g4
 by_cases g5:a<=10000
 case neg =>
  have C:decide (a<=10000)=false:=by simpa using g5
  have g:Hid (¬ zU ⟨x,fr,tt,d,a,j,k,mo⟩):=fun h=>g5 h.2.2.2.2.2.2.1
  clear g1 g2 g3 g4 g5;go_enter Tryz.func24,Tryz.ntmps24;go_wp2_with (first|(go_at_call 60;refine sC (ZC _ _) ?_)|(go_at_call 61;refine sC (Zd _ _ _ c f) ?_)|(go_at_call 31;refine sC (ql _ _ _ _) ?_))
  go_ret;exact⟨zC g.out,b⟩
 have C:decide (a<=10000)=true:=by simpa using g5
 have l:Hid (In x 1 99/\zaP fr tt/\0<=d/\d<a/\a<=10000):=⟨g1,g2,g3,g4,g5⟩;clear g1 g2 g3 g4 g5;go_enter Tryz.func24,Tryz.ntmps24;go_wp2_with (first|(go_at_call 60;refine sC (ZC _ _) ?_)|(go_at_call 61;refine sC (Zd _ _ _ c f) ?_)|(go_at_call 31;refine sC (ql _ _ _ _) ?_))
 refine(zfn lo n s j _ L.out hn (P.below b)).mono ?_;rintro e w1 ⟨⟨b1,rfl,I⟩,o⟩;have u:=zc D o;have i:=zj b o;have E:=hI I;clear I D b o
 cases b1 with
 | false =>
  go_wp2;go_ret;exact⟨zC (fun h=>by have:=E.out.2 h.2.2.2.2.2.2.2.1;cases this),i⟩
 | true =>
  have R:=za u 6 _ rfl;go_wp2_with fail;refine(zdR r m t k _ M.out O (Q.below i)).mono ?_;rintro e w2 ⟨⟨b2,rfl,J⟩,p⟩;have K:=zc u p;have q:=zj i p;have F:=hI J;clear J u i p R
  cases b2 with
  | false =>
   go_wp2;go_ret;exact⟨zC (fun h=>by have:=F.out.2 h.2.2.2.2.2.2.2.2.1;cases this),q⟩
  | true =>
   have q7:=za K 7 _ rfl
   by_cases g8:In mo 0 500
   ·have N:decide (In mo 0 500)=true:=decide_eq_true g8
    have v:=hI g8;clear g8;go_wp2_with (first|(go_at_call 60;refine sC (ZC _ _) ?_)|(go_at_call 61;refine sC (Zd _ _ _ c f) ?_)|(go_at_call 31;refine sC (ql _ _ _ _) ?_))
    go_ret;exact⟨says_yes ⟨l.out.1,l.out.2.1.1,l.out.2.1.2.1,l.out.2.1.2.2,l.out.2.2.1,l.out.2.2.2.1,l.out.2.2.2.2,E.out.1 (by simp),F.out.1 (by simp),v.out⟩,q⟩
   ·have N:decide (In mo 0 500)=false:=decide_eq_false g8
    have v:=hI g8;clear g8;go_wp2_with (first|(go_at_call 60;refine sC (ZC _ _) ?_)|(go_at_call 61;refine sC (Zd _ _ _ c f) ?_)|(go_at_call 31;refine sC (ql _ _ _ _) ?_))
    go_ret;exact⟨zC (fun h=>v.out h.2.2.2.2.2.2.2.2.2),q⟩
end Go.Proofs.YtfallpinmhbemaaGreatDoor
