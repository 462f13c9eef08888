/-
  OWN TEXT: SpecT, PlainF, PlainH2, PlainD, PlainR5.
-/
import Derived.Test.YtfallpinmhbemaaGreatDoorB12
namespace Go.Proofs.YtfallpinmhbemaaGreatDoor
open Go.RowKit
open Go.Value (int)
open Go.IntKind (i64)
set_option maxHeartbeats 64000000
set_option maxRecDepth 100000
theorem zdf (F:Option Addr)(N c:Nat)(S:Nat->Sail)(w:World)(hN:N<=1048576)(V:ShortAll N S 1048576)(Y:SailsAt w F N S) :
  Calls Tryz.prog 100 #[.slice F N c] w fun e w'=>SaysIf (zch N S) e/\Below w.heap.size w w':=by
 have HS:=hI V;clear V
 by_cases h6:N<=6
 ·have O:decide (6<N)=false:=by simp;omega
  go_enter Tryz.func100,Tryz.ntmps100;go_wp2;go_loopw [3,4,10] (fun _ _ i wr=>∃ k:Nat,k<=N/\i=int i64 k/\(∀ j,j<k->zU (S j)/\(0<j->(S (j - 1)).id<(S j).id))/\Below w.heap.size w wr) (fun _ _ i _=>N - (intOf i).toNat)
  case atStart=>exact⟨0,Nat.zero_le _,rfl,fun j hj=>by omega,bZ⟩
  case round =>
   obtain⟨k,hk,rfl,s,d⟩:=hrel;have L:=hI s;clear s O
   by_cases hlt:k<N
   ·have M:Hid (0<k->∀ b off,F=some ⟨b,off,none⟩->w.cell? ⟨b,off+(k - 1)*8,none⟩=some (int i64 (S (k - 1)).id)):=by
     intro h b off e;obtain⟨b',Z,_,_,_,_,I,g,_⟩:=Y (k - 1) (by omega)
     rw[e] at I;simp only[Option.some.injEq,Addr.mk.injEq,and_true] at I;obtain⟨rfl,rfl⟩:=I;exact g
    obtain⟨b,off,la,lc,ca,H,rfl,P,J,Q,R,T,U,y,h7,h8,z,_,_⟩:=Y k hlt;have D:Hid (0<k->w.cell? ⟨b,off+(k - 1)*8,none⟩=some (int i64 (S (k - 1)).id)):=fun h=>M.out h b off rfl
    clear M;have n:=World.block_lt_of_cell? w _ J;have c0:=(d.cell (p:=⟨b,off+k*8,none⟩) n).trans P;have c1:=(d.cell (p:=⟨b,off+k*8+1,none⟩) n).trans J;have c2:=(d.cell (p:=⟨b,off+k*8+2,none⟩) n).trans Q;have c3:=(d.cell (p:=⟨b,off+k*8+3,none⟩) n).trans R;have c4:=(d.cell (p:=⟨b,off+k*8+4,none⟩) n).trans T;have c5:=(d.cell (p:=⟨b,off+k*8+5,none⟩) n).trans U;have c6:=(d.cell (p:=⟨b,off+k*8+6,none⟩) n).trans y;have c7:=(d.cell (p:=⟨b,off+k*8+7,none⟩) n).trans h7;obtain⟨s1,s2,A,B⟩:=HS.out k hlt;have o:(S k).fr.size<=1000000000000000:=by omega
    have q:(S k).dst.size<=1000000000000000:=by omega
    clear s1 s2;have f:=zr d (.cells #[int i64 (S k).id,.string (S k).fr,.string (S k).dst,int i64 (S k).dep,int i64 (S k).arr,.slice la (S k).la.n lc,.slice ca (S k).ca.n H,int i64 (S k).most] 37);have a:=heap_alloc_new wr (.cells #[int i64 (S k).id,.string (S k).fr,.string (S k).dst,int i64 (S k).dep,int i64 (S k).arr,.slice la (S k).la.n lc,.slice ca (S k).ca.n H,int i64 (S k).most] 37);clear P J Q R T U y h7;go_upto_region 6 with fail;generalize hW:wr.alloc (.cells #[int i64 (S k).id,.string (S k).fr,.string (S k).dst,int i64 (S k).dep,int i64 (S k).arr,.slice la (S k).la.n lc,.slice ca (S k).ca.n H,int i64 (S k).most] 37)=W at f a ⊢;clear hW;have l:wr.heap.size<W.heap.size:=zZ a;have z0:∀ g:qe W,g.val.cell? ⟨wr.heap.size,0,none⟩=_:=fun g=>(g.bel.cell l).trans (za a 0 _ rfl)
    have z1:∀ g:qe W,g.val.cell? ⟨wr.heap.size,1,none⟩=_:=fun g=>(g.bel.cell l).trans (za a 1 _ rfl)
    have z2:∀ g:qe W,g.val.cell? ⟨wr.heap.size,2,none⟩=_:=fun g=>(g.bel.cell l).trans (za a 2 _ rfl)
    have z3:∀ g:qe W,g.val.cell? ⟨wr.heap.size,3,none⟩=_:=fun g=>(g.bel.cell l).trans (za a 3 _ rfl)
    have z4:∀ g:qe W,g.val.cell? ⟨wr.heap.size,4,none⟩=_:=fun g=>(g.bel.cell l).trans (za a 4 _ rfl)
    have z5:∀ g:qe W,g.val.cell? ⟨wr.heap.size,5,none⟩=_:=fun g=>(g.bel.cell l).trans (za a 5 _ rfl)
    have z6:∀ g:qe W,g.val.cell? ⟨wr.heap.size,6,none⟩=_:=fun g=>(g.bel.cell l).trans (za a 6 _ rfl)
    have z7:∀ g:qe W,g.val.cell? ⟨wr.heap.size,7,none⟩=_:=fun g=>(g.bel.cell l).trans (za a 7 _ rfl)
    have a0:b<W.heap.size:=Nat.lt_of_lt_of_le n f.size;clear c0 c1 c2 c3 c4 c5 c6 c7 a;go_cut [10,32] (fun i c wx=>i=int i64 k/\Tells (zU (S k)/\(0<k->(S (k - 1)).id<(S k).id)) c/\Below w.heap.size w wx)
    case first =>
     by_cases hg:zU (S k)
     ·have r:=hI hg
      clear hg
      by_cases k0:k=0
      ·subst k0
       refine zp (by kernel_rfl) (by kernel_rfl) ?_
       repeat(first|go_big_quiet_skip|(go_big_quiet_want;go_big_quiet_op;first|go_big_quiet_on|(apply Exists.intro;refine⟨fun g=>?_,?_⟩;(focus(go_at_call 26;refine zi (v:=.bool true) ((Zw _ _ _ _ _ _ _ _ _ _ _ _ (S 0).la (S 0).ca _ rfl rfl o q A B (h8.below (zj f g.bel)) (z.below (zj f g.bel))).mono ?_);rintro e K ⟨⟨G,rfl,x⟩,m⟩;obtain rfl:=x.2 r.out;exact⟨rfl,m⟩));go_big_quiet_on)))
       refine wpQuiet_nil ?_;rintro _ ⟨g,rfl⟩;go_wp2;go_meet;exact⟨rfl,tells_good ⟨r.out,fun h=>by omega⟩,zj f g.bel⟩
      ·have d0:decide (0<k)=true:=by simp;omega
       have a1:((k:Int) - 1).toNat=k - 1:=by omega
       have a2:(k:Int) - 1<(N:Int):=by omega
       have a3:(0:Int)<=(k:Int) - 1:=by omega
       have a5:IntKind.i64.wrap ((k:Int) - 1)=(k:Int) - 1:=by rw[IntKind.wrap_i64];omega
       have y0:∀ g:qe W,g.val.cell? ⟨b,off+(k - 1)*8,none⟩=_:=fun g=>((zj f g.bel).cell (p:=⟨b,off+(k - 1)*8,none⟩) n).trans (D.out (by omega))
       by_cases hle:(S k).id<=(S (k - 1)).id
       ·have e2:decide ((S k).id<=(S (k - 1)).id)=true:=by simpa using hle
        refine zp (by kernel_rfl) (by kernel_rfl) ?_
        repeat(first|go_big_quiet_skip|(go_big_quiet_want;go_big_quiet_op;first|go_big_quiet_on|(apply Exists.intro;refine⟨fun g=>?_,?_⟩;(focus(go_at_call 26;refine zi (v:=.bool true) ((Zw _ _ _ _ _ _ _ _ _ _ _ _ (S k).la (S k).ca _ rfl rfl o q A B (h8.below (zj f g.bel)) (z.below (zj f g.bel))).mono ?_);rintro e K ⟨⟨G,rfl,x⟩,m⟩;obtain rfl:=x.2 r.out;exact⟨rfl,m⟩));go_big_quiet_on)))
        refine wpQuiet_nil ?_;rintro _ ⟨g,rfl⟩;go_wp2;go_meet;exact⟨rfl,tells_bad (fun h=>by have:=h.2 (by omega);omega),zj f g.bel⟩
       ·have e2:decide ((S k).id<=(S (k - 1)).id)=false:=by simpa using hle
        refine zp (by kernel_rfl) (by kernel_rfl) ?_
        repeat(first|go_big_quiet_skip|(go_big_quiet_want;go_big_quiet_op;first|go_big_quiet_on|(apply Exists.intro;refine⟨fun g=>?_,?_⟩;(focus(go_at_call 26;refine zi (v:=.bool true) ((Zw _ _ _ _ _ _ _ _ _ _ _ _ (S k).la (S k).ca _ rfl rfl o q A B (h8.below (zj f g.bel)) (z.below (zj f g.bel))).mono ?_);rintro e K ⟨⟨G,rfl,x⟩,m⟩;obtain rfl:=x.2 r.out;exact⟨rfl,m⟩));go_big_quiet_on)))
        refine wpQuiet_nil ?_;rintro _ ⟨g,rfl⟩;go_wp2;go_meet;exact⟨rfl,tells_good ⟨r.out,fun _=>by omega⟩,zj f g.bel⟩
     ·have r:=hI hg
      clear hg;refine zp (by kernel_rfl) (by kernel_rfl) ?_
      repeat(first|go_big_quiet_skip|(go_big_quiet_want;go_big_quiet_op;first|go_big_quiet_on|(apply Exists.intro;refine⟨fun g=>?_,?_⟩;(focus(go_at_call 26;refine zi (v:=.bool false) ((Zw _ _ _ _ _ _ _ _ _ _ _ _ (S k).la (S k).ca _ rfl rfl o q A B (h8.below (zj f g.bel)) (z.below (zj f g.bel))).mono ?_);rintro e K ⟨⟨G,rfl,x⟩,m⟩;obtain rfl:=Bool.eq_false_iff.2 (fun e=>r.out (x.1 e));exact⟨rfl,m⟩));go_big_quiet_on)))
      refine wpQuiet_nil ?_;rintro _ ⟨g,rfl⟩;go_wp2;go_meet;exact⟨rfl,tells_bad (fun h=>r.out h.1),zj f g.bel⟩
    case rest =>
     obtain⟨rfl,⟨t,rfl,X⟩,u⟩:=hcut;have E:=hI X;clear X z0 z1 z2 z3 z4 z5 z6 z7
     cases t with
     | true =>
      go_wp2;go_ret;exact⟨zC (fun h=>by have:=E.out.2 (h.2 k hlt);cases this),u⟩
     | false =>
      have C:=E.out.1 rfl;have C:Hid _:=C;clear E;go_wp2;go_roundw
      case rel=>exact⟨k+1,by omega,by go_num,fun j hj=>by
       by_cases e:j=k
       ·subst e;exact C.out
       ·exact L.out j (by omega),u⟩
      case measure=>simp[intOf];omega
   ·obtain rfl:k=N:=by omega
    go_wp2;go_ret;exact⟨says_yes ⟨h6,L.out⟩,d⟩
 ·have O:decide (6<N)=true:=by simp;omega
  go_enter Tryz.func100,Tryz.ntmps100;go_wp2;go_ret;exact⟨zC (fun h=>h6 h.1),bZ⟩
def qo (S:Nat->Sail)(x:Int):Nat->Nat
 | 0=>0
 | n+1=>if qo S x n<n then qo S x n else if (S n).id=x then n else n+1
theorem zbK (S:Nat->Sail)(x:Int)(n:Nat):qo S x n<=n:=by
 induction n with
 | zero=>exact Nat.le_refl _
 | succ n ih=>unfold qo;split <;> (try split) <;> omega
theorem zeH (S:Nat->Sail)(x:Int)(n:Nat):∀ j,j<qo S x n->(S j).id≠x:=by
 induction n with
 | zero=>intro j a;unfold qo at a;omega
 | succ n ih =>
  intro j a;unfold qo at a;have hl:=zbK S x n
  split at a
  ·exact ih j a
  ·rename_i h
   split at a
   ·exact ih j (by omega)
   ·rename_i h2
    by_cases e:j=n
    ·subst e;exact h2
    ·exact ih j (by omega)
theorem zaZ (S:Nat->Sail)(x:Int)(n:Nat)(h:qo S x n<n):(S (qo S x n)).id=x:=by
 induction n with
 | zero=>omega
 | succ n ih =>
  unfold qo at h ⊢
  split
  ·rename_i h1;exact ih h1
  ·rename_i h1
   rw[if_neg h1] at h
   split
   ·rename_i h2;exact h2
   ·rename_i h2;rw[if_neg h2] at h;omega
theorem findIx_is {S:Nat->Sail}{x:Int}{n r:Nat}(hr:r<n)(d:(S r).id=x)(b:∀ j,j<r->(S j).id≠x):qo S x n=r:=by
 have a:=zeH S x n
 by_cases c:qo S x n<r
 ·exact absurd (zaZ S x n (by omega)) (b _ c)
 ·by_cases c2:r<qo S x n
  ·exact absurd d (a r c2)
  ·omega
theorem zgJ {S:Nat->Sail}{x:Int}{n:Nat}(a:∀ j,j<n->(S j).id≠x):qo S x n=n:=by
 have h1:=zbK S x n
 by_cases c:qo S x n<n
 ·exact absurd (zaZ S x n c) (a _ c)
 ·omega
def LegOk (N:Nat)(S:Nat->Sail)(G:Nat->Int)(i:Nat):Prop :=
 qo S (G i) N<N/\(0<i->(S (qo S (G (i - 1)) N)).dst=(S (qo S (G i) N)).fr/\(S (qo S (G (i - 1)) N)).arr<=(S (qo S (G i) N)).dep)
def zba (N:Nat)(S:Nat->Sail)(n:Nat)(G:Nat->Int):Prop:=1<=n/\n<=3/\∀ i,i<n->LegOk N S G i
def Has (F:Nat->Int)(n:Nat)(x:Int):Prop:=∃ j,j<n/\F j=x
def zfM (F:Nat->Int)(x:Int):Nat->Nat
 | 0=>0
 | n+1=>if zfM F x n<n then zfM F x n else if F n=x then n else n+1
theorem ixOf_le (F:Nat->Int)(x:Int)(n:Nat):zfM F x n<=n:=by
 induction n with
 | zero=>exact Nat.le_refl _
 | succ n ih=>unfold zfM;split <;> (try split) <;> omega
theorem zgK (F:Nat->Int)(x:Int)(n:Nat):∀ j,j<zfM F x n->F j≠x:=by
 induction n with
 | zero=>intro j a;unfold zfM at a;omega
 | succ n ih =>
  intro j a;unfold zfM at a;have hl:=ixOf_le F x n
  by_cases h1:zfM F x n<n
  ·rw[if_pos h1] at a;exact ih j a
  ·rw[if_neg h1] at a
   have he:zfM F x n=n:=by omega
   by_cases h2:F n=x
   ·rw[if_pos h2] at a;exact ih j (by omega)
   ·rw[if_neg h2] at a
    by_cases e:j=n
    ·subst e;exact h2
    ·exact ih j (by omega)
theorem ixOf_at (F:Nat->Int)(x:Int)(n:Nat)(h:zfM F x n<n):F (zfM F x n)=x:=by
 induction n with
 | zero=>omega
 | succ n ih =>
  unfold zfM at h ⊢
  by_cases h1:zfM F x n<n
  ·rw[if_pos h1];exact ih h1
  ·rw[if_neg h1] at h ⊢
   by_cases h2:F n=x
   ·rw[if_pos h2];exact h2
   ·rw[if_neg h2] at h;omega
theorem ixOf_is {F:Nat->Int}{x:Int}{n r:Nat}(hr:r<n)(d:F r=x)(b:∀ j,j<r->F j≠x):zfM F x n=r:=by
 have a:=zgK F x n
 by_cases c:zfM F x n<r
 ·exact absurd (ixOf_at F x n (by omega)) (b _ c)
 ·by_cases c2:r<zfM F x n
  ·exact absurd d (a r c2)
  ·omega
theorem zgL {F:Nat->Int}{n:Nat}{x:Int}(h:∀ j,j<n->F j≠x):¬ Has F n x:=fun ⟨j,hj,e⟩=>h j hj e
def Q8 (S:Nat->ZX)(j:Nat):Int:=(S j).who
def zfN (S:Nat->ZX)(k:Nat):Nat->Int
 | 0=>0
 | i+1=>zfN S k i+(if (S i).ln=(k:Int) then (S i).len else 0)
def QF (p:qi)(S:Nat->ZX)(i:Nat)(k:Nat):Int:=p.A k - zfN S k i
theorem left_0 (p:qi)(S:Nat->ZX)(k:Nat):QF p S 0 k=p.A k:=by unfold QF zfN;omega
theorem zeI (p:qi)(S:Nat->ZX)(i k:Nat)(h:(S i).ln=(k:Int)):QF p S (i+1) k=QF p S i k - (S i).len:=by
 unfold QF;rw[zfN,if_pos h];omega
theorem zgM (p:qi)(S:Nat->ZX)(i k:Nat)(h:(S i).ln≠(k:Int)):QF p S (i+1) k=QF p S i k:=by
 unfold QF;rw[zfN,if_neg h];omega
theorem zgN (S:Nat->ZX)(k i:Nat)(h:∀ j,j<i->In (S j).len 1 2000):0<=zfN S k i/\zfN S k i<=2000*i:=by
 induction i with
 | zero=>exact⟨Int.le_refl _,by unfold zfN;omega⟩
 | succ i ih =>
  have:=ih (fun j hj=>h j (by omega))
  have a:=h i (by omega)
  unfold In at a;unfold zfN
  split <;> omega
theorem left_mono (p:qi)(S:Nat->ZX)(k i n:Nat)(a:i<=n)(h:∀ j,j<n->In (S j).len 1 2000):QF p S n k<=QF p S i k:=by
 induction n with
 | zero=>rw[show i=0 by omega];exact Int.le_refl _
 | succ n ih =>
  by_cases e:i=n+1
  ·rw[e];exact Int.le_refl _
  ·have:=ih (by omega) (fun j hj=>h j (by omega))
   have hn:=h n (by omega)
   unfold In at hn
   by_cases c:(S n).ln=(k:Int)
   ·rw[zeI p S n k c];omega
   ·rw[zgM p S n k c];exact this
structure Fits (p:qi)(F:Nat->Int)(s:ZX):Prop where
 who:In s.who 1 9999
 len:In s.len 1 2000
 hei:In s.hei 1 500
 ln:In s.ln 0 ((p.n:Int) - 1)
 high:s.hei<=p.B s.ln.toNat
 room:s.len<=F s.ln.toNat
def zgO (p:qi):Prop:=ZG p 4 1 5000 100 500
def zfO (p:qi)(n:Nat)(S:Nat->ZX):Prop:=zgO p/\n<=60/\∀ i,i<n->¬ Has (Q8 S) i (S i).who/\Fits p (QF p S i) (S i)
def OkS (p:qi)(S:Nat->ZX)(i:Nat):Prop:=In (S i).who 1 9999/\In (S i).ln 0 ((p.n:Int) - 1)/\In (S i).len 1 2000/\In (S i).hei 1 (p.B (S i).ln.toNat)/\¬ Has (Q8 S) i (S i).who
def DeckS (p:qi)(n:Nat)(S:Nat->ZX):Prop:=zgO p/\n<=60/\(∀ i,i<n->OkS p S i)/\∀ k,k<p.n->0<=QF p S n k
theorem Ql (p:qi)(n:Nat)(S:Nat->ZX):DeckS p n S↔zfO p n S:=by
 constructor
 ·rintro⟨g,hn,l,w⟩
  refine⟨g,hn,fun i m=>?_⟩
  obtain⟨o,d,t,q,u⟩:=l i m;have h:(S i).ln.toNat<p.n:=by unfold In at d;omega
  have v:=(g.2 _ h).2;have e:(S i).ln=((S i).ln.toNat:Int):=by unfold In at d;omega
  refine⟨u,o,t,⟨q.1,?_⟩,d,q.2,?_⟩
  ·unfold In at v q;omega
  ·have a:=w _ h
   have b:=left_mono p S (S i).ln.toNat (i+1) n (by omega) (fun j x=>(l j x).2.2.1)
   rw[zeI p S i _ e] at b
   omega
 ·rintro⟨g,hn,l⟩
  have s:∀ i,i<=n->∀ k,k<p.n->0<=QF p S i k:=by
   intro i
   induction i with
   | zero=>intro _ k r;rw[left_0];have:=(g.2 k r).1;unfold In at this;omega
   | succ i ih =>
    intro m k r;have y:=ih (by omega) k r
    have f:=(l i (by omega)).2
    by_cases c:(S i).ln=(k:Int)
    ·rw[zeI p S i k c]
     have:=f.room;rw[c] at this;simp at this
     omega
    ·rw[zgM p S i k c];exact y
  refine⟨g,hn,fun i m=>?_,s n (Nat.le_refl _)⟩
  obtain⟨o,d⟩:=l i m;exact⟨d.who,d.ln,d.len,⟨d.hei.1,d.high⟩,o⟩
theorem zfO.lens {p:qi}{n:Nat}{S:Nat->ZX}(h:zfO p n S):∀ j,j<n->In (S j).len 1 2000:=fun j a=>(h.2.2 j a).2.len
theorem zgP {p:qi}{n:Nat}{S:Nat->ZX}{k:Nat}(c:zgO p)(hn:n<=60)(hl:∀ j,j<n->In (S j).len 1 2000)(d:k<p.n):-120000<=QF p S n k/\QF p S n k<=5000:=by
 have a:=(c.2 k d).1;have b:=zgN S k n hl;unfold In at a;unfold QF
 omega
def Qy (p:qi)(F:Nat->Int)(len hei:Int)(k:Nat):Prop:=k<p.n/\(hei<=p.B k/\len<=F k)/\∀ j,j<k->¬ (hei<=p.B j/\len<=F j)
theorem zeJ {p:qi}{F:Nat->Int}{len hei:Int}{k j:Nat}(a:Qy p F len hei k)(b:Qy p F len hei j):k=j:=by
 by_cases c:k<j
 ·exact absurd a.2.1 (b.2.2 k c)
 ·by_cases c2:j<k
  ·exact absurd b.2.1 (a.2.2 j c2)
  ·omega
def Places (p:qi)(n:Nat)(S:Nat->ZX)(x len hei:Int)(k:Nat):Prop :=
 zfO p n S/\n≠60/\¬ Has (Q8 S) n x/\In x 1 9999/\In len 1 2000/\In hei 1 500/\Qy p (QF p S n) len hei k
def Z7 (S:Nat->ZX)(r:Nat)(i:Nat):ZX:=if i<r then S i else S (i+1)
def zaW (S:Nat->ZF)(j:Nat):Int:=(S j).who
def ZZ (S:Nat->ZF)(k:Nat):Nat->Int
 | 0=>0
 | i+1=>ZZ S k i+(if (S i).cab=(k:Int) then (S i).many else 0)
def qW (p:qi)(S:Nat->ZF)(i:Nat)(k:Nat):Int:=p.B k - ZZ S k i
theorem zgQ (p:qi)(S:Nat->ZF)(k:Nat):qW p S 0 k=p.B k:=by unfold qW ZZ;omega
theorem zbL (p:qi)(S:Nat->ZF)(i k:Nat)(h:(S i).cab=(k:Int)):qW p S (i+1) k=qW p S i k - (S i).many:=by
 unfold qW;rw[ZZ,if_pos h];omega
theorem zeK (p:qi)(S:Nat->ZF)(i k:Nat)(h:(S i).cab≠(k:Int)):qW p S (i+1) k=qW p S i k:=by
 unfold qW;rw[ZZ,if_neg h];omega
theorem zfP (S:Nat->ZF)(k i:Nat)(h:∀ j,j<i->In (S j).many 1 4):0<=ZZ S k i/\ZZ S k i<=4*i:=by
 induction i with
 | zero=>exact⟨Int.le_refl _,by unfold ZZ;omega⟩
 | succ i ih =>
  have:=ih (fun j hj=>h j (by omega))
  have a:=h i (by omega)
  unfold In at a;unfold ZZ
  split <;> omega
theorem zck (p:qi)(S:Nat->ZF)(k i n:Nat)(a:i<=n)(h:∀ j,j<n->In (S j).many 1 4):qW p S n k<=qW p S i k:=by
 induction n with
 | zero=>rw[show i=0 by omega];exact Int.le_refl _
 | succ n ih =>
  by_cases e:i=n+1
  ·rw[e];exact Int.le_refl _
  ·have:=ih (by omega) (fun j hj=>h j (by omega))
   have hn:=h n (by omega)
   unfold In at hn
   by_cases c:(S n).cab=(k:Int)
   ·rw[zbL p S n k c];omega
   ·rw[zeK p S n k c];exact this
def zgR (p:qi):Prop:=ZG p 6 1 3 1 4
def OkR0 (p:qi)(S:Nat->ZF)(i:Nat):Prop:=In (S i).who 1 9999/\¬ Has (zaW S) i (S i).who/\In (S i).cab 0 ((p.n:Int) - 1)/\In (S i).many 1 4/\((S i).all=true->(S i).many=p.B (S i).cab.toNat)
def OkR2 (S:Nat->ZF)(i j:Nat):Prop:=(S j).cab=(S i).cab->(S j).all=false/\(S i).all=false
def OkR (p:qi)(S:Nat->ZF)(i:Nat):Prop:=OkR0 p S i/\∀ j,j<i->OkR2 S i j
def QL (p:qi)(n:Nat)(S:Nat->ZF):Prop:=zgR p/\n<=60/\(∀ i,i<n->OkR p S i)/\∀ k,k<p.n->0<=qW p S n k
theorem QL.manys {p:qi}{n:Nat}{S:Nat->ZF}(h:QL p n S):∀ j,j<n->In (S j).many 1 4:=fun j a=>(h.2.2.1 j a).1.2.2.2.1
theorem zfQ {p:qi}{n:Nat}{S:Nat->ZF}{k:Nat}(c:zgR p)(hn:n<=60)(hl:∀ j,j<n->In (S j).many 1 4)(d:k<p.n):-240<=qW p S n k/\qW p S n k<=4:=by
 have a:=(c.2 k d).2;have b:=zfP S k n hl;unfold In at a;unfold qW
 omega
def zaC (m:Nat)(P:Nat->Prop)(k:Nat):Prop:=k<m/\P k/\∀ j,j<k->¬ P j
theorem zgS {m:Nat}{P:Nat->Prop}{k j:Nat}(a:zaC m P k)(b:zaC m P j):k=j:=by
 by_cases c:k<j
 ·exact absurd a.2.1 (b.2.2 k c)
 ·by_cases c2:j<k
  ·exact absurd b.2.1 (a.2.2 j c2)
  ·omega
def zbt (p:qi)(n:Nat)(S:Nat->ZF)(cl q:Int)(k:Nat):Prop:=p.A k=cl/\qW p S n k=p.B k/\(q<=p.B k∨¬ ∃ j,j<p.n/\p.A j=cl/\q<=p.B j)
def zbM (p:qi)(n:Nat)(S:Nat->ZF)(cl q:Int)(k:Nat):Prop:=p.A k=cl/\q<=qW p S n k
end Go.Proofs.YtfallpinmhbemaaGreatDoor
