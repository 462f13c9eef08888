/-
  OWN TEXT: SpecT, PlainF, PlainH2, PlainD, PlainR5.
-/
import Derived.Test.YtgmdnkngnhkgbaaGreatB12
namespace Go.Proofs.YtgmdnkngnhkgbaaGreat
open Go.RowKit
open Go.Value (int)
open Go.IntKind (i64)
set_option maxHeartbeats 64000000
set_option maxRecDepth 100000
theorem zcz (F:Option Addr)(N c:Nat)(S:Nat->Sail)(w:World)(hN:N<=1048576)(X:ShortAll N S 1048576)(Z:SailsAt w F N S) :
  Calls Tryz.prog 15 #[.slice F N c] w fun e w'=>SaysIf (Z2 N S) e/\Below w.heap.size w w':=by
 have HS:=hI X;clear X
 by_cases h6:N<=6
 ·have P:decide (6<N)=false:=by simp;omega
  go_enter Tryz.func15,Tryz.ntmps15;go_wp2;go_loopw [3,4,10] (fun _ _ i wr=>∃ k:Nat,k<=N/\i=int i64 k/\(∀ j,j<k->qn (S j)/\(0<j->(S (j - 1)).id<(S j).id))/\Below w.heap.size w wr) (fun _ _ i _=>N - (intOf i).toNat)
  case atStart=>exact⟨0,Nat.zero_le _,rfl,fun j hj=>by omega,bZ⟩
  case round =>
   obtain⟨k,hk,rfl,s,d⟩:=hrel;have M:=hI s;clear s P
   by_cases hlt:k<N
   ·have O:Hid (0<k->∀ b off,F=some ⟨b,off,none⟩->w.cell? ⟨b,off+(k - 1)*8,none⟩=some (int i64 (S (k - 1)).id)):=by
     intro h b off e;obtain⟨b',a0,_,_,_,_,I,g,_⟩:=Z (k - 1) (by omega)
     rw[e] at I;simp only[Option.some.injEq,Addr.mk.injEq,and_true] at I;obtain⟨rfl,rfl⟩:=I;exact g
    obtain⟨b,off,la,K,ca,H,rfl,Q,J,R,T,U,V,y,h7,h8,z,_,_⟩:=Z k hlt;have D:Hid (0<k->w.cell? ⟨b,off+(k - 1)*8,none⟩=some (int i64 (S (k - 1)).id)):=fun h=>O.out h b off rfl
    clear O;have n:=World.block_lt_of_cell? w _ J;have c0:=(d.cell (p:=⟨b,off+k*8,none⟩) n).trans Q;have c1:=(d.cell (p:=⟨b,off+k*8+1,none⟩) n).trans J;have c2:=(d.cell (p:=⟨b,off+k*8+2,none⟩) n).trans R;have c3:=(d.cell (p:=⟨b,off+k*8+3,none⟩) n).trans T;have c4:=(d.cell (p:=⟨b,off+k*8+4,none⟩) n).trans U;have c5:=(d.cell (p:=⟨b,off+k*8+5,none⟩) n).trans V;have c6:=(d.cell (p:=⟨b,off+k*8+6,none⟩) n).trans y;have c7:=(d.cell (p:=⟨b,off+k*8+7,none⟩) n).trans h7;obtain⟨s1,s2,A,B⟩:=HS.out k hlt;have o:(S k).fr.size<=1000000000000000:=by omega
    have q:(S k).dst.size<=1000000000000000:=by omega
    clear s1 s2;have f:=zl d (.cells #[int i64 (S k).id,.string (S k).fr,.string (S k).dst,int i64 (S k).dep,int i64 (S k).arr,.slice la (S k).la.n K,.slice ca (S k).ca.n H,int i64 (S k).most] 33);have a:=heap_alloc_new wr (.cells #[int i64 (S k).id,.string (S k).fr,.string (S k).dst,int i64 (S k).dep,int i64 (S k).arr,.slice la (S k).la.n K,.slice ca (S k).ca.n H,int i64 (S k).most] 33);clear Q J R T U V y h7;go_upto_region 6 with fail;generalize hW:wr.alloc (.cells #[int i64 (S k).id,.string (S k).fr,.string (S k).dst,int i64 (S k).dep,int i64 (S k).arr,.slice la (S k).la.n K,.slice ca (S k).ca.n H,int i64 (S k).most] 33)=W at f a ⊢;clear hW;have l:wr.heap.size<W.heap.size:=zQ a;have z0:∀ g:zv W,g.val.cell? ⟨wr.heap.size,0,none⟩=_:=fun g=>(g.bel.cell l).trans (za a 0 _ rfl)
    have z1:∀ g:zv W,g.val.cell? ⟨wr.heap.size,1,none⟩=_:=fun g=>(g.bel.cell l).trans (za a 1 _ rfl)
    have z2:∀ g:zv W,g.val.cell? ⟨wr.heap.size,2,none⟩=_:=fun g=>(g.bel.cell l).trans (za a 2 _ rfl)
    have z3:∀ g:zv W,g.val.cell? ⟨wr.heap.size,3,none⟩=_:=fun g=>(g.bel.cell l).trans (za a 3 _ rfl)
    have z4:∀ g:zv W,g.val.cell? ⟨wr.heap.size,4,none⟩=_:=fun g=>(g.bel.cell l).trans (za a 4 _ rfl)
    have z5:∀ g:zv W,g.val.cell? ⟨wr.heap.size,5,none⟩=_:=fun g=>(g.bel.cell l).trans (za a 5 _ rfl)
    have z6:∀ g:zv W,g.val.cell? ⟨wr.heap.size,6,none⟩=_:=fun g=>(g.bel.cell l).trans (za a 6 _ rfl)
    have z7:∀ g:zv W,g.val.cell? ⟨wr.heap.size,7,none⟩=_:=fun g=>(g.bel.cell l).trans (za a 7 _ rfl)
    have a1:b<W.heap.size:=Nat.lt_of_lt_of_le n f.size;clear c0 c1 c2 c3 c4 c5 c6 c7 a;go_cut [10,32] (fun i c wx=>i=int i64 k/\Tells (qn (S k)/\(0<k->(S (k - 1)).id<(S k).id)) c/\Below w.heap.size w wx)
    case first =>
     by_cases hg:qn (S k)
     ·have r:=hI hg
      clear hg
      by_cases k0:k=0
      ·subst k0
       refine zg (by kernel_rfl) (by kernel_rfl) ?_
       repeat(first|go_big_quiet_skip|(go_big_quiet_want;go_big_quiet_op;first|go_big_quiet_on|(apply Exists.intro;refine⟨fun g=>?_,?_⟩;(focus(go_at_call 42;refine zh (v:=.bool true) ((Zo _ _ _ _ _ _ _ _ _ _ _ _ (S 0).la (S 0).ca _ rfl rfl o q A B (h8.below (zf f g.bel)) (z.below (zf f g.bel))).mono ?_);rintro e L ⟨⟨G,rfl,x⟩,m⟩;obtain rfl:=x.2 r.out;exact⟨rfl,m⟩));go_big_quiet_on)))
       refine wpQuiet_nil ?_;rintro _ ⟨g,rfl⟩;go_wp2;go_meet;exact⟨rfl,tells_good ⟨r.out,fun h=>by omega⟩,zf f g.bel⟩
      ·have d0:decide (0<k)=true:=by simp;omega
       have a2:((k:Int) - 1).toNat=k - 1:=by omega
       have a3:(k:Int) - 1<(N:Int):=by omega
       have a5:(0:Int)<=(k:Int) - 1:=by omega
       have a6:IntKind.i64.wrap ((k:Int) - 1)=(k:Int) - 1:=by rw[IntKind.wrap_i64];omega
       have y0:∀ g:zv W,g.val.cell? ⟨b,off+(k - 1)*8,none⟩=_:=fun g=>((zf f g.bel).cell (p:=⟨b,off+(k - 1)*8,none⟩) n).trans (D.out (by omega))
       by_cases hle:(S k).id<=(S (k - 1)).id
       ·have e2:decide ((S k).id<=(S (k - 1)).id)=true:=by simpa using hle
        refine zg (by kernel_rfl) (by kernel_rfl) ?_
        repeat(first|go_big_quiet_skip|(go_big_quiet_want;go_big_quiet_op;first|go_big_quiet_on|(apply Exists.intro;refine⟨fun g=>?_,?_⟩;(focus(go_at_call 42;refine zh (v:=.bool true) ((Zo _ _ _ _ _ _ _ _ _ _ _ _ (S k).la (S k).ca _ rfl rfl o q A B (h8.below (zf f g.bel)) (z.below (zf f g.bel))).mono ?_);rintro e L ⟨⟨G,rfl,x⟩,m⟩;obtain rfl:=x.2 r.out;exact⟨rfl,m⟩));go_big_quiet_on)))
        refine wpQuiet_nil ?_;rintro _ ⟨g,rfl⟩;go_wp2;go_meet;exact⟨rfl,tells_bad (fun h=>by have:=h.2 (by omega);omega),zf f g.bel⟩
       ·have e2:decide ((S k).id<=(S (k - 1)).id)=false:=by simpa using hle
        refine zg (by kernel_rfl) (by kernel_rfl) ?_
        repeat(first|go_big_quiet_skip|(go_big_quiet_want;go_big_quiet_op;first|go_big_quiet_on|(apply Exists.intro;refine⟨fun g=>?_,?_⟩;(focus(go_at_call 42;refine zh (v:=.bool true) ((Zo _ _ _ _ _ _ _ _ _ _ _ _ (S k).la (S k).ca _ rfl rfl o q A B (h8.below (zf f g.bel)) (z.below (zf f g.bel))).mono ?_);rintro e L ⟨⟨G,rfl,x⟩,m⟩;obtain rfl:=x.2 r.out;exact⟨rfl,m⟩));go_big_quiet_on)))
        refine wpQuiet_nil ?_;rintro _ ⟨g,rfl⟩;go_wp2;go_meet;exact⟨rfl,tells_good ⟨r.out,fun _=>by omega⟩,zf f g.bel⟩
     ·have r:=hI hg
      clear hg;refine zg (by kernel_rfl) (by kernel_rfl) ?_
      repeat(first|go_big_quiet_skip|(go_big_quiet_want;go_big_quiet_op;first|go_big_quiet_on|(apply Exists.intro;refine⟨fun g=>?_,?_⟩;(focus(go_at_call 42;refine zh (v:=.bool false) ((Zo _ _ _ _ _ _ _ _ _ _ _ _ (S k).la (S k).ca _ rfl rfl o q A B (h8.below (zf f g.bel)) (z.below (zf f g.bel))).mono ?_);rintro e L ⟨⟨G,rfl,x⟩,m⟩;obtain rfl:=Bool.eq_false_iff.2 (fun e=>r.out (x.1 e));exact⟨rfl,m⟩));go_big_quiet_on)))
      refine wpQuiet_nil ?_;rintro _ ⟨g,rfl⟩;go_wp2;go_meet;exact⟨rfl,tells_bad (fun h=>r.out h.1),zf f g.bel⟩
    case rest =>
     obtain⟨rfl,⟨t,rfl,Y⟩,u⟩:=hcut;have E:=hI Y;clear Y z0 z1 z2 z3 z4 z5 z6 z7
     cases t with
     | true =>
      go_wp2;go_ret;exact⟨zk (fun h=>by have:=E.out.2 (h.2 k hlt);cases this),u⟩
     | false =>
      have C:=E.out.1 rfl;have C:Hid _:=C;clear E;go_wp2;go_roundw
      case rel=>exact⟨k+1,by omega,by go_num,fun j hj=>by
       by_cases e:j=k
       ·subst e;exact C.out
       ·exact M.out j (by omega),u⟩
      case measure=>simp[intOf];omega
   ·obtain rfl:k=N:=by omega
    go_wp2;go_ret;exact⟨zI ⟨h6,M.out⟩,d⟩
 ·have P:decide (6<N)=true:=by simp;omega
  go_enter Tryz.func15,Tryz.ntmps15;go_wp2;go_ret;exact⟨zk (fun h=>h6 h.1),bZ⟩
def zH (S:Nat->Sail)(x:Int):Nat->Nat
 | 0=>0
 | n+1=>if zH S x n<n then zH S x n else if (S n).id=x then n else n+1
theorem zay (S:Nat->Sail)(x:Int)(n:Nat):zH S x n<=n:=by
 induction n with
 | zero=>exact Nat.le_refl _
 | succ n ih=>unfold zH;split <;> (try split) <;> omega
theorem zbp (S:Nat->Sail)(x:Int)(n:Nat):∀ j,j<zH S x n->(S j).id≠x:=by
 induction n with
 | zero=>intro j a;unfold zH at a;omega
 | succ n ih =>
  intro j a;unfold zH at a;have hl:=zay S x n
  split at a
  ·exact ih j a
  ·rename_i h
   split at a
   ·exact ih j (by omega)
   ·rename_i h2
    by_cases e:j=n
    ·subst e;exact h2
    ·exact ih j (by omega)
theorem QW (S:Nat->Sail)(x:Int)(n:Nat)(h:zH S x n<n):(S (zH S x n)).id=x:=by
 induction n with
 | zero=>omega
 | succ n ih =>
  unfold zH at h ⊢
  split
  ·rename_i h1;exact ih h1
  ·rename_i h1
   rw[if_neg h1] at h
   split
   ·rename_i h2;exact h2
   ·rename_i h2;rw[if_neg h2] at h;omega
theorem zeT {S:Nat->Sail}{x:Int}{n r:Nat}(hr:r<n)(d:(S r).id=x)(b:∀ j,j<r->(S j).id≠x):zH S x n=r:=by
 have a:=zbp S x n
 by_cases c:zH S x n<r
 ·exact absurd (QW S x n (by omega)) (b _ c)
 ·by_cases c2:r<zH S x n
  ·exact absurd d (a r c2)
  ·omega
theorem zcA {S:Nat->Sail}{x:Int}{n:Nat}(a:∀ j,j<n->(S j).id≠x):zH S x n=n:=by
 have h1:=zay S x n
 by_cases c:zH S x n<n
 ·exact absurd (QW S x n c) (a _ c)
 ·omega
def zfQ (N:Nat)(S:Nat->Sail)(G:Nat->Int)(i:Nat):Prop :=
 zH S (G i) N<N/\(0<i->(S (zH S (G (i - 1)) N)).dst=(S (zH S (G i) N)).fr/\(S (zH S (G (i - 1)) N)).arr<=(S (zH S (G i) N)).dep)
def Qz (N:Nat)(S:Nat->Sail)(n:Nat)(G:Nat->Int):Prop:=1<=n/\n<=3/\∀ i,i<n->zfQ N S G i
def Has (F:Nat->Int)(n:Nat)(x:Int):Prop:=∃ j,j<n/\F j=x
def ZC (F:Nat->Int)(x:Int):Nat->Nat
 | 0=>0
 | n+1=>if ZC F x n<n then ZC F x n else if F n=x then n else n+1
theorem ixOf_le (F:Nat->Int)(x:Int)(n:Nat):ZC F x n<=n:=by
 induction n with
 | zero=>exact Nat.le_refl _
 | succ n ih=>unfold ZC;split <;> (try split) <;> omega
theorem zcB (F:Nat->Int)(x:Int)(n:Nat):∀ j,j<ZC F x n->F j≠x:=by
 induction n with
 | zero=>intro j a;unfold ZC at a;omega
 | succ n ih =>
  intro j a;unfold ZC at a;have hl:=ixOf_le F x n
  by_cases h1:ZC F x n<n
  ·rw[if_pos h1] at a;exact ih j a
  ·rw[if_neg h1] at a
   have he:ZC F x n=n:=by omega
   by_cases h2:F n=x
   ·rw[if_pos h2] at a;exact ih j (by omega)
   ·rw[if_neg h2] at a
    by_cases e:j=n
    ·subst e;exact h2
    ·exact ih j (by omega)
theorem zaz (F:Nat->Int)(x:Int)(n:Nat)(h:ZC F x n<n):F (ZC F x n)=x:=by
 induction n with
 | zero=>omega
 | succ n ih =>
  unfold ZC at h ⊢
  by_cases h1:ZC F x n<n
  ·rw[if_pos h1];exact ih h1
  ·rw[if_neg h1] at h ⊢
   by_cases h2:F n=x
   ·rw[if_pos h2];exact h2
   ·rw[if_neg h2] at h;omega
theorem zbJ {F:Nat->Int}{x:Int}{n r:Nat}(hr:r<n)(d:F r=x)(b:∀ j,j<r->F j≠x):ZC F x n=r:=by
 have a:=zcB F x n
 by_cases c:ZC F x n<r
 ·exact absurd (zaz F x n (by omega)) (b _ c)
 ·by_cases c2:r<ZC F x n
  ·exact absurd d (a r c2)
  ·omega
theorem zaA (F:Nat->Int)(n:Nat)(x:Int):Has F n x↔ZC F x n<n:=by
 constructor
 ·rintro⟨j,hj,e⟩
  by_cases c:ZC F x n<n
  ·exact c
  ·have:=ixOf_le F x n
   exact absurd e (zcB F x n j (by omega))
 ·intro h
  exact⟨_,h,zaz F x n h⟩
theorem zaB {F:Nat->Int}{n:Nat}{x:Int}(h:∀ j,j<n->F j≠x):¬ Has F n x:=fun ⟨j,hj,e⟩=>h j hj e
def qL (F:Nat->Int)(x:Int)(n:Nat):Int:=if ZC F x n<n then (ZC F x n:Int) else -1
theorem QX (F:Nat->Int)(x:Int)(n:Nat):0<=qL F x n↔Has F n x:=by
 rw[zaA];unfold qL
 split <;> omega
theorem QL {F:Nat->Int}{x:Int}{n:Nat}(h:¬ Has F n x):qL F x n=-1:=if_neg (fun c=>h ((zaA F n x).2 c))
def Zb (S:Nat->qW)(j:Nat):Int:=(S j).who
def zeU (S:Nat->qW)(k:Nat):Nat->Int
 | 0=>0
 | i+1=>zeU S k i+(if (S i).ln=(k:Int) then (S i).len else 0)
def Zy (p:zP)(S:Nat->qW)(i:Nat)(k:Nat):Int:=p.A k - zeU S k i
theorem left_0 (p:zP)(S:Nat->qW)(k:Nat):Zy p S 0 k=p.A k:=by unfold Zy zeU;omega
theorem zcC (p:zP)(S:Nat->qW)(i k:Nat)(h:(S i).ln=(k:Int)):Zy p S (i+1) k=Zy p S i k - (S i).len:=by
 unfold Zy;rw[zeU,if_pos h];omega
theorem zdY (p:zP)(S:Nat->qW)(i k:Nat)(h:(S i).ln≠(k:Int)):Zy p S (i+1) k=Zy p S i k:=by
 unfold Zy;rw[zeU,if_neg h];omega
theorem zfR (S:Nat->qW)(k i:Nat)(h:∀ j,j<i->In (S j).len 1 2000):0<=zeU S k i/\zeU S k i<=2000*i:=by
 induction i with
 | zero=>exact⟨Int.le_refl _,by unfold zeU;omega⟩
 | succ i ih =>
  have:=ih (fun j hj=>h j (by omega))
  have a:=h i (by omega)
  unfold In at a;unfold zeU
  split <;> omega
theorem left_mono (p:zP)(S:Nat->qW)(k i n:Nat)(a:i<=n)(h:∀ j,j<n->In (S j).len 1 2000):Zy p S n k<=Zy p S i k:=by
 induction n with
 | zero=>rw[show i=0 by omega];exact Int.le_refl _
 | succ n ih =>
  by_cases e:i=n+1
  ·rw[e];exact Int.le_refl _
  ·have:=ih (by omega) (fun j hj=>h j (by omega))
   have hn:=h n (by omega)
   unfold In at hn
   by_cases c:(S n).ln=(k:Int)
   ·rw[zcC p S n k c];omega
   ·rw[zdY p S n k c];exact this
structure Fits (p:zP)(F:Nat->Int)(s:qW):Prop where
 who:In s.who 1 9999
 len:In s.len 1 2000
 hei:In s.hei 1 500
 ln:In s.ln 0 ((p.n:Int) - 1)
 high:s.hei<=p.B s.ln.toNat
 room:s.len<=F s.ln.toNat
def zdi (p:zP):Prop:=Qj p 4 1 5000 100 500
def zaf (p:zP)(n:Nat)(S:Nat->qW):Prop:=zdi p/\n<=60/\∀ i,i<n->¬ Has (Zb S) i (S i).who/\Fits p (Zy p S i) (S i)
def OkS (p:zP)(S:Nat->qW)(i:Nat):Prop:=In (S i).who 1 9999/\In (S i).ln 0 ((p.n:Int) - 1)/\In (S i).len 1 2000/\In (S i).hei 1 (p.B (S i).ln.toNat)/\¬ Has (Zb S) i (S i).who
def DeckS (p:zP)(n:Nat)(S:Nat->qW):Prop:=zdi p/\n<=60/\(∀ i,i<n->OkS p S i)/\∀ k,k<p.n->0<=Zy p S n k
theorem Zd (p:zP)(n:Nat)(S:Nat->qW):DeckS p n S↔zaf p n S:=by
 constructor
 ·rintro⟨g,hn,l,w⟩
  refine⟨g,hn,fun i m=>?_⟩
  obtain⟨o,d,t,q,u⟩:=l i m;have h:(S i).ln.toNat<p.n:=by unfold In at d;omega
  have v:=(g.2 _ h).2;have e:(S i).ln=((S i).ln.toNat:Int):=by unfold In at d;omega
  refine⟨u,o,t,⟨q.1,?_⟩,d,q.2,?_⟩
  ·unfold In at v q;omega
  ·have a:=w _ h
   have b:=left_mono p S (S i).ln.toNat (i+1) n (by omega) (fun j x=>(l j x).2.2.1)
   rw[zcC p S i _ e] at b
   omega
 ·rintro⟨g,hn,l⟩
  have s:∀ i,i<=n->∀ k,k<p.n->0<=Zy p S i k:=by
   intro i
   induction i with
   | zero=>intro _ k r;rw[left_0];have:=(g.2 k r).1;unfold In at this;omega
   | succ i ih =>
    intro m k r;have y:=ih (by omega) k r
    have f:=(l i (by omega)).2
    by_cases c:(S i).ln=(k:Int)
    ·rw[zcC p S i k c]
     have:=f.room;rw[c] at this;simp at this
     omega
    ·rw[zdY p S i k c];exact y
  refine⟨g,hn,fun i m=>?_,s n (Nat.le_refl _)⟩
  obtain⟨o,d⟩:=l i m;exact⟨d.who,d.ln,d.len,⟨d.hei.1,d.high⟩,o⟩
theorem zaf.lens {p:zP}{n:Nat}{S:Nat->qW}(h:zaf p n S):∀ j,j<n->In (S j).len 1 2000:=fun j a=>(h.2.2 j a).2.len
theorem zcD {p:zP}{n:Nat}{S:Nat->qW}{k:Nat}(c:zdi p)(hn:n<=60)(hl:∀ j,j<n->In (S j).len 1 2000)(d:k<p.n):-120000<=Zy p S n k/\Zy p S n k<=5000:=by
 have a:=(c.2 k d).1;have b:=zfR S k n hl;unfold In at a;unfold Zy
 omega
def qj (p:zP)(S:Nat->qW)(i k:Nat):Int:=if k<p.n then Zy p S i k else 0
theorem freeAt_0 (p:zP)(S:Nat->qW)(k:Nat):qj p S 0 k=upto p.n p.A 0 k:=by
 unfold qj upto;rw[left_0]
theorem zfS (p:zP)(S:Nat->qW)(i m j:Nat)(a:m<p.n)(h:(S i).ln=(m:Int)):(if j=m then qj p S i m - (S i).len else qj p S i j)=qj p S (i+1) j:=by
 unfold qj
 by_cases e:j=m
 ·subst e;rw[if_pos rfl,if_pos a,if_pos a,zcC p S i j h]
 ·rw[if_neg e,zdY p S i j (fun c=>e (by omega))]
theorem zeV {p:zP}{S:Nat->qW}{i:Nat}{s:qW}:Fits p (qj p S i) s↔Fits p (Zy p S i) s:=by
 constructor
 ·rintro⟨a,b,c,d,e,f⟩
  refine⟨a,b,c,d,e,?_⟩;have:qj p S i s.ln.toNat=Zy p S i s.ln.toNat:=if_pos (by unfold In at d;omega)
  rw[← this];exact f
 ·rintro⟨a,b,c,d,e,f⟩
  refine⟨a,b,c,d,e,?_⟩;have:qj p S i s.ln.toNat=Zy p S i s.ln.toNat:=if_pos (by unfold In at d;omega)
  rw[this];exact f
theorem zdZ {p:zP}{n:Nat}{S:Nat->qW}(k:Nat)(a:zdi p)(hn:n<=60)(hl:∀ j,j<n->In (S j).len 1 2000):-120000<=qj p S n k/\qj p S n k<=5000:=by
 unfold qj
 split
 ·exact zcD a hn hl (by assumption)
 ·omega
def Qk (p:zP)(F:Nat->Int)(len hei:Int)(k:Nat):Prop:=k<p.n/\(hei<=p.B k/\len<=F k)/\∀ j,j<k->¬ (hei<=p.B j/\len<=F j)
theorem zea {p:zP}{F:Nat->Int}{len hei:Int}{k j:Nat}(a:Qk p F len hei k)(b:Qk p F len hei j):k=j:=by
 by_cases c:k<j
 ·exact absurd a.2.1 (b.2.2 k c)
 ·by_cases c2:j<k
  ·exact absurd b.2.1 (a.2.2 j c2)
  ·omega
def Places (p:zP)(n:Nat)(S:Nat->qW)(x len hei:Int)(k:Nat):Prop :=
 zaf p n S/\n≠60/\¬ Has (Zb S) n x/\In x 1 9999/\In len 1 2000/\In hei 1 500/\Qk p (Zy p S n) len hei k
def Zi (S:Nat->qW)(r:Nat)(i:Nat):qW:=if i<r then S i else S (i+1)
section
open Go.RowKit
def Zh (S:Nat->qH)(j:Nat):Int:=(S j).who
def Zz (S:Nat->qH)(k:Nat):Nat->Int
 | 0=>0
 | i+1=>Zz S k i+(if (S i).cab=(k:Int) then (S i).many else 0)
def qk (p:zP)(S:Nat->qH)(i:Nat)(k:Nat):Int:=p.B k - Zz S k i
theorem zeb (p:zP)(S:Nat->qH)(k:Nat):qk p S 0 k=p.B k:=by unfold qk Zz;omega
theorem zaI (p:zP)(S:Nat->qH)(i k:Nat)(h:(S i).cab=(k:Int)):qk p S (i+1) k=qk p S i k - (S i).many:=by
 unfold qk;rw[Zz,if_pos h];omega
theorem zcq (p:zP)(S:Nat->qH)(i k:Nat)(h:(S i).cab≠(k:Int)):qk p S (i+1) k=qk p S i k:=by
 unfold qk;rw[Zz,if_neg h];omega
theorem zeW (S:Nat->qH)(k i:Nat)(h:∀ j,j<i->In (S j).many 1 4):0<=Zz S k i/\Zz S k i<=4*i:=by
 induction i with
 | zero=>exact⟨Int.le_refl _,by unfold Zz;omega⟩
 | succ i ih =>
  have:=ih (fun j hj=>h j (by omega))
  have a:=h i (by omega)
  unfold In at a;unfold Zz
  split <;> omega
theorem zbK (p:zP)(S:Nat->qH)(k i n:Nat)(a:i<=n)(h:∀ j,j<n->In (S j).many 1 4):qk p S n k<=qk p S i k:=by
 induction n with
 | zero=>rw[show i=0 by omega];exact Int.le_refl _
 | succ n ih =>
  by_cases e:i=n+1
  ·rw[e];exact Int.le_refl _
  ·have:=ih (by omega) (fun j hj=>h j (by omega))
   have hn:=h n (by omega)
   unfold In at hn
   by_cases c:(S n).cab=(k:Int)
   ·rw[zaI p S n k c];omega
   ·rw[zcq p S n k c];exact this
def zdj (p:zP):Prop:=Qj p 6 1 3 1 4
def OkR0 (p:zP)(S:Nat->qH)(i:Nat):Prop:=In (S i).who 1 9999/\¬ Has (Zh S) i (S i).who/\In (S i).cab 0 ((p.n:Int) - 1)/\In (S i).many 1 4/\((S i).all=true->(S i).many=p.B (S i).cab.toNat)
def OkR2 (S:Nat->qH)(i j:Nat):Prop:=(S j).cab=(S i).cab->(S j).all=false/\(S i).all=false
def OkR (p:zP)(S:Nat->qH)(i:Nat):Prop:=OkR0 p S i/\∀ j,j<i->OkR2 S i j
def qX (p:zP)(n:Nat)(S:Nat->qH):Prop:=zdj p/\n<=60/\(∀ i,i<n->OkR p S i)/\∀ k,k<p.n->0<=qk p S n k
theorem qX.manys {p:zP}{n:Nat}{S:Nat->qH}(h:qX p n S):∀ j,j<n->In (S j).many 1 4:=fun j a=>(h.2.2.1 j a).1.2.2.2.1
theorem zca {p:zP}{n:Nat}{S:Nat->qH}{k:Nat}(c:zdj p)(hn:n<=60)(hl:∀ j,j<n->In (S j).many 1 4)(d:k<p.n):-240<=qk p S n k/\qk p S n k<=4:=by
 have a:=(c.2 k d).2;have b:=zeW S k n hl;unfold In at a;unfold qk
 omega
open Classical in
noncomputable def zbL (p:zP)(n:Nat)(S:Nat->qH):Bool:=decide (qX p n S)
noncomputable def QY (p:zP)(n:Nat)(S:Nat->qH):Nat:=if zbL p n S then p.n else 0
theorem zaX {p:zP}{n:Nat}{S:Nat->qH}(h:qX p n S):zbL p n S=true:=by unfold zbL;simpa using h
theorem zdA {p:zP}{n:Nat}{S:Nat->qH}(h:¬ qX p n S):zbL p n S=false:=by unfold zbL;simpa using h
theorem zbq {p:zP}{n:Nat}{S:Nat->qH}(h:qX p n S):QY p n S=p.n:=by unfold QY;rw[zaX h];rfl
theorem zeX {p:zP}{n:Nat}{S:Nat->qH}(h:¬ qX p n S):QY p n S=0:=by unfold QY;rw[zdA h];rfl
def zcE (w':World)(base t:Nat)(p:zP)(n:Nat)(S:Nat->qH)(e:Ending):Prop :=
 ∃ v,e=.returned (.tuple #[v,.bool (zbL p n S)])/\w'.ownsRow base t 1 v (QY p n S) (zw (qk p S n) (QY p n S))
theorem zeY {w:World}{base t:Nat}{p:zP}{n:Nat}{S:Nat->qH}(h:¬ qX p n S):zcE w base t p n S (.returned (.tuple #[.slice none 0 0,.bool false])) :=
 ⟨.slice none 0 0,by rw[zdA h],by rw[zeX h];exact⟨rfl,.inl ⟨rfl,rfl⟩⟩⟩
theorem zec {w:World}{base t m:Nat}{p:zP}{n:Nat}{S:Nat->qH}{v:Value}(h:qX p n S)(a:p.n=m)(b:w.ownsRow base t 1 v m (zw (qk p S n) m)):zcE w base t p n S (.returned (.tuple #[v,.bool true])) :=
 ⟨v,by rw[zaX h],by rw[zbq h,a];exact b⟩
def zag (m:Nat)(P:Nat->Prop)(k:Nat):Prop:=k<m/\P k/\∀ j,j<k->¬ P j
theorem zfT {m:Nat}{P:Nat->Prop}{k j:Nat}(a:zag m P k)(b:zag m P j):k=j:=by
 by_cases c:k<j
 ·exact absurd a.2.1 (b.2.2 k c)
 ·by_cases c2:j<k
  ·exact absurd b.2.1 (a.2.2 j c2)
  ·omega
def zaR (p:zP)(n:Nat)(S:Nat->qH)(cl q:Int)(k:Nat):Prop:=p.A k=cl/\qk p S n k=p.B k/\(q<=p.B k∨¬ ∃ j,j<p.n/\p.A j=cl/\q<=p.B j)
def zbr (p:zP)(n:Nat)(S:Nat->qH)(cl q:Int)(k:Nat):Prop:=p.A k=cl/\q<=qk p S n k
end
end Go.Proofs.YtgmdnkngnhkgbaaGreat
