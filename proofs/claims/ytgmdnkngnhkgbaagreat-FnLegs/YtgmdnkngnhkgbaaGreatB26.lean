import Derived.Test.YtgmdnkngnhkgbaaGreatB24
namespace Go.Proofs.YtgmdnkngnhkgbaaGreat
open Go.RowKit
open Go.Value (int)
open Go.IntKind (i64)
set_option maxHeartbeats 64000000
set_option maxRecDepth 1000000
def zdP (a:ByteArray)(t:Int)(fr:ByteArray)(d:Int):Bool:=(fr.toList == a.toList) && decide (t<=d)
theorem Q7 {a fr:ByteArray}{t d:Int}:zdP a t fr d=true↔fr=a/\t<=d:=by
 unfold zdP;rw[Bool.and_eq_true,zbl,decide_eq_true_iff]
theorem zdQ (la:Option Addr)(n o:Nat)(b:ByteArray)(t x d a mo:Int)(fr tt:ByteArray)(lo k:Option Addr)(m1 m2 i j:Nat)(w:World) :
  Calls Tryz.prog 108 #[.agg #[.slice la n o,.string b,int i64 t],.agg #[int i64 x,.string fr,.string tt,int i64 d,int i64 a,.slice lo m1 i,.slice k m2 j,int i64 mo]] w fun e w'=>e=.returned (.bool (zdP b t fr d))/\Below w.heap.size w w':=by
 obtain⟨q,g⟩:∃ q,q=zdP b t fr d:=⟨_,rfl⟩;rw[← g];have f:=hI g;clear g
 by_cases h1:fr=b
 ·have l:(fr.toList == b.toList)=true:=zbl.2 h1
  have c:=hI h1;clear h1
  by_cases h2:t<=d
  ·have m:decide (t<=d)=true:=by simpa using h2
   go_enter Tryz.func108,Tryz.ntmps108;go_wp2;go_ret;exact⟨by rw[f.out,Q7.2 ⟨c.out,h2⟩];rfl,zl (zl bZ _) _⟩
  ·have m:decide (t<=d)=false:=by simpa using h2
   go_enter Tryz.func108,Tryz.ntmps108;go_wp2;go_ret;exact⟨by rw[f.out,show zdP b t fr d=false from Bool.eq_false_iff.2 (fun h=>by have:=(Q7.1 h).2;omega)];rfl,zl (zl bZ _) _⟩
 ·have l:(fr.toList == b.toList)=false:=zcp.2 h1
  have c:=hI h1;clear h1;go_enter Tryz.func108,Tryz.ntmps108;go_wp2;go_ret;exact⟨by rw[f.out,Bool.eq_false_iff.2 (fun h=>c.out (Q7.1 h).1)];rfl,zl (zl bZ _) _⟩
theorem with_any (la:Option Addr)(n g:Nat)(G:List Int)(u:ByteArray)(t x d a mo:Int)(fr tt:ByteArray)(lo s:Option Addr)(m1 m2 q r:Nat)(w:World)(hl:G.length=n)(hn:n<=1048576)(P:zX w la n (getI G))(N:la=none->n=0/\g=0) :
  Calls Tryz.prog 109 #[.agg #[.slice la n g,.string u,int i64 t],.agg #[int i64 x,.string fr,.string tt,int i64 d,int i64 a,.slice lo m1 q,.slice s m2 r,int i64 mo]] w fun e w'=>∃ ao c,e=.returned (.agg #[.slice ao (n+1) c,.string tt,int i64 a])/\w'.ownsRow w.heap.size 3 1 (.slice ao (n+1) c) (n+1) (Zt (G++[x]))/\Below w.heap.size w w':=by
 have V:=hI hl;clear hl;go_enter Tryz.func109,Tryz.ntmps109;go_upto_region 1 with fail;have m:(((w.alloc (.cells #[.slice la n g,.string u,int i64 t] 157)).alloc (.cells #[int i64 x,.string fr,.string tt,int i64 d,int i64 a,.slice lo m1 q,.slice s m2 r,int i64 mo] 33)).alloc (.cells #[.slice none 0 0,.string ⟨#[]⟩,int i64 0] 157)).heap[w.heap.size]?=some (.cells #[.slice la n g,.string u,int i64 t] 157 (0,0)):=zc (zc (heap_alloc_new w _) _) _;have h:(((w.alloc (.cells #[.slice la n g,.string u,int i64 t] 157)).alloc (.cells #[int i64 x,.string fr,.string tt,int i64 d,int i64 a,.slice lo m1 q,.slice s m2 r,int i64 mo] 33)).alloc (.cells #[.slice none 0 0,.string ⟨#[]⟩,int i64 0] 157)).heap[w.heap.size+1]?=some (.cells #[int i64 x,.string fr,.string tt,int i64 d,int i64 a,.slice lo m1 q,.slice s m2 r,int i64 mo] 33 (0,0)):=zc (by simpa using heap_alloc_new (w.alloc _) _) _
 have A:(((w.alloc (.cells #[.slice la n g,.string u,int i64 t] 157)).alloc (.cells #[int i64 x,.string fr,.string tt,int i64 d,int i64 a,.slice lo m1 q,.slice s m2 r,int i64 mo] 33)).alloc (.cells #[.slice none 0 0,.string ⟨#[]⟩,int i64 0] 157)).heap[w.heap.size+1+1]?=some (.cells #[.slice none 0 0,.string ⟨#[]⟩,int i64 0] 157 (0,0)):=by simpa using heap_alloc_new ((w.alloc _).alloc _) _
 have k:Below w.heap.size w (((w.alloc (.cells #[.slice la n g,.string u,int i64 t] 157)).alloc (.cells #[int i64 x,.string fr,.string tt,int i64 d,int i64 a,.slice lo m1 q,.slice s m2 r,int i64 mo] 33)).alloc (.cells #[.slice none 0 0,.string ⟨#[]⟩,int i64 0] 157)):=zl (zl (zl bZ _) _) _;have j:(((w.alloc (.cells #[.slice la n g,.string u,int i64 t] 157)).alloc (.cells #[int i64 x,.string fr,.string tt,int i64 d,int i64 a,.slice lo m1 q,.slice s m2 r,int i64 mo] 33)).alloc (.cells #[.slice none 0 0,.string ⟨#[]⟩,int i64 0] 157)).heap.size=w.heap.size+1+1+1:=by simp
 generalize hW:((w.alloc (.cells #[.slice la n g,.string u,int i64 t] 157)).alloc (.cells #[int i64 x,.string fr,.string tt,int i64 d,int i64 a,.slice lo m1 q,.slice s m2 r,int i64 mo] 33)).alloc (.cells #[.slice none 0 0,.string ⟨#[]⟩,int i64 0] 157)=W at m h A k j ⊢;clear hW;have I:=hI j;clear j;have z:Below W.heap.size W (((W.alloc (.cells #[int i64 x] 3)).alloc (.cells #[.slice la n g,.slice (some ⟨W.heap.size,0,none⟩) 1 1] 37)).drew):=(zl (zl (Below.refl _ W) _) _).drew;have E:(((W.alloc (.cells #[int i64 x] 3)).alloc (.cells #[.slice la n g,.slice (some ⟨W.heap.size,0,none⟩) 1 1] 37)).drew).heap[W.heap.size+1]?=some (.cells #[.slice la n g,.slice (some ⟨W.heap.size,0,none⟩) 1 1] 37 (0,0)):=zE (by simpa using heap_alloc_new (W.alloc _) _)
 have F:(((W.alloc (.cells #[int i64 x] 3)).alloc (.cells #[.slice la n g,.slice (some ⟨W.heap.size,0,none⟩) 1 1] 37)).drew).heap[W.heap.size]?=some (.cells #[int i64 x] 3 (0,0)):=zE (zc (heap_alloc_new W _) _);have O:=zgk (W.heap.size+1) W.heap.size la n g G x (((W.alloc (.cells #[int i64 x] 3)).alloc (.cells #[.slice la n g,.slice (some ⟨W.heap.size,0,none⟩) 1 1] 37)).drew) V.out hn E (P.below (zf k z)) (za F 0 _ rfl) N;have U:Hid _:=O;have f:Hid (∀ w',zA W w' (fun b=>b=w.heap.size+1+1)->w'.cell? ⟨w.heap.size,0,none⟩=some (.slice la n g)/\w'.cell? ⟨w.heap.size+1,0,none⟩=some (int i64 x)/\w'.cell? ⟨w.heap.size+1,2,none⟩=some (.string tt)/\w'.cell? ⟨w.heap.size+1,4,none⟩=some (int i64 a)) :=
  fun w' C=>⟨za (C.blk m (by omega)) 0 _ rfl,za (C.blk h (by omega)) 0 _ rfl,za (C.blk h (by omega)) 2 _ rfl,za (C.blk h (by omega)) 4 _ rfl⟩
 have Y:Hid (zA W W.drew (fun b=>b=w.heap.size+1+1)):=zA.of_below bZ.drew
 have Z:Hid (∀ o,zA W (W.alloc o) (fun b=>b=w.heap.size+1+1)):=fun o=>zA.of_below (zl bZ _)
 have J:Hid (∀ o,zA W (W.alloc o).drew (fun b=>b=w.heap.size+1+1)):=fun o=>zA.of_below (zl bZ _).drew
 have K:Hid (∀ o p,zA W ((W.alloc o).alloc p) (fun b=>b=w.heap.size+1+1)):=fun o p=>zA.of_below (zl (zl bZ _) _)
 have D:Hid (∀ o p,zA W ((W.alloc o).alloc p).drew (fun b=>b=w.heap.size+1+1)):=fun o p=>zA.of_below (zl (zl bZ _) _).drew
 have KS:Hid (∀ w',zA W w' (fun b=>b=w.heap.size+1+1)->∀ u1 u2 u3,zA W (((w'.setCell ⟨w.heap.size+1+1,0,none⟩ u1).setCell ⟨w.heap.size+1+1,1,none⟩ u2).setCell ⟨w.heap.size+1+1,2,none⟩ u3) (fun b=>b=w.heap.size+1+1)):=fun w' C u1 u2 u3=>((C.set (a:=⟨w.heap.size+1+1,0,none⟩) rfl _).set (a:=⟨w.heap.size+1+1,1,none⟩) rfl _).set (a:=⟨w.heap.size+1+1,2,none⟩) rfl _
 have Q:=za m 0 _ rfl;have R:=za h 0 _ rfl;have S:=za h 2 _ rfl;have T:=za h 4 _ rfl;have i:=hI z;have X:=hI A;have H:=hI k;clear O E F z m h A k P;go_region_held3 (fun w'=>w'.cell? ⟨w.heap.size,0,none⟩=some (.slice la n g)/\w'.cell? ⟨w.heap.size+1,0,none⟩=some (int i64 x)/\w'.cell? ⟨w.heap.size+1,2,none⟩=some (.string tt)/\w'.cell? ⟨w.heap.size+1,4,none⟩=some (int i64 a))
  (first|with_reducible exact⟨Q,R,S,T⟩|with_reducible exact f.out _ Y.out|with_reducible exact f.out _ (Z.out _)|with_reducible exact f.out _ (J.out _)|with_reducible exact f.out _ (K.out _ _)|with_reducible exact f.out _ (D.out _ _)|with_reducible exact f.out _ (zA.of_below (zf i.out l))|with_reducible exact f.out _ (KS.out _ (zA.of_below (zf i.out l)) _ _ _))
  (first|(go_at_call 121;refine Calls.mono U.out ?_;rintro e w3 ⟨⟨L,M,rfl,ho⟩,l⟩;have B:=zb X.out (zf i.out l);have o0:=za B 0 _ rfl;have o1:=za B 1 _ rfl;have o2:=za B 2 _ rfl;have f0:=ze B 0;have f1:=ze B 1;have f2:=ze B 2))
 go_wp2;clear Q R S T o0 o1 o2 f0 f1 f2;have y:w.heap.size+1+1<(((W.alloc (.cells #[int i64 x] 3)).alloc (.cells #[.slice la n g,.slice (some ⟨W.heap.size,0,none⟩) 1 1] 37)).drew).heap.size:=by
  have h1:=i.out.size;have h2:=I.out
  omega
 have rF:=zt (zt (zt B 0 (.slice L (n+1) M)) 1 (.string tt)) 2 (int i64 a);obtain⟨y0,y1,y2⟩:=ce3 rF;refine bodyPost_ret (v:=.agg #[.slice L (n+1) M,.string tt,int i64 a]) (by simp[results,Tryz.results109,go_sem,y0,y1,y2]) rfl ⟨L,M,rfl,?_,?_⟩
 ·exact zC (own_set (own_set (own_set ho (by show w.heap.size+1+1<_;exact y) _) (by show w.heap.size+1+1<_;exact y) _) (by show w.heap.size+1+1<_;exact y) _) (by omega)
 ·have hb:=zf H.out (zf i.out l)
  exact((hb.setCell (by show w.heap.size<=w.heap.size+1+1;omega) _).setCell (by show w.heap.size<=w.heap.size+1+1;omega) _).setCell (by show w.heap.size<=w.heap.size+1+1;omega) _
/-- findSailing: where the first sailing with the Id stands, and whether there is one. -/
theorem QG (m:Option Addr)(N c:Nat)(S:Nat->Sail)(x:Int)(w:World)(hN:N<=1048576)(A:SailsAt w m N S) :
  Calls Tryz.prog 23 #[.slice m N c,int i64 x] w fun e w'=>((zH S x N<N/\e=.returned (.tuple #[int i64 (zH S x N),.bool true]))∨(zH S x N=N/\e=.returned (.tuple #[int i64 0,.bool false])))/\Below w.heap.size w w':=by
 go_enter Tryz.func23,Tryz.ntmps23;go_wp2;go_loopw [6,7,10] (fun _ _ i wr=>∃ k:Nat,k<=N/\i=int i64 k/\(∀ j,j<k->(S j).id≠x)/\Below w.heap.size w wr) (fun _ _ i _=>N - (intOf i).toNat)
 case atStart=>exact⟨0,Nat.zero_le _,rfl,fun j z=>by omega,bZ⟩
 case round =>
  obtain⟨k,hk,rfl,d,a⟩:=hrel;have h:=hI d;clear d
  by_cases hlt:k<N
  ·obtain⟨b,off,la,lc,ca,cc,rfl,n,l,o,q,r,s,t,h7,_,_,_,_⟩:=A k hlt
   have f:=World.block_lt_of_cell? w _ l;have c0:=(a.cell (p:=⟨b,off+k*8,none⟩) f).trans n;have c1:=(a.cell (p:=⟨b,off+k*8+1,none⟩) f).trans l;have c2:=(a.cell (p:=⟨b,off+k*8+2,none⟩) f).trans o;have c3:=(a.cell (p:=⟨b,off+k*8+3,none⟩) f).trans q;have c4:=(a.cell (p:=⟨b,off+k*8+4,none⟩) f).trans r;have c5:=(a.cell (p:=⟨b,off+k*8+5,none⟩) f).trans s;have c6:=(a.cell (p:=⟨b,off+k*8+6,none⟩) f).trans t;have c7:=(a.cell (p:=⟨b,off+k*8+7,none⟩) f).trans h7;clear n l o q r s t h7
   by_cases he:(S k).id=x
   ·have y:((S k).id == x)=true:=by simpa using he
    have g:=hI (zeT hlt he h.out);clear he;go_wp2;exact bodyPost_ret (v:=.tuple #[int i64 k,.bool true]) (by simp[results,Tryz.results23,go_sem]) rfl ⟨.inl ⟨by rw[g.out];exact hlt,by rw[g.out]⟩,zl a _⟩
   ·have y:((S k).id == x)=false:=by simpa using he
    have u:=hI he;clear he;go_wp2;go_roundw
    case rel=>exact⟨k+1,by omega,by go_num,fun j z=>by
     by_cases e:j=k
     ·subst e;exact u.out
     ·exact h.out j (by omega),zl a _⟩
    case measure=>simp[intOf];omega
  ·obtain rfl:k=N:=by omega
   have g:=hI (zcA h.out);go_wp2;exact bodyPost_ret (v:=.tuple #[int i64 0,.bool false]) (by simp[results,Tryz.results23,go_sem]) rfl ⟨.inr ⟨g.out,rfl⟩,a⟩
section
open Go.RowKit
end
theorem zda (c d f x:Int)(g:Bool)(a:Nat)(w:World)(i:w.cell? ⟨a,0,none⟩=some (int i64 x)) :
  Calls Tryz.prog 92 #[.agg #[int i64 c,int i64 d,int i64 f,.bool g],.pointer (some ⟨a,0,none⟩)] w fun e w'=>e=.returned (.bool (c == x))/\Below w.heap.size w w':=by
 have b:=World.block_lt_of_cell? w _ i;have h:¬ a=w.heap.size:=by have:a<w.heap.size:=b;omega
 go_enter Tryz.func92,Tryz.ntmps92;go_wp2;go_ret;exact⟨rfl,zl bZ _⟩
theorem zeA (t:Option Addr)(n c:Nat)(S:Nat->qH)(x:Int)(g:Nat)(w:World)(hn:n<=1048576)(C:qo w t n S)(r:w.cell? ⟨g,0,none⟩=some (int i64 x)) :
  Calls Tryz.prog 91 #[.slice t n c,.func (.func 92) #[] #[.pointer (some ⟨g,0,none⟩)]] w fun e w'=>e=.returned (int i64 (qL (Zh S) x n))/\Below w.heap.size w w':=by
 have q:=World.block_lt_of_cell? w _ r;go_enter Tryz.func91,Tryz.ntmps91;go_wp2;go_loopw [5,8] (fun _ i wr=>∃ k:Nat,k<=n/\i=int i64 k/\(∀ j,j<k->Zh S j≠x)/\Below w.heap.size w wr) (fun _ i _=>n - (intOf i).toNat)
 case atStart=>exact⟨0,Nat.zero_le _,rfl,fun j B=>by omega,bZ⟩
 case round =>
  obtain⟨k,hk,rfl,d,a⟩:=hrel;have l:=hI d;clear d
  by_cases hlt2:k<n
  ·obtain⟨b,off,rfl,o,u,v,y⟩:=C k hlt2
   have h:=World.block_lt_of_cell? w _ o;have c0:=(a.cell (p:=⟨b,off+k*4,none⟩) h).trans o;have c1:=(a.cell (p:=⟨b,off+k*4+1,none⟩) h).trans u;have c2:=(a.cell (p:=⟨b,off+k*4+2,none⟩) h).trans v;have c3:=(a.cell (p:=⟨b,off+k*4+3,none⟩) h).trans y;have s:Hid (wr.cell? ⟨g,0,none⟩=some (int i64 x)):=(a.cell (p:=⟨g,0,none⟩) q).trans r;clear o u v y r
   by_cases he:Zh S k=x
   ·have A:((S k).who == x)=true:=by unfold Zh at he;simpa using he
    have m:Hid (qL (Zh S) x n=k):=by
     have:ZC (Zh S) x n=k:=zbJ hlt2 he l.out;unfold qL Hid;rw[this,if_pos hlt2]
    clear he;go_wp2_with (first|(go_at_call 92;refine(zda _ _ _ x _ g _ s.out).mono ?_;rintro e D ⟨rfl,f⟩))
    go_ret;exact⟨by rw[m.out];rfl,zf a f⟩
   ·have A:((S k).who == x)=false:=by unfold Zh at he;simpa using he
    have z:=hI he;clear he;go_wp2_with (first|(go_at_call 92;refine(zda _ _ _ x _ g _ s.out).mono ?_;rintro e D ⟨rfl,f⟩))
    go_roundw
    case rel=>exact⟨k+1,by omega,by go_num,fun j B=>by
     by_cases e:j=k
     ·subst e;exact z.out
     ·exact l.out j (by omega),zf a f⟩
    case measure=>simp[intOf];omega
  ·obtain rfl:k=n:=by omega
   have m:=hI (QL (zaB l.out));go_wp2;go_ret;exact⟨by rw[m.out];rfl,a⟩
/-- roomOf: where the stay of the by stands, -1 Zi one. -/
theorem Qx (b:Option Addr)(n c:Nat)(S:Nat->qH)(x:Int)(w:World)(hn:n<=1048576)(j:qo w b n S) :
  Calls Tryz.prog 57 #[.slice b n c,int i64 x] w fun e w'=>e=.returned (int i64 (qL (Zh S) x n))/\Below w.heap.size w w':=by
 have a:Below w.heap.size w (w.alloc (.cells #[int i64 x] 3)):=zl bZ _;have h:=hI (j.below a);have g:Hid ((w.alloc (.cells #[int i64 x] 3)).cell? ⟨w.heap.size,0,none⟩=some (int i64 x)):=za (heap_alloc_new w _) 0 _ rfl;have i:∀ (f:Fn) (first cap:Array Value) (w:World),(Instr.makeFunc f first cap).run Tryz.prog w=.ok (.func f first cap) w:=fun _ _ _ _=>rfl
 go_enter Tryz.func57,Tryz.ntmps57;go_wp2_with (first|(go_at_call 91;refine(zeA b n c S x _ _ hn h.out g.out).mono ?_;rintro e w2 ⟨rfl,d⟩))
 go_ret;exact⟨rfl,zf a d⟩
theorem zdb (c d x:Int)(a:Nat)(w:World)(g:w.cell? ⟨a,0,none⟩=some (int i64 x)) :
  Calls Tryz.prog 113 #[.agg #[int i64 c,int i64 d],.pointer (some ⟨a,0,none⟩)] w fun e w'=>e=.returned (.bool (c == x))/\Below w.heap.size w w':=by
 have b:=World.block_lt_of_cell? w _ g;have f:¬ a=w.heap.size:=by have:a<w.heap.size:=b;omega
 go_enter Tryz.func113,Tryz.ntmps113;go_wp2;go_ret;exact⟨rfl,zl bZ _⟩
theorem zeB (s:Option Addr)(n c:Nat)(S:Nat->Qo)(x:Int)(g:Nat)(w:World)(hn:n<=1048576)(A:qx w s n S)(q:w.cell? ⟨g,0,none⟩=some (int i64 x)) :
  Calls Tryz.prog 112 #[.slice s n c,.func (.func 113) #[] #[.pointer (some ⟨g,0,none⟩)]] w fun e w'=>e=.returned (int i64 (qL (ZG S) x n))/\Below w.heap.size w w':=by
 have o:=World.block_lt_of_cell? w _ q;go_enter Tryz.func112,Tryz.ntmps112;go_wp2;go_loopw [5,8] (fun _ i wr=>∃ k:Nat,k<=n/\i=int i64 k/\(∀ j,j<k->ZG S j≠x)/\Below w.heap.size w wr) (fun _ i _=>n - (intOf i).toNat)
 case atStart=>exact⟨0,Nat.zero_le _,rfl,fun j z=>by omega,bZ⟩
 case round =>
  obtain⟨k,hk,rfl,d,a⟩:=hrel;have h:=hI d;clear d
  by_cases hlt2:k<n
  ·obtain⟨b,off,rfl,m,t⟩:=A k hlt2
   have u:=World.block_lt_of_cell? w _ m;have c0:=(a.cell (p:=⟨b,off+k*2,none⟩) u).trans m;have c1:=(a.cell (p:=⟨b,off+k*2+1,none⟩) u).trans t;have r:Hid (wr.cell? ⟨g,0,none⟩=some (int i64 x)):=(a.cell (p:=⟨g,0,none⟩) o).trans q;clear m t q
   by_cases he:ZG S k=x
   ·have y:((S k).who == x)=true:=by unfold ZG at he;simpa using he
    have l:Hid (qL (ZG S) x n=k):=by
     have:ZC (ZG S) x n=k:=zbJ hlt2 he h.out;unfold qL Hid;rw[this,if_pos hlt2]
    clear he;go_wp2_with (first|(go_at_call 113;refine(zdb _ _ x g _ r.out).mono ?_;rintro e B ⟨rfl,f⟩))
    go_ret;exact⟨by rw[l.out];rfl,zf a f⟩
   ·have y:((S k).who == x)=false:=by unfold ZG at he;simpa using he
    have v:=hI he;clear he;go_wp2_with (first|(go_at_call 113;refine(zdb _ _ x g _ r.out).mono ?_;rintro e B ⟨rfl,f⟩))
    go_roundw
    case rel=>exact⟨k+1,by omega,by go_num,fun j z=>by
     by_cases e:j=k
     ·subst e;exact v.out
     ·exact h.out j (by omega),zf a f⟩
    case measure=>simp[intOf];omega
  ·obtain rfl:k=n:=by omega
   have l:=hI (QL (zaB h.out));go_wp2;go_ret;exact⟨by rw[l.out];rfl,a⟩
/-- seatOf: where the stay of the by stands, -1 Zi one. -/
theorem zaO (b:Option Addr)(n c:Nat)(S:Nat->Qo)(x:Int)(w:World)(hn:n<=1048576)(j:qx w b n S) :
  Calls Tryz.prog 85 #[.slice b n c,int i64 x] w fun e w'=>e=.returned (int i64 (qL (ZG S) x n))/\Below w.heap.size w w':=by
 have a:Below w.heap.size w (w.alloc (.cells #[int i64 x] 3)):=zl bZ _;have h:=hI (j.below a);have g:Hid ((w.alloc (.cells #[int i64 x] 3)).cell? ⟨w.heap.size,0,none⟩=some (int i64 x)):=za (heap_alloc_new w _) 0 _ rfl;have i:∀ (f:Fn) (first cap:Array Value) (w:World),(Instr.makeFunc f first cap).run Tryz.prog w=.ok (.func f first cap) w:=fun _ _ _ _=>rfl
 go_enter Tryz.func85,Tryz.ntmps85;go_wp2_with (first|(go_at_call 112;refine(zeB b n c S x _ _ hn h.out g.out).mono ?_;rintro e w2 ⟨rfl,d⟩))
 go_ret;exact⟨rfl,zf a d⟩
theorem zgo (many cl be free:Int)(w:World) :
  Calls Tryz.prog 156 #[.agg #[int i64 many],.agg #[int i64 cl,int i64 be],int i64 free] w fun e w'=>e=.returned (.tuple #[.agg #[int i64 0,int i64 0,int i64 many,.bool false],.bool (decide (In many 1 free))])/\Below w.heap.size w w':=by
 go_enter Tryz.func156,Tryz.ntmps156;go_upto_region 1 with fail;go_region_with (first|(go_at_call 74;refine sC (zM _ _ _ _) ?_))
 all_goals
  have a:(((w.alloc (.cells #[int i64 many] 191)).alloc (.cells #[int i64 cl,int i64 be] 96)).alloc (.cells #[int i64 0,int i64 0,int i64 many,.bool false] 93)).drew.heap[w.heap.size+1+1]?=some (.cells #[int i64 0,int i64 0,int i64 many,.bool false] 93 (0,0)):=by
   have:=heap_alloc_new ((w.alloc (.cells #[int i64 many] 191)).alloc (.cells #[int i64 cl,int i64 be] 96)) (.cells #[int i64 0,int i64 0,int i64 many,.bool false] 93);rw[World.size_alloc,World.size_alloc] at this;exact zE this
  obtain⟨c,d,f,g⟩:=ce4 a;have b:Hid (Below w.heap.size w (((w.alloc (.cells #[int i64 many] 191)).alloc (.cells #[int i64 cl,int i64 be] 96)).alloc (.cells #[int i64 0,int i64 0,int i64 many,.bool false] 93)).drew):=(zl (zl (zl bZ _) _) _).drew;clear a;generalize (((w.alloc (.cells #[int i64 many] 191)).alloc (.cells #[int i64 cl,int i64 be] 96)).alloc (.cells #[int i64 0,int i64 0,int i64 many,.bool false] 93)).drew=W at *;go_wp2;exact bodyPost_ret (v:=.tuple #[.agg #[int i64 0,int i64 0,int i64 many,.bool false],.bool (decide (In many 1 free))]) (by simp[results,Tryz.results156,go_sem,c,d,f,g]) rfl ⟨rfl,b.out⟩
theorem zgp (a cl be free:Int)(w:World) :
  Calls Tryz.prog 155 #[.agg #[int i64 a],.agg #[int i64 cl,int i64 be],int i64 free] w fun e w'=>e=.returned (.tuple #[.agg #[int i64 0,int i64 0,int i64 be,.bool true],.bool (decide (free=be/\a<=be))])/\Below w.heap.size w w':=by
 by_cases h:free=be
 ·have k:(free == be)=true:=by simpa using h
  by_cases h2:a<=be
  ·have l:decide (a<=be)=true:=decide_eq_true h2
   have d:Hid (decide (free=be/\a<=be)=true):=decide_eq_true ⟨h,h2⟩;clear h h2;go_enter Tryz.func155,Tryz.ntmps155;go_upto_region 1 with fail;go_region
   all_goals
    have b:(((w.alloc (.cells #[int i64 a] 189)).alloc (.cells #[int i64 cl,int i64 be] 96)).alloc (.cells #[int i64 0,int i64 0,int i64 be,.bool true] 93)).drew.heap[w.heap.size+1+1]?=some (.cells #[int i64 0,int i64 0,int i64 be,.bool true] 93 (0,0)):=by
     have:=heap_alloc_new ((w.alloc (.cells #[int i64 a] 189)).alloc (.cells #[int i64 cl,int i64 be] 96)) (.cells #[int i64 0,int i64 0,int i64 be,.bool true] 93);rw[World.size_alloc,World.size_alloc] at this;exact zE this
    obtain⟨f,g,i,j⟩:=ce4 b;have c:Hid (Below w.heap.size w (((w.alloc (.cells #[int i64 a] 189)).alloc (.cells #[int i64 cl,int i64 be] 96)).alloc (.cells #[int i64 0,int i64 0,int i64 be,.bool true] 93)).drew):=(zl (zl (zl bZ _) _) _).drew;clear b;generalize (((w.alloc (.cells #[int i64 a] 189)).alloc (.cells #[int i64 cl,int i64 be] 96)).alloc (.cells #[int i64 0,int i64 0,int i64 be,.bool true] 93)).drew=W at *;go_wp2;exact bodyPost_ret (v:=.tuple #[.agg #[int i64 0,int i64 0,int i64 be,.bool true],.bool true]) (by simp[results,Tryz.results155,go_sem,f,g,i,j]) rfl ⟨by rw[d.out],c.out⟩
  ·have l:decide (a<=be)=false:=decide_eq_false h2
   have d:Hid (decide (free=be/\a<=be)=false):=decide_eq_false (fun q=>h2 q.2)
   clear h h2;go_enter Tryz.func155,Tryz.ntmps155;go_upto_region 1 with fail;go_region
   all_goals
    have b:(((w.alloc (.cells #[int i64 a] 189)).alloc (.cells #[int i64 cl,int i64 be] 96)).alloc (.cells #[int i64 0,int i64 0,int i64 be,.bool true] 93)).drew.heap[w.heap.size+1+1]?=some (.cells #[int i64 0,int i64 0,int i64 be,.bool true] 93 (0,0)):=by
     have:=heap_alloc_new ((w.alloc (.cells #[int i64 a] 189)).alloc (.cells #[int i64 cl,int i64 be] 96)) (.cells #[int i64 0,int i64 0,int i64 be,.bool true] 93);rw[World.size_alloc,World.size_alloc] at this;exact zE this
    obtain⟨f,g,i,j⟩:=ce4 b;have c:Hid (Below w.heap.size w (((w.alloc (.cells #[int i64 a] 189)).alloc (.cells #[int i64 cl,int i64 be] 96)).alloc (.cells #[int i64 0,int i64 0,int i64 be,.bool true] 93)).drew):=(zl (zl (zl bZ _) _) _).drew;clear b;generalize (((w.alloc (.cells #[int i64 a] 189)).alloc (.cells #[int i64 cl,int i64 be] 96)).alloc (.cells #[int i64 0,int i64 0,int i64 be,.bool true] 93)).drew=W at *;go_wp2;exact bodyPost_ret (v:=.tuple #[.agg #[int i64 0,int i64 0,int i64 be,.bool true],.bool false]) (by simp[results,Tryz.results155,go_sem,f,g,i,j]) rfl ⟨by rw[d.out],c.out⟩
 ·have k:(free == be)=false:=by simpa using h
  have d:Hid (decide (free=be/\a<=be)=false):=decide_eq_false (fun q=>h q.1)
  clear h;go_enter Tryz.func155,Tryz.ntmps155;go_upto_region 1 with fail;go_region
  all_goals
   have b:(((w.alloc (.cells #[int i64 a] 189)).alloc (.cells #[int i64 cl,int i64 be] 96)).alloc (.cells #[int i64 0,int i64 0,int i64 be,.bool true] 93)).drew.heap[w.heap.size+1+1]?=some (.cells #[int i64 0,int i64 0,int i64 be,.bool true] 93 (0,0)):=by
    have:=heap_alloc_new ((w.alloc (.cells #[int i64 a] 189)).alloc (.cells #[int i64 cl,int i64 be] 96)) (.cells #[int i64 0,int i64 0,int i64 be,.bool true] 93);rw[World.size_alloc,World.size_alloc] at this;exact zE this
   obtain⟨f,g,i,j⟩:=ce4 b;have c:Hid (Below w.heap.size w (((w.alloc (.cells #[int i64 a] 189)).alloc (.cells #[int i64 cl,int i64 be] 96)).alloc (.cells #[int i64 0,int i64 0,int i64 be,.bool true] 93)).drew):=(zl (zl (zl bZ _) _) _).drew;clear b;generalize (((w.alloc (.cells #[int i64 a] 189)).alloc (.cells #[int i64 cl,int i64 be] 96)).alloc (.cells #[int i64 0,int i64 0,int i64 be,.bool true] 93)).drew=W at *;go_wp2;exact bodyPost_ret (v:=.tuple #[.agg #[int i64 0,int i64 0,int i64 be,.bool true],.bool false]) (by simp[results,Tryz.results155,go_sem,f,g,i,j]) rfl ⟨by rw[d.out],c.out⟩
theorem nilB (many : Int) (w : World) : (nilAhead 311 191 (.agg #[.int .i64 many]) "loop.example/g00084/impl.roomIn").run Tryz.prog w = .ok (some false) w := by kernel_rfl
theorem nilW (least : Int) (w : World) : (nilAhead 311 189 (.agg #[.int .i64 least]) "loop.example/g00084/impl.roomIn").run Tryz.prog w = .ok (some false) w := by kernel_rfl
theorem methB (many : Int) (w : World) : (method 311 191 (.agg #[.int .i64 many]) "loop.example/g00084/impl.roomIn").run Tryz.prog w = .ok (156, .agg #[.int .i64 many]) w := by kernel_rfl
theorem methW (least : Int) (w : World) : (method 311 189 (.agg #[.int .i64 least]) "loop.example/g00084/impl.roomIn").run Tryz.prog w = .ok (155, .agg #[.int .i64 least]) w := by kernel_rfl
theorem zfH (x c many:Int)(all:Bool)(w:World) :
  Calls Tryz.prog 120 #[.agg #[int i64 x,int i64 c,int i64 many,.bool all]] w fun e w'=>e=.returned (if all then .iface 189 (.agg #[int i64 0]) else .iface 191 (.agg #[int i64 many]))/\Below w.heap.size w w':=by
 cases all with
 | false =>
  go_enter Tryz.func120,Tryz.ntmps120;go_wp2;go_ret;exact⟨rfl,zl bZ _⟩
 | true =>
  go_enter Tryz.func120,Tryz.ntmps120;go_wp2;go_ret;exact⟨rfl,zl bZ _⟩
end Go.Proofs.YtgmdnkngnhkgbaaGreat
