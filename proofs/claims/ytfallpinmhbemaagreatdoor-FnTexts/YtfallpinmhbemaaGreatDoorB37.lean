/-
  OWN TEXT: ImplCab, ImplS2, ImplS3, SailI, SpecSt1.
-/
import Derived.Deep.RegionHeld3
import Derived.Test.YtfallpinmhbemaaGreatDoorB36
namespace Go.Proofs.YtfallpinmhbemaaGreatDoor
open Go.RowKit
open Go.Value (int)
open Go.IntKind (i64)
set_option maxHeartbeats 64000000
set_option maxRecDepth 100000
theorem zdR (q:Option Addr)(n c:Nat)(p:qi)(w:World)(hl:p.n=n)(hn:n<=1048576)(x:qd w q p) :
  Calls Tryz.prog 63 #[.slice q n c] w fun e w'=>SaysIf (ZG p 6 1 3 1 4) e/\Below w.heap.size w w':=by
 have f:=hI hl;clear hl
 by_cases h0:n<=6
 ·have r:decide (6<n)=false:=by simp;omega
  go_enter Tryz.func63,Tryz.ntmps63;go_wp2;go_loopw [4,10] (fun _ i y=>∃ k:Nat,k<=n/\i=int i64 k/\(∀ j,j<k->In (p.A j) 1 3/\In (p.B j) 1 4)/\Below w.heap.size w y) (fun _ i _=>n - (intOf i).toNat)
  case atStart=>exact⟨0,Nat.zero_le _,rfl,fun j l=>by omega,bZ⟩
  case round =>
   obtain⟨k,hk,rfl,d,a⟩:=hrel;have o:=hI d;clear d r
   by_cases hlt:k<n
   ·obtain⟨b,off,rfl,m,s⟩:=x k (by rw[f.out];omega)
    have t:=World.block_lt_of_cell? w _ m;have c1:=(a.cell (p:=⟨b,off+k*2,none⟩) t).trans m;have c2:=(a.cell (p:=⟨b,off+k*2+1,none⟩) t).trans s;clear m s
    by_cases g1:In (p.A k) 1 3
    ·have u:decide (In (p.A k) 1 3)=true:=decide_eq_true g1
     by_cases g2:In (p.B k) 1 4
     ·have v:decide (In (p.B k) 1 4)=true:=decide_eq_true g2
      have g:Hid (In (p.A k) 1 3/\In (p.B k) 1 4):=⟨g1,g2⟩;clear g1 g2;go_wp2_with (first|(go_at_call 97;refine sC (QR _ _) ?_)|(go_at_call 98;refine sC (zbi _ _) ?_))
      go_roundw
      case rel=>exact⟨k+1,by omega,by go_num,fun j l=>by
       by_cases e:j=k
       ·subst e;exact g.out
       ·exact o.out j (by omega),zr a _⟩
      case measure=>simp[intOf];omega
     ·have v:decide (In (p.B k) 1 4)=false:=decide_eq_false g2
      have g:=hI g2;clear g1 g2;go_wp2_with (first|(go_at_call 97;refine sC (QR _ _) ?_)|(go_at_call 98;refine sC (zbi _ _) ?_))
      go_ret;exact⟨zC (fun h=>g.out (h.2 k (by rw[f.out];exact hlt)).2),zr a _⟩
    ·have u:decide (In (p.A k) 1 3)=false:=decide_eq_false g1
     have g:=hI g1;clear g1;go_wp2_with (first|(go_at_call 97;refine sC (QR _ _) ?_)|(go_at_call 98;refine sC (zbi _ _) ?_))
     go_ret;exact⟨zC (fun h=>g.out (h.2 k (by rw[f.out];exact hlt)).1),zr a _⟩
   ·obtain rfl:k=n:=by omega
    go_wp2;go_ret;exact⟨says_yes ⟨by rw[f.out];exact h0,fun j l=>o.out j (by rw[f.out] at l;exact l)⟩,a⟩
 ·have r:decide (6<n)=true:=by simp;omega
  go_enter Tryz.func63,Tryz.ntmps63;go_wp2;go_ret;exact⟨zC (fun h=>by have:=h.1;rw[f.out] at this;exact h0 this),bZ⟩
section
open Go.RowKit
end
theorem zdu (x d a mo:Int)(fr tt:ByteArray)(lo r:Option Addr)(n m s t:Nat)(j k:qi)(w:World)(G:j.n=n)(H:k.n=m)(c:fr.size<=1000000000000000)(f:tt.size<=1000000000000000)(hn:n<=1048576)(O:m<=1048576)(P:qd w lo j)(Q:qd w r k) :
  Calls Tryz.prog 24 #[.agg #[int i64 x,.string fr,.string tt,int i64 d,int i64 a,.slice lo n s,.slice r m t,int i64 mo]] w fun e w'=>SaysIf (zU ⟨x,fr,tt,d,a,j,k,mo⟩) e/\Below w.heap.size w w':=by
 have b:Below w.heap.size w (w.alloc (.cells #[int i64 x,.string fr,.string tt,int i64 d,int i64 a,.slice lo n s,.slice r m t,int i64 mo] 37)):=zr bZ _;have D:=heap_alloc_new w (.cells #[int i64 x,.string fr,.string tt,int i64 d,int i64 a,.slice lo n s,.slice r m t,int i64 mo] 37);have L:=hI G;have M:=hI H;clear G H
 by_cases g1:In x 1 99
 case neg =>
  have y:decide (In x 1 99)=false:=by exact decide_eq_false g1
  have g:Hid (¬ zU ⟨x,fr,tt,d,a,j,k,mo⟩):=fun h=>g1 h.1
  clear g1;go_enter Tryz.func24,Tryz.ntmps24;go_wp2_with (first|(go_at_call 60;refine sC (ZC _ _) ?_)|(go_at_call 61;refine sC (Zd _ _ _ c f) ?_)|(go_at_call 31;refine sC (ql _ _ _ _) ?_))
  go_ret;exact⟨zC g.out,b⟩
 have y:decide (In x 1 99)=true:=by exact decide_eq_true g1
 by_cases g2:zaP fr tt
 case neg =>
  have z:decide (zaP fr tt)=false:=by exact decide_eq_false g2
  have g:Hid (¬ zU ⟨x,fr,tt,d,a,j,k,mo⟩):=fun h=>g2 ⟨h.2.1,h.2.2.1,h.2.2.2.1⟩
  clear g1 g2;go_enter Tryz.func24,Tryz.ntmps24;go_wp2_with (first|(go_at_call 60;refine sC (ZC _ _) ?_)|(go_at_call 61;refine sC (Zd _ _ _ c f) ?_)|(go_at_call 31;refine sC (ql _ _ _ _) ?_))
  go_ret;exact⟨zC g.out,b⟩
 have z:decide (zaP fr tt)=true:=by exact decide_eq_true g2
 by_cases g3:0<=d
 case neg =>
  have A:decide (0<=d)=false:=by simpa using g3
  have g:Hid (¬ zU ⟨x,fr,tt,d,a,j,k,mo⟩):=fun h=>g3 h.2.2.2.2.1
  clear g1 g2 g3;go_enter Tryz.func24,Tryz.ntmps24;go_wp2_with (first|(go_at_call 60;refine sC (ZC _ _) ?_)|(go_at_call 61;refine sC (Zd _ _ _ c f) ?_)|(go_at_call 31;refine sC (ql _ _ _ _) ?_))
  go_ret;exact⟨zC g.out,b⟩
 have A:decide (0<=d)=true:=by simpa using g3
 by_cases g4:d<a
 case neg =>
  have B:decide (d<a)=false:=by simpa using g4
  have g:Hid (¬ zU ⟨x,fr,tt,d,a,j,k,mo⟩):=fun h=>g4 h.2.2.2.2.2.1
  clear g1 g2 g3 g4;go_enter Tryz.func24,Tryz.ntmps24;go_wp2_with (first|(go_at_call 60;refine sC (ZC _ _) ?_)|(go_at_call 61;refine sC (Zd _ _ _ c f) ?_)|(go_at_call 31;refine sC (ql _ _ _ _) ?_))
  go_ret;exact⟨zC g.out,b⟩
 have B:decide (d<a)=true:=by simpa using g4
 by_cases g5:a<=10000
 case neg =>
  have C:decide (a<=10000)=false:=by simpa using g5
  have g:Hid (¬ zU ⟨x,fr,tt,d,a,j,k,mo⟩):=fun h=>g5 h.2.2.2.2.2.2.1
  clear g1 g2 g3 g4 g5;go_enter Tryz.func24,Tryz.ntmps24;go_wp2_with (first|(go_at_call 60;refine sC (ZC _ _) ?_)|(go_at_call 61;refine sC (Zd _ _ _ c f) ?_)|(go_at_call 31;refine sC (ql _ _ _ _) ?_))
  go_ret;exact⟨zC g.out,b⟩
 have C:decide (a<=10000)=true:=by simpa using g5
 have l:Hid (In x 1 99/\zaP fr tt/\0<=d/\d<a/\a<=10000):=⟨g1,g2,g3,g4,g5⟩;clear g1 g2 g3 g4 g5;go_enter Tryz.func24,Tryz.ntmps24;go_wp2_with (first|(go_at_call 60;refine sC (ZC _ _) ?_)|(go_at_call 61;refine sC (Zd _ _ _ c f) ?_)|(go_at_call 31;refine sC (ql _ _ _ _) ?_))
 refine(zfn lo n s j _ L.out hn (P.below b)).mono ?_;rintro e w1 ⟨⟨b1,rfl,I⟩,o⟩;have u:=zc D o;have i:=zj b o;have E:=hI I;clear I D b o
 cases b1 with
 | false =>
  go_wp2;go_ret;exact⟨zC (fun h=>by have:=E.out.2 h.2.2.2.2.2.2.2.1;cases this),i⟩
 | true =>
  have R:=za u 6 _ rfl;go_wp2_with fail;refine(zdR r m t k _ M.out O (Q.below i)).mono ?_;rintro e w2 ⟨⟨b2,rfl,J⟩,p⟩;have K:=zc u p;have q:=zj i p;have F:=hI J;clear J u i p R
  cases b2 with
  | false =>
   go_wp2;go_ret;exact⟨zC (fun h=>by have:=F.out.2 h.2.2.2.2.2.2.2.2.1;cases this),q⟩
  | true =>
   have q7:=za K 7 _ rfl
   by_cases g8:In mo 0 500
   ·have N:decide (In mo 0 500)=true:=decide_eq_true g8
    have v:=hI g8;clear g8;go_wp2_with (first|(go_at_call 60;refine sC (ZC _ _) ?_)|(go_at_call 61;refine sC (Zd _ _ _ c f) ?_)|(go_at_call 31;refine sC (ql _ _ _ _) ?_))
    go_ret;exact⟨says_yes ⟨l.out.1,l.out.2.1.1,l.out.2.1.2.1,l.out.2.1.2.2,l.out.2.2.1,l.out.2.2.2.1,l.out.2.2.2.2,E.out.1 (by simp),F.out.1 (by simp),v.out⟩,q⟩
   ·have N:decide (In mo 0 500)=false:=decide_eq_false g8
    have v:=hI g8;clear g8;go_wp2_with (first|(go_at_call 60;refine sC (ZC _ _) ?_)|(go_at_call 61;refine sC (Zd _ _ _ c f) ?_)|(go_at_call 31;refine sC (ql _ _ _ _) ?_))
    go_ret;exact⟨zC (fun h=>v.out h.2.2.2.2.2.2.2.2.2),q⟩
def zcU:ByteArray:=⟨#[115,97,105,108]⟩
def zfo (s:Sail):List ByteArray:=[zcU,qf s.id,s.fr,s.dst,qf s.dep,qf s.arr,qf s.most,qu s.la,qu s.ca]
def QS (s:Sail):ByteArray:=qD spT (zfo s)
noncomputable def zdv (s:Sail):Bool:=by classical exact decide (zU s)
theorem zdw (s:Sail):zdv s=true↔zU s:=by classical exact decide_eq_true_iff
noncomputable def zfp (s:Sail):ByteArray:=if zdv s=true then QS s else ⟨#[]⟩
theorem zdx {s:Sail}(h:¬ zU s):zfp s=⟨#[]⟩/\zdv s=false:=by
 have a:zdv s=false:=Bool.eq_false_iff.2 (fun e=>h ((zdw s).1 e))
 exact⟨by unfold zfp;rw[if_neg (by rw[a];decide)],a⟩
theorem zaw {s:Sail}(h:zU s):zfp s=QS s/\zdv s=true:=by
 have a:zdv s=true:=(zdw s).2 h;exact⟨by unfold zfp;rw[if_pos a],a⟩
theorem zbp {s:Sail}(h:zU s):zcL s.la:=by
 unfold zU ZG at h;obtain⟨_,_,_,_,_,_,_,a,_⟩:=h;refine⟨by omega,fun i b=>?_⟩
 have:=a.2 i b;unfold In at *
 omega
theorem zbq {s:Sail}(h:zU s):zcL s.ca:=by
 unfold zU ZG at h;obtain⟨_,_,_,_,_,_,_,_,a,_⟩:=h;refine⟨by omega,fun i b=>?_⟩
 have:=a.2 i b;unfold In at *
 omega
theorem zbY {s:Sail}(h:zU s):(0<=s.id/\s.id<=1000000)/\(0<=s.dep/\s.dep<=1000000)/\(0<=s.arr/\s.arr<=1000000)/\(0<=s.most/\s.most<=1000000)/\s.fr.size<=12/\s.dst.size<=12:=by
 unfold zU qK In at h
 omega
theorem zev {s:Sail}(h:zU s):(QS s).size<=20000:=by
 have r:=zbY h;have s1:=qh (n:=s.id) (by omega) (by omega)
 have s2:=qh (n:=s.dep) (by omega) (by omega)
 have s3:=qh (n:=s.arr) (by omega) (by omega)
 have s4:=qh (n:=s.most) (by omega) (by omega)
 have s5:=zaL (zbp h);have s6:=zaL (zbq h);have a:∀ (l:List ByteArray) (p:ByteArray),l≠[]->(qD spT (l++[p])).size=(qD spT l).size+1+p.size:=fun l p hl=>by
  rw[ZR spT p hl,ByteArray.size_append,ByteArray.size_append]
  show _+(1+_)=_
  omega
 unfold QS zfo;rw[show[zcU,qf s.id,s.fr,s.dst,qf s.dep,qf s.arr,qf s.most,qu s.la,qu s.ca]=((((((([zcU]++[qf s.id])++[s.fr])++[s.dst])++[qf s.dep])++[qf s.arr])++[qf s.most])++[qu s.la])++[qu s.ca] from rfl,
  a _ _ (by simp),a _ _ (by simp),a _ _ (by simp),a _ _ (by simp),a _ _ (by simp),a _ _ (by simp),a _ _ (by simp),a _ _ (by simp),ZH]
 have:zcU.size=4:=rfl
 omega
def zaT (w:World):Prop:=w.cell? ⟨2,2,none⟩=some (.string zcU)
theorem zaT.below {w w':World}(h:zaT w)(a:Below w.heap.size w w'):zaT w':=(a.cell (World.block_lt_of_cell? w _ h)).trans h
theorem zdy (s:Sail)(lo i:Option Addr)(k l:Nat)(w:World)(B:zU s)(G:qd w lo s.la)(H:qd w i s.ca)(F:Ze w)(E:zaT w) :
  Calls Tryz.prog 25 #[.agg #[int i64 s.id,.string s.fr,.string s.dst,int i64 s.dep,int i64 s.arr,.slice lo s.la.n k,.slice i s.ca.n l,int i64 s.most]] w fun e w'=>∃ v,e=.returned v/\zcZ w' w.heap.size v (zfo s)/\Below w.heap.size w w':=by
 have C:=hI B;have x:Hid _:=zbY B;have g:Hid (qd w lo s.la/\qd w i s.ca/\Ze w):=⟨G,H,F⟩;have c:Below w.heap.size w (w.alloc (.cells #[int i64 s.id,.string s.fr,.string s.dst,int i64 s.dep,int i64 s.arr,.slice lo s.la.n k,.slice i s.ca.n l,int i64 s.most] 37)):=zr bZ _;have A:=heap_alloc_new w (.cells #[int i64 s.id,.string s.fr,.string s.dst,int i64 s.dep,int i64 s.arr,.slice lo s.la.n k,.slice i s.ca.n l,int i64 s.most] 37);have h:=E.below c;unfold zaT at h;clear B G H F E;go_enter Tryz.func25,Tryz.ntmps25;go_upto_region 1 with fail;generalize w.alloc (.cells #[int i64 s.id,.string s.fr,.string s.dst,int i64 s.dep,int i64 s.arr,.slice lo s.la.n k,.slice i s.ca.n l,int i64 s.most] 37)=W at c A h ⊢;have D:Hid (∀ w',Below W.heap.size W w'->w'.cell? ⟨2,2,none⟩=some (.string zcU)/\w'.cell? ⟨w.heap.size,0,none⟩=some (int i64 s.id)/\w'.cell? ⟨w.heap.size,1,none⟩=some (.string s.fr)/\w'.cell? ⟨w.heap.size,2,none⟩=some (.string s.dst)/\w'.cell? ⟨w.heap.size,3,none⟩=some (int i64 s.dep)/\w'.cell? ⟨w.heap.size,4,none⟩=some (int i64 s.arr)/\w'.cell? ⟨w.heap.size,5,none⟩=some (.slice lo s.la.n k)/\w'.cell? ⟨w.heap.size,6,none⟩=some (.slice i s.ca.n l)/\w'.cell? ⟨w.heap.size,7,none⟩=some (int i64 s.most)):=fun w' f=>by
  have b:=zc A f;exact⟨(f.cell (World.block_lt_of_cell? W _ h)).trans h,za b 0 _ rfl,za b 1 _ rfl,za b 2 _ rfl,za b 3 _ rfl,za b 4 _ rfl,za b 5 _ rfl,za b 6 _ rfl,za b 7 _ rfl⟩
 have u:Hid (∀ (n:Int) d,0<=n/\n<=1000000->Below W.heap.size W d->Calls Tryz.prog 39 #[int i64 n] d fun e w'=>e=.returned (.string (qf n))/\Below W.heap.size W w'):=fun n d hn f =>
  (Z3 n (by omega) (by omega) d (g.out.2.2.below (zj c f))).mono fun e w' ⟨h1,h2⟩=>⟨h1,zj f h2⟩
 have z:Hid (∀ d,Below W.heap.size W d->Calls Tryz.prog 64 #[.slice lo s.la.n k,.func (.func 65) #[] #[]] d fun e w'=>e=.returned (.string (qu s.la))/\Below W.heap.size W w'):=fun d f =>
  (zgs lo k s.la d (zbp C.out) (g.out.1.below (zj c f)) (g.out.2.2.below (zj c f))).mono fun e w' ⟨h1,h2⟩=>⟨h1,zj f h2⟩
 have y:Hid (∀ d,Below W.heap.size W d->Calls Tryz.prog 66 #[.slice i s.ca.n l,.func (.func 67) #[] #[]] d fun e w'=>e=.returned (.string (qu s.ca))/\Below W.heap.size W w'):=fun d f =>
  (zfm i l s.ca d (zbq C.out) (g.out.2.1.below (zj c f)) (g.out.2.2.below (zj c f))).mono fun e w' ⟨h1,h2⟩=>⟨h1,zj f h2⟩
 obtain⟨k0,k1,k2,k3,k4,k5,k6,k7,k8⟩:=D.out W bZ;have m:=hI c;clear A h c;go_region_held3 (fun w'=>w'.cell? ⟨2,2,none⟩=some (.string zcU)/\w'.cell? ⟨w.heap.size,0,none⟩=some (int i64 s.id)/\w'.cell? ⟨w.heap.size,1,none⟩=some (.string s.fr)/\w'.cell? ⟨w.heap.size,2,none⟩=some (.string s.dst)/\w'.cell? ⟨w.heap.size,3,none⟩=some (int i64 s.dep)/\w'.cell? ⟨w.heap.size,4,none⟩=some (int i64 s.arr)/\w'.cell? ⟨w.heap.size,5,none⟩=some (.slice lo s.la.n k)/\w'.cell? ⟨w.heap.size,6,none⟩=some (.slice i s.ca.n l)/\w'.cell? ⟨w.heap.size,7,none⟩=some (int i64 s.most))
  (first|(refine D.out _ ?_;first|exact zr j.out _|exact j.out|exact t.out|exact r.out|exact q.out|exact p.out|exact o.out|exact bZ.drew|exact bZ))
  (first
   | (go_at_call 39;first
    | (with_reducible refine Calls.mono (u.out s.id _ x.out.1 ?_) ?_);(focus(first | exact bZ.drew | exact bZ));rintro e w1 ⟨rfl,a⟩;have o:=hI a;clear a
    | (with_reducible refine Calls.mono (u.out s.dep _ x.out.2.1 o.out) ?_);rintro e w2 ⟨rfl,a⟩;have p:=hI a;clear a
    | (with_reducible refine Calls.mono (u.out s.arr _ x.out.2.2.1 p.out) ?_);rintro e w3 ⟨rfl,a⟩;have q:=hI a;clear a
    | (with_reducible refine Calls.mono (u.out s.most _ x.out.2.2.2.1 q.out) ?_);rintro e w4 ⟨rfl,a⟩;have r:=hI a;clear a)
   | (go_at_call 64;(with_reducible refine Calls.mono (z.out _ r.out) ?_);rintro e w5 ⟨rfl,a⟩;have t:=hI a;clear a)
   | (go_at_call 66;(with_reducible refine Calls.mono (y.out _ t.out) ?_);rintro e I ⟨rfl,a⟩;have j:=hI a;clear a))
 go_wp2;go_ret;exact⟨_,rfl,⟨rfl,.inr ⟨I.heap.size,9,#[.string zcU,.string (qf s.id),.string s.fr,.string s.dst,.string (qf s.dep),.string (qf s.arr),.string (qf s.most),.string (qu s.la),.string (qu s.ca)],rfl,(zj m.out j.out).size,heap_alloc_new I _,Nat.le_refl _,by unfold maxLen;omega,rfl,rfl⟩⟩,zj m.out (zr j.out _)⟩
theorem zaM (s:Sail)(lo d:Option Addr)(i j:Nat)(w:World)(t:s.fr.size<=1000000000000000)(u:s.dst.size<=1000000000000000)(hn:s.la.n<=1048576)(M:s.ca.n<=1048576)(I:qd w lo s.la)(J:qd w d s.ca)(G:Ze w)(F:zaT w) :
  Calls Tryz.prog 10 #[.agg #[int i64 s.id,.string s.fr,.string s.dst,int i64 s.dep,int i64 s.arr,.slice lo s.la.n i,.slice d s.ca.n j,int i64 s.most]] w fun e w'=>e=.returned (.tuple #[.string (zfp s),.bool (zdv s)])/\Below w.heap.size w w':=by
 have a:Hid (qd w lo s.la/\qd w d s.ca/\Ze w/\zaT w):=⟨I,J,G,F⟩;have c:Below w.heap.size w (w.alloc (.cells #[int i64 s.id,.string s.fr,.string s.dst,int i64 s.dep,int i64 s.arr,.slice lo s.la.n i,.slice d s.ca.n j,int i64 s.most] 37)):=zr bZ _;have m:=heap_alloc_new w (.cells #[int i64 s.id,.string s.fr,.string s.dst,int i64 s.dep,int i64 s.arr,.slice lo s.la.n i,.slice d s.ca.n j,int i64 s.most] 37);clear I J G F;go_enter Tryz.func10,Tryz.ntmps10;go_upto_region 1 with fail;generalize w.alloc (.cells #[int i64 s.id,.string s.fr,.string s.dst,int i64 s.dep,int i64 s.arr,.slice lo s.la.n i,.slice d s.ca.n j,int i64 s.most] 37)=W at c m ⊢;obtain⟨x,y,z,A,B,C,D,E⟩:=ce8 m;go_wp2_with fail;refine(zdu _ _ _ _ _ _ _ _ _ _ _ _ s.la s.ca _ rfl rfl t u hn M (a.out.1.below c) (a.out.2.1.below c)).mono ?_;rintro e w2 ⟨⟨q,rfl,H⟩,f⟩;have o:=hI H;have b2:=zc m f;have b:=zj c f;clear x y z A B C D E m c f H
 cases q with
 | false =>
  have k:¬ zU s:=fun h=>by have:=o.out.2 h;cases this
  have g:=hI (zdx k);clear k;go_wp2;exact bodyPost_ret (v:=.tuple #[.string ⟨#[]⟩,.bool false]) (by simp[results,Tryz.results10,go_sem]) rfl ⟨by rw[g.out.1,g.out.2],b⟩
 | true =>
  have n:Hid (zU s):=by first|exact o.out.1 rfl|exact o.out.1 trivial
  have g:=hI (zaw n.out);obtain⟨x,y,z,A,B,C,D,E⟩:=ce8 b2;go_wp2_with fail;refine(zdy s lo d i j _ n.out (a.out.1.below b) (a.out.2.1.below b) (a.out.2.2.1.below b) (a.out.2.2.2.below b)).mono ?_;rintro e w4 ⟨v,rfl,l,p⟩;have K:=hI l;clear x y z A B C D E l;go_wp2_with fail;refine(zhL spT (zfo s) v _ _ K.out (by show 9<=_;omega) (by have L:=zev n.out;unfold QS at L;omega)).mono ?_
  rintro e w5 ⟨rfl,r⟩;go_wp2;exact bodyPost_ret (v:=.tuple #[.string (QS s),.bool true]) (by simp[results,Tryz.results10,go_sem,QS]) rfl ⟨by rw[g.out.1,g.out.2],zj (zj b p) r⟩
def zhq (w:World)(a:Option Addr)(p:qi):Prop:=∀ k,k<p.n->∃ b off g,a=some ⟨b,off,none⟩/\w.cell? ⟨b,off+k,none⟩=some (.slice (some ⟨g,0,none⟩) 2 2)/\w.heap[g]?=some (.cells #[int i64 (p.A k),int i64 (p.B k)] 3 (0,0))
theorem zhq.below {w w':World}{a:Option Addr}{p:qi}(h:zhq w a p)(d:Below w.heap.size w w'):zhq w' a p:=fun k i=>by
 obtain⟨b,off,g,e,c,f⟩:=h k i;exact⟨b,off,g,e,(d.cell (World.block_lt_of_cell? w _ c)).trans c,zc f d⟩
def pT (p:qi)(k:Nat):ByteArray:=qD coT ((List.range k).map (fun i=>Zo (p.A i) (p.B i)))
theorem pT_succ (p:qi)(k:Nat)(h:0<k):pT p (k+1)=pT p k++coT++Zo (p.A k) (p.B k):=by
 unfold pT;rw[List.range_succ,List.map_append,List.map_cons,List.map_nil,ZR _ _ (by
  intro e;have:=congrArg List.length e;simp at this
  omega),ByteArray.append_assoc]
theorem pT_one (p:qi):pT p 1=Zo (p.A 0) (p.B 0):=ZH _ _
theorem pT_size {p:qi}(h:zcL p)(k:Nat)(hk:k<=p.n):(pT p k).size<=6006:=by
 have:=zbU coT (by show 1<=1;omega) ((List.range k).map (fun i=>Zo (p.A i) (p.B i))) (fun q d=>by
  obtain⟨i,b,rfl⟩:=List.mem_map.1 d;have c:i<k:=by simpa using b
  have a:=h.2 i (by omega)
  have:=zcx a.1 a.2
  omega)
 rw[List.length_map,List.length_range] at this;have:=h.1;unfold pT
 omega
theorem zcM (D:Option Addr)(cap:Nat)(p:qi)(w:World)(A:zcL p)(F:zhq w D p) :
  Calls Tryz.prog 68 #[.slice D p.n cap] w fun e w'=>e=.returned (.string (qu p))/\Below w.heap.size w w':=by
 have C:=hI A;have y:=A.1;have G:=hI F;obtain⟨n,hn⟩:∃ n,n=p.n:=⟨_,rfl⟩;have o:=hI hn.symm;rw[← hn] at y ⊢;clear A F hn
 by_cases h0:n=0
 ·have H:((n:Int) == 0)=true:=by rw[beq_iff_eq];omega
  have s:Hid ((⟨#[45]⟩:ByteArray)=qu p):=by show _=qu p;unfold qu;rw[if_pos (by rw[o.out];exact h0)]
  clear h0;go_enter Tryz.func68,Tryz.ntmps68;go_wp2;go_ret;exact⟨congrArg (fun z=>Ending.returned (Value.string z)) s.out,bZ⟩
 have H:((n:Int) == 0)=false:=by rw[beq_eq_false_iff_ne];omega
 go_enter Tryz.func68,Tryz.ntmps68;go_wp2;go_loopw [3,4,5,11] (fun v _ _ i r=>∃ k:Nat,k<=n/\i=int i64 k/\v=.string (pT p k)/\Below w.heap.size w r)
  (fun _ _ _ i _=>n - (intOf i).toNat)
 case atStart=>exact⟨0,Nat.zero_le _,rfl,rfl,bZ⟩
 case round =>
  obtain⟨k,K,rfl,rfl,a⟩:=hrel
  by_cases hlt:k<n
  ·obtain⟨b,off,g,rfl,J,q⟩:=G.out.below a k (by rw[o.out];exact hlt)
   have d:=C.out.2 k (by rw[o.out];exact hlt)
   have f:=hI d;have sp:(Zo (p.A k) (p.B k)).size<=201:=zcx d.1 d.2;have sl:=pT_size C.out k (by rw[o.out];exact K)
   unfold In at d;have s1:=qh (n:=p.A k) (by omega) (by omega)
   have s2:=qh (n:=p.B k) (by omega) (by omega)
   have r1:=qk (qf (p.A k)) ⟨#[47]⟩ (by omega) (by show 1<=_;omega)
   have r2:∀ W:World,(Op.stringOp .add (qf (p.A k)++⟨#[47]⟩) (qf (p.B k))).run Tryz.prog W=.ok (.string (Zo (p.A k) (p.B k))) W:=qk (qf (p.A k)++⟨#[47]⟩) (qf (p.B k)) (by rw[ByteArray.size_append];show _+1<=_;omega) (by omega)
   have t:Hid (∀ W:World,Calls Tryz.prog 47 #[int i64 (p.A k)] W fun e w'=>e=.returned (.string (qf (p.A k)))/\Below W.heap.size W w'):=fun W=>Za (by have:=f.out.1.1;omega) (by have:=f.out.1.2;omega) W
   have u:Hid (∀ W:World,Calls Tryz.prog 47 #[int i64 (p.B k)] W fun e w'=>e=.returned (.string (qf (p.B k)))/\Below W.heap.size W w'):=fun W=>Za (by have:=f.out.2.1;omega) (by have:=f.out.2.2;omega) W
   have lg:=zZ q;have M:∀ h:qe r,h.val.cell? ⟨g,0,none⟩=some (int i64 (p.A k)):=fun h=>(h.bel.cell lg).trans (za q 0 _ rfl)
   have N:∀ h:qe r,h.val.cell? ⟨g,1,none⟩=some (int i64 (p.B k)):=fun h=>(h.bel.cell lg).trans (za q 1 _ rfl)
   clear q d;obtain⟨T,B,j⟩:∃ T,T++Zo (p.A k) (p.B k)=pT p (k+1)/\((¬ 0<k/\T=pT p k)∨(0<k/\T=pT p k++⟨#[44]⟩)):=by
    by_cases c:0<k
    ·exact⟨pT p k++⟨#[44]⟩,(show pT p k++⟨#[44]⟩++Zo (p.A k) (p.B k)=pT p (k+1) from (pT_succ p k c).symm),.inr ⟨c,rfl⟩⟩
    ·refine⟨pT p k,?_,.inl ⟨c,rfl⟩⟩
     have e:k=0:=by omega
     subst e
     show pT p 0++_=pT p 1
     rw[pT_one];exact ByteArray.empty_append
   have E:=hI B;clear B;have sT:T.size<=6007:=by
    rcases j with⟨_,rfl⟩|⟨_,rfl⟩
    ·omega
    ·rw[ByteArray.size_append];show _+1<=_;omega
   have r3:=qk T (Zo (p.A k) (p.B k)) (by omega) (by omega)
   go_upto_if 17 with fail;go_cut [3] (fun v L=>v=.string T/\L=r)
   case first =>
    rcases j with⟨c,j⟩|⟨c,j⟩
    ·have I:decide ((0:Int)<(k:Int))=false:=decide_eq_false (by omega)
     have x:decide (0<k)=false:=decide_eq_false (by omega)
     have l:=hI j.symm;clear j;go_wp2;go_meet;exact⟨congrArg Value.string l.out,rfl⟩
    ·have I:decide ((0:Int)<(k:Int))=true:=decide_eq_true (by omega)
     have x:decide (0<k)=true:=decide_eq_true (by omega)
     have r4:=qk (pT p k) ⟨#[44]⟩ (by omega) (by show 1<=_;omega)
     have l:=hI j.symm;clear j;go_wp2;go_meet;exact⟨congrArg Value.string l.out,rfl⟩
   case rest =>
   obtain⟨rfl,m⟩:=hcut;have m:=m.symm;subst m;clear j J;go_upto_region 9 with fail;refine zp (by kernel_rfl) (by kernel_rfl) ?_
   repeat(first|go_big_quiet_skip|(go_big_quiet_want;go_big_quiet_op;first|go_big_quiet_on|(apply Exists.intro;refine⟨fun g=>?_,?_⟩;(focus(go_at_call 47;first|(with_reducible refine zi (v:=.string (qf (p.A k))) (t.out _))|(with_reducible refine zi (v:=.string (qf (p.B k))) (u.out _))));go_big_quiet_on)))
   refine wpQuiet_nil ?_;rintro _ ⟨h,rfl⟩;clear M N;go_wp2;go_roundw
   case rel=>exact⟨k+1,by omega,by go_num,by rw[← E.out],zj a h.bel⟩
   case measure=>simp[intOf];omega
  ·obtain rfl:n=k:=by omega
   have s:Hid (pT p n=qu p):=by show pT p n=qu p;unfold qu pT;rw[o.out,if_neg h0]
   go_wp2;go_ret;exact⟨congrArg (fun z=>Ending.returned (Value.string z)) s.out,a⟩
end Go.Proofs.YtfallpinmhbemaaGreatDoor
