/-
  OWN TEXT: PlainPi, ImplV, ImplW, FitsI, StayOf, ImplLane, FreeI.
-/
import Derived.Test.YtmdnjgihooflfaaGreatDoorKitCo
import Derived.Test.YtmdnjgihooflfaaGreatDoorB14
namespace Go.Proofs.YtmdnjgihooflfaaGreatDoor
open Go.RowKit
open Go.Value (int)
open Go.IntKind (i64)
open Tryz
set_option maxHeartbeats 64000000
set_option maxRecDepth 100000
section
open Go.RowKit
theorem znr (S:Nat->Qe)(n:Nat)(x many:Int):QN (Ze S n x many) (n+1)=QN S n+many:=by
 unfold Ze;rw[QN,zfi n (λj a=>zcv a),zdT]
section
variable {s : Zj} {v : Wk} {l : zY} {w' : World} {base t : Nat} {e : Ending}
theorem placeW (g:qm s l)(hr:v.res=0)(f:v.goes=false)(n:In v.who 1 9999)(d:zbA v.p.len v.p.hei)(j:¬ Has (Qc l.st) l.stn v.who)(h:zgf w' base t s.la l.stn l.st v.who v.p.len v.p.hei e) :
  (∃ (k:Nat) (u:Value),e=.returned (.tuple #[u,(k:Int),.bool true])/\qV s v l 0 (l.addStay ⟨v.who,(k:Int),v.p.len,v.p.hei⟩)/\w'.ownsRow base t 4 u (l.stn+1) (zy (l.addStay ⟨v.who,(k:Int),v.p.len,v.p.hei⟩).st (l.stn+1))) ∨
  (∃ (u:Value) (z:Int),e=.returned (.tuple #[u,z,.bool false])/\qV s v l 5 l/\w'.ownsRow base t 4 u 0 []):=by
 obtain⟨u,rfl,a⟩:=h;have i:=(QO _ _ _).1 g.1
 cases hp:zbY s.la l.stn l.st v.who v.p.len v.p.hei with
 | some k =>
  have b:=zkk hp;unfold zaC zgI zdR zkl at *;unfold zaC at a;rw[hp] at a ⊢;exact .inl ⟨k,u,rfl,.addStay k hr f (.inl ⟨k,rfl,b.2.1,b.2.2.2.2.2.2⟩),a⟩
 | none =>
  unfold zaC zgI zdR zkl at *;unfold zaC at a;rw[hp] at a ⊢;refine .inr ⟨u,0,rfl,.deck hr f (.inr ⟨rfl,?_⟩),a⟩
  by_cases c:l.stn=60
  ·exact .inl c
  ·refine .inr λk m=>?_
   rw[zgH ⟨i,c,j,n,d.1,d.2,m⟩] at hp
   cases hp
theorem wholeW (g:qm s l)(hr:v.res=1)(f:v.goes=false)(d:v.p.all=true)(o:In v.who 1 9999)(i:In v.p.cl 1 3)(n:In v.p.pe 1 20)(j:¬ Has (ZV l.ro) l.ron v.who)(h:zgc w' base t s.ca l.ron l.ro v.who v.p.cl v.p.pe e) :
  (∃ (k:Nat) (u:Value),e=.returned (.tuple #[u,(k:Int),.bool true])/\qV s v l 0 (l.addRoom ⟨v.who,(k:Int),s.ca.B k,true⟩)/\w'.ownsRow base t 4 u (l.ron+1) (zw (l.addRoom ⟨v.who,(k:Int),s.ca.B k,true⟩).ro (l.ron+1))) ∨
  (∃ (u:Value) (z:Int),e=.returned (.tuple #[u,z,.bool false])/\qV s v l 6 l/\w'.ownsRow base t 4 u 0 []):=by
 obtain⟨u,rfl,a⟩:=h
 cases hp:zdr s.ca l.ron l.ro v.who v.p.cl v.p.pe with
 | some k =>
  have b:=zgv hp;unfold zcK zgw zdM zdN at *;unfold zcK at a;rw[hp] at a ⊢;exact .inl ⟨k,u,rfl,.addWhole k hr f d (.inl ⟨k,rfl,b.1.1.2.1,b.2⟩),a⟩
 | none =>
  unfold zcK zgw zdM zdN at *;unfold zcK at a;rw[hp] at a ⊢;refine .inr ⟨u,0,rfl,.whole hr f d (.inr ⟨rfl,?_⟩),a⟩
  by_cases c:l.ron=60
  ·exact .inl c
  ·refine .inr λk m=>?_
   have:=zdL (G:=zmA _ _ _ _ _ _) ⟨⟨g.2.1,c,j,o⟩,i,n⟩ m;unfold zdr at hp;rw[this] at hp
   cases hp
theorem berthW (g:qm s l)(hr:v.res=1)(f:v.goes=false)(d:v.p.all=false)(o:In v.who 1 9999)(i:In v.p.cl 1 3)(n:In v.p.be 1 4)(j:¬ Has (ZV l.ro) l.ron v.who)(h:zgd w' base t s.ca l.ron l.ro v.who v.p.cl v.p.be e) :
  (∃ (k:Nat) (u:Value),e=.returned (.tuple #[u,(k:Int),.bool true])/\qV s v l 0 (l.addRoom ⟨v.who,(k:Int),v.p.be,false⟩)/\w'.ownsRow base t 4 u (l.ron+1) (zw (l.addRoom ⟨v.who,(k:Int),v.p.be,false⟩).ro (l.ron+1))) ∨
  (∃ (u:Value) (z:Int),e=.returned (.tuple #[u,z,.bool false])/\qV s v l 6 l/\w'.ownsRow base t 4 u 0 []):=by
 obtain⟨u,rfl,a⟩:=h
 cases hp:zej s.ca l.ron l.ro v.who v.p.cl v.p.be with
 | some k =>
  have b:=zgv hp;unfold zcL zgy zdO zdP at *;unfold zcL at a;rw[hp] at a ⊢;exact .inl ⟨k,u,rfl,.addBerth k hr f d (.inl ⟨k,rfl,b.1.1.2.1,b.2⟩),a⟩
 | none =>
  unfold zcL zgy zdO zdP at *;unfold zcL at a;rw[hp] at a ⊢;refine .inr ⟨u,0,rfl,.berth hr f d (.inr ⟨rfl,?_⟩),a⟩
  by_cases c:l.ron=60
  ·exact .inl c
  ·refine .inr λk m=>?_
   have:=zdL (G:=zmB _ _ _ _ _ _) ⟨⟨g.2.1,c,j,o⟩,i,n⟩ m;unfold zej at hp;rw[this] at hp
   cases hp
theorem seatW (b:qm s l)(hr:v.res=2)(d:v.goes=false)(j:In v.who 1 9999)(i:In v.p.pe 1 20)(g:¬ Has (zag l.se) l.sen v.who)(h:zge w' base t s.most l.sen l.se v.who v.p.pe e) :
  (∃ u:Value,e=.returned (.tuple #[u,.bool true])/\qV s v l 0 (l.addSeat ⟨v.who,v.p.pe⟩)/\w'.ownsRow base t 2 u (l.sen+1) (zB (l.addSeat ⟨v.who,v.p.pe⟩).se (l.sen+1))) ∨
  (∃ u:Value,e=.returned (.tuple #[u,.bool false])/\qV s v l 7 l/\w'.ownsRow base t 2 u 0 []):=by
 obtain⟨u,rfl,a⟩:=h
 by_cases hT:zck s.most l.sen l.se v.who v.p.pe
 ·unfold zdQ at a
  rw[zel hT] at a ⊢;have h2:=hT.2;have f:QN (Ze _ _ v.who _) _=QN l.se l.sen+v.p.pe:=znr _ _ _ _;refine .inl ⟨u,rfl,.addSeat hr d (by have:=h2.2.1;omega) (by have:=h2.2.2.2;rw[f] at this;exact this),a⟩
 ·unfold zdQ at a
  rw[zfh hT] at a ⊢;refine .inr ⟨u,rfl,.seats hr d ?_,a⟩
  by_cases c:l.sen=60
  ·exact .inl c
  ·by_cases c2:QN l.se l.sen+v.p.pe<=s.most
   ·exact absurd ⟨b.2.2,(b.addSeat c j i g c2).2.2⟩ hT
   ·exact .inr (by omega)
end
end
theorem Qg (x:Int)(w:World) :
  Calls prog 102 #[int i64 x] w λe w'=>e=.returned (.bool (decide (In x 1 9999)))/\w'=w:=by
 go_enter func102,ntmps102;go_wp2_with (first|(go_at_call 191;refine(zz _ _ _ _).mono ?_;rintro e w' ⟨rfl,rfl⟩))
 go_ret;exact⟨rfl,rfl⟩
section
open Go.RowKit
end
theorem zfp (D:Option Addr)(n c:Nat)(p:zH)(F:Nat->Int)(x l s h:Int)(w:World)(H:p.n=n)(hn:n<=4)(O:zG w D p) :
  Calls prog 264 #[(D,n,c),.agg #[(F 0),(F 1),(F 2),(F 3)],.agg #[x,l,s,h]] w λe w'=>qX (zmC p F ⟨x,l,s,h⟩) e/\Below w.heap.size w w':=by
 have B:=hI H;clear H;go_enter func264,ntmps264;go_upto_region 1 with fail;have f:((w.alloc _).alloc (.cells #[x,l,s,h] 220)).heap[w.heap.size]?=some (.cells #[(F 0),(F 1),(F 2),(F 3)] 319 (0,0)):=zd (Jb w _) _;have i:((w.alloc (.cells #[(F 0),(F 1),(F 2),(F 3)] 319)).alloc (.cells #[x,l,s,h] 220)).heap[w.heap.size+1]?=some (.cells #[x,l,s,h] 220 (0,0)):=by simpa using Jb (w.alloc _) _
 have a:Below _ w ((w.alloc (.cells #[(F 0),(F 1),(F 2),(F 3)] 319)).alloc (.cells #[x,l,s,h] 220)):=zk (zk bZ _) _;generalize (w.alloc _).alloc _=W at f i a ⊢;have J:=zM f;have q:=zM i;have z0:∀ g:zn W,g.val.cell? _=some (.int _ x):=λg=>(g.bel.cell q).trans (za i 0 _ rfl)
 have z1:∀ g:zn W,g.val.cell? _=some (.int _ l):=λg=>(g.bel.cell q).trans (za i 1 _ rfl)
 have z2:∀ g:zn W,g.val.cell? _=some (.int _ s):=λg=>(g.bel.cell q).trans (za i 2 _ rfl)
 have z3:∀ g:zn W,g.val.cell? _=some (.int _ h):=λg=>(g.bel.cell q).trans (za i 3 _ rfl)
 have y:Hid (∀ m,m<4->∀ g:zn W,g.val.cell? (w.heap.size,m)=some (F m)):=by
  intro m I g;refine(g.bel.cell J).trans ?_;have:m=0∨m=1∨m=2∨m=3:=by omega
  rcases this with rfl|rfl|rfl|rfl
  ·exact za f 0 _ rfl
  ·exact za f 1 _ rfl
  ·exact za f 2 _ rfl
  ·exact za f 3 _ rfl
 clear f i J q;have N:IntKind.i64.wrap ((n:Int) - 1)=(n:Int) - 1:=by rw[Jk];omega
 by_cases h1:In x 1 9999
 ·have j:=Jd h1
  have t:=hI h1;clear h1
  by_cases h2:In s 1 2000/\In h 1 500
  ·have k:=Jd h2
   have r:=hI h2;clear h2
   by_cases h3:In l 0 ((n:Int) - 1)
   ·have o:=Jd h3
    have u:=hI h3;obtain⟨m,rfl⟩:∃ m:Nat,l=m:=⟨l.toNat,by unfold In at h3;omega⟩
    have I:m<n:=by unfold In at h3;omega
    clear h3;obtain⟨b,off,rfl,E,G⟩:=O m (by rw[B.out];exact I)
    have M:=Ja w _ E;have y2:∀ g:zn W,_:=λg=>((ze a g.bel).cell (p:=⟨b,_+1,_⟩) M).trans G
    have y3:=y m (by omega)
    have i1:(0:Int)<=(m:Int):=by omega
    have i2:(m:Int)<(n:Int):=by omega
    have i3:(m:Int)<4:=by omega
    have i4:m<4:=by omega
    clear E G
    by_cases h4:h<=p.B m
    ·have K:=Jd h4
     have z:=hI h4;clear h4
     by_cases h5:s<=F m
     ·have L:=Jd h5
      have A:=hI h5;clear h5;refine zh (by kernel_rfl) (by kernel_rfl) ?_
      repeat(first|go_big_quiet_skip|(go_big_quiet_want;go_big_quiet_op;first|go_big_quiet_on|(apply Jg;refine⟨λg=>?_,?_⟩;(focus(first|(go_at_call 102;refine zf (v:=.bool true) ((Qg _ _).mono ?_);rintro e d ⟨rfl,rfl⟩;exact⟨by rw[j],bZ⟩)|(go_at_call 267;refine zf (v:=.bool true) ((zbq _ _ _).mono ?_);rintro e d ⟨rfl,rfl⟩;exact⟨by rw[k],bZ⟩)|(go_at_call 191;refine zf (v:=.bool true) ((zz _ _ _ _).mono ?_);rintro e d ⟨rfl,rfl⟩;exact⟨by rw[o],bZ⟩)));go_big_quiet_on)))
      refine Jl ?_;rintro _ ⟨g,rfl⟩;go_wp2;go_ret;exact⟨zR ⟨t,r.1,r.2,by rw[B.out];exact u,z,A⟩,ze a g.bel⟩
     ·have L:=Jc h5
      have A:=hI h5;clear h5;refine zh (by kernel_rfl) (by kernel_rfl) ?_
      repeat(first|go_big_quiet_skip|(go_big_quiet_want;go_big_quiet_op;first|go_big_quiet_on|(apply Jg;refine⟨λg=>?_,?_⟩;(focus(first|(go_at_call 102;refine zf (v:=.bool true) ((Qg _ _).mono ?_);rintro e d ⟨rfl,rfl⟩;exact⟨by rw[j],bZ⟩)|(go_at_call 267;refine zf (v:=.bool true) ((zbq _ _ _).mono ?_);rintro e d ⟨rfl,rfl⟩;exact⟨by rw[k],bZ⟩)|(go_at_call 191;refine zf (v:=.bool true) ((zz _ _ _ _).mono ?_);rintro e d ⟨rfl,rfl⟩;exact⟨by rw[o],bZ⟩)));go_big_quiet_on)))
      refine Jl ?_;rintro _ ⟨g,rfl⟩;go_wp2;go_ret;exact⟨zl (λC=>Int.not_le.2 A C.room),ze a g.bel⟩
    ·have K:=Jc h4
     have z:=hI h4;clear h4;refine zh (by kernel_rfl) (by kernel_rfl) ?_
     repeat(first|go_big_quiet_skip|(go_big_quiet_want;go_big_quiet_op;first|go_big_quiet_on|(apply Jg;refine⟨λg=>?_,?_⟩;(focus(first|(go_at_call 102;refine zf (v:=.bool true) ((Qg _ _).mono ?_);rintro e d ⟨rfl,rfl⟩;exact⟨by rw[j],bZ⟩)|(go_at_call 267;refine zf (v:=.bool true) ((zbq _ _ _).mono ?_);rintro e d ⟨rfl,rfl⟩;exact⟨by rw[k],bZ⟩)|(go_at_call 191;refine zf (v:=.bool true) ((zz _ _ _ _).mono ?_);rintro e d ⟨rfl,rfl⟩;exact⟨by rw[o],bZ⟩)));go_big_quiet_on)))
     refine Jl ?_;rintro _ ⟨g,rfl⟩;go_wp2;go_ret;exact⟨zl (λC=>Int.not_le.2 z C.high),ze a g.bel⟩
   ·have o:=Jc h3
    have u:=hI h3;clear h3;refine zh (by kernel_rfl) (by kernel_rfl) ?_
    repeat(first|go_big_quiet_skip|(go_big_quiet_want;go_big_quiet_op;first|go_big_quiet_on|(apply Jg;refine⟨λg=>?_,?_⟩;(focus(first|(go_at_call 102;refine zf (v:=.bool true) ((Qg _ _).mono ?_);rintro e d ⟨rfl,rfl⟩;exact⟨by rw[j],bZ⟩)|(go_at_call 267;refine zf (v:=.bool true) ((zbq _ _ _).mono ?_);rintro e d ⟨rfl,rfl⟩;exact⟨by rw[k],bZ⟩)|(go_at_call 191;refine zf (v:=.bool false) ((zz _ _ _ _).mono ?_);rintro e d ⟨rfl,rfl⟩;exact⟨by rw[o],bZ⟩)));go_big_quiet_on)))
    refine Jl ?_;rintro _ ⟨g,rfl⟩;go_wp2;go_ret;exact⟨zl (λh=>u (by have:=h.ln;rw[B.out] at this;exact this)),ze a g.bel⟩
  ·have k:=Jc h2
   have r:=hI h2;clear h2;refine zh (by kernel_rfl) (by kernel_rfl) ?_
   repeat(first|go_big_quiet_skip|(go_big_quiet_want;go_big_quiet_op;first|go_big_quiet_on|(apply Jg;refine⟨λg=>?_,?_⟩;(focus(first|(go_at_call 102;refine zf (v:=.bool true) ((Qg _ _).mono ?_);rintro e d ⟨rfl,rfl⟩;exact⟨by rw[j],bZ⟩)|(go_at_call 267;refine zf (v:=.bool false) ((zbq _ _ _).mono ?_);rintro e d ⟨rfl,rfl⟩;exact⟨by rw[k],bZ⟩)));go_big_quiet_on)))
   refine Jl ?_;rintro _ ⟨g,rfl⟩;go_wp2;go_ret;exact⟨zl (λh=>r ⟨h.len,h.hei⟩),ze a g.bel⟩
 ·have j:=Jc h1
  have t:=hI h1;clear h1;refine zh (by kernel_rfl) (by kernel_rfl) ?_
  repeat(first|go_big_quiet_skip|(go_big_quiet_want;go_big_quiet_op;first|go_big_quiet_on|(apply Jg;refine⟨λg=>?_,?_⟩;(focus(first|(go_at_call 102;refine zf (v:=.bool false) ((Qg _ _).mono ?_);rintro e d ⟨rfl,rfl⟩;exact⟨by rw[j],bZ⟩)));go_big_quiet_on)))
  refine Jl ?_;rintro _ ⟨g,rfl⟩;go_wp2;go_ret;exact⟨zl (λh=>t h.who),ze a g.bel⟩
theorem zgP (c d f g x:Int)(a:Nat)(w:World)(i:w.cell? (a,0)=some (int i64 x)) :
  Calls prog 270 #[.agg #[c,d,f,g],.pointer (some (a,0))] w λe w'=>e=.returned (.bool (c == x))/\Below w.heap.size w w':=by
 have b:=Ja w _ i;have h:¬ a=w.heap.size:=by have:a<w.heap.size:=b;omega
 go_enter func270,ntmps270;go_wp2;go_ret;exact⟨rfl,zk bZ _⟩
theorem ziN (t:Option Addr)(n c:Nat)(S:Nat->Zp)(x:Int)(h:Nat)(w:World)(hn:n<=1048576)(z:qw w t n S)(r:w.cell? (h,0)=some (int i64 x)) :
  Calls prog 269 #[(t,n,c),.func (.func 270) #[] #[.pointer (some (h,0))]] w λe w'=>e=.returned (Zv (Qc S) x n)/\Below w.heap.size w w':=by
 have q:=Ja w _ r;go_enter func269,ntmps269;go_wp2;go_loopw [5,8] (λ_ i wr=>∃ k,k<=n/\i=int i64 k/\(∀ j,j<k->Qc S j≠x)/\Below w.heap.size w wr) (λ_ i _=>n - (intOf i).toNat)
 case atStart=>exact⟨0,Jq _,rfl,λj y=>by omega,bZ⟩
 case round =>
  obtain⟨k,hk,rfl,d,a⟩:=hrel;have l:=hI d;clear d
  by_cases hlt2:k<n
  ·obtain⟨b,off,rfl,o,h1,h2,h3⟩:=z k hlt2
   have g:=Ja w _ o;have c0:=(a.cell g).trans o;have c1:=(a.cell (p:=⟨b,_+1,_⟩) g).trans h1;have c2:=(a.cell (p:=⟨b,_+2,_⟩) g).trans h2;have c3:=(a.cell (p:=⟨b,_+3,_⟩) g).trans h3;have s:=hI ((a.cell q).trans r);clear o h1 h2 h3 r
   by_cases he:Qc S k=x
   ·have v:((S k).who == x)=true:=by unfold Qc at he;simpa using he
    have m:Hid (Zv (Qc S) x n=k):=by
     have:=zfe hlt2 he l;unfold Zv Hid;rw[this,Jf hlt2]
    clear he;go_wp2_with (first|(go_at_call 270;refine(zgP _ _ _ _ x h _ s).mono ?_;rintro e A ⟨rfl,f⟩))
    go_ret;exact⟨by rw[m.out];rfl,ze a f⟩
   ·have v:((S k).who == x)=false:=by unfold Qc at he;simpa using he
    have u:=hI he;clear he;go_wp2_with (first|(go_at_call 270;refine(zgP _ _ _ _ x h _ s).mono ?_;rintro e A ⟨rfl,f⟩))
    go_roundw
    case rel=>exact⟨k+1,by omega,by go_num,λj y=>by
     by_cases e:j=k
     ·subst e;exact u
     ·exact l j (by omega),ze a f⟩
    case measure=>simp[intOf];omega
  ·obtain rfl:k=n:=by omega
   have m:=hI (zbM (zdp l));go_wp2;go_ret;exact⟨by rw[m.out];rfl,a⟩
/-- stayOf: where the stay of the by stands, -1 Zx one. -/
theorem zbz (b:Option Addr)(n c:Nat)(S:Nat->Zp)(x:Int)(w:World)(i:n<=1048576)(j:qw w b n S) :
  Calls prog 243 #[(b,n,c),x] w λe w'=>e=.returned (Zv (Qc S) x n)/\Below w.heap.size w w':=by
 have a:Below _ w (w.alloc (.cells #[x] 3)):=zk bZ _;have g:=hI (j.below a);have f:Hid ((w.alloc (.cells #[_] 3)).cell? _=some (int i64 x)):=za (Jb w _) 0 _ rfl;have h:∀ (fn) (first cap) (w),(Instr.makeFunc fn _ cap).run prog w=.ok (.func fn first cap) w:=λ_ _ _ _=>rfl
 go_enter func243,ntmps243;go_wp2_with (first|(go_at_call 269;refine(ziN b n c S x _ _ i g f).mono ?_;rintro e w2 ⟨rfl,d⟩))
 go_ret;exact⟨rfl,ze a d⟩
theorem zeD (o:Option Addr)(n c:Nat)(p:zH)(w:World)(s:p.n=n)(hn:n<=1048576)(v:zG w o p) :
  Calls prog 234 #[(o,n,c)] w λe w'=>qX (zaZ p 4 1 5000 100 500) e/\Below w.heap.size w w':=by
 have f:=hI s;clear s
 by_cases h0:n<=4
 ·have q:decide (4<n)=false:=by simp;omega
  go_enter func234,ntmps234;go_wp2;go_loopw [4,10] (λ_ i wr=>∃ k,k<=n/\i=int i64 k/\(∀ j,j<k->In (p.A j) 1 5000/\In (p.B j) 100 500)/\Below w.heap.size w wr) (λ_ i _=>n - (intOf i).toNat)
  case atStart=>exact⟨0,Jq _,rfl,λj l=>by omega,bZ⟩
  case round =>
   obtain⟨k,hk,rfl,d,a⟩:=hrel;have m:=hI d;clear d q
   by_cases hlt:k<n
   ·obtain⟨b,off,rfl,h1,h2⟩:=v k (by rw[f.out];omega)
    have r:=Ja w _ h1;have c1:=(a.cell r).trans h1;have c2:=(a.cell (p:=⟨b,_+1,_⟩) r).trans h2;clear h1 h2
    by_cases g1:In (p.A k) 1 5000
    ·have t:=Jd g1
     by_cases g2:In (p.B k) 100 500
     ·have u:=Jd g2
      have g:Hid (_/\_):=⟨g1,g2⟩;clear g1 g2;go_wp2_with (first|(go_at_call 191;refine sC (zz _ _ _ _) ?_))
      go_roundw
      case rel=>exact⟨k+1,by omega,by go_num,λj l=>by
       by_cases e:j=k
       ·subst e;exact g
       ·exact m j (by omega),zk a _⟩
      case measure=>simp[intOf];omega
     ·have u:=Jc g2
      have g:=hI g2;clear g1 g2;go_wp2_with (first|(go_at_call 191;refine sC (zz _ _ _ _) ?_))
      go_ret;exact⟨zl (λh=>g (h.2 k (by rw[f.out];exact hlt)).2),zk a _⟩
    ·have t:=Jc g1
     have g:=hI g1;clear g1;go_wp2_with (first|(go_at_call 191;refine sC (zz _ _ _ _) ?_))
     go_ret;exact⟨zl (λh=>g (h.2 k (by rw[f.out];exact hlt)).1),zk a _⟩
   ·obtain rfl:k=n:=by omega
    go_wp2;go_ret;exact⟨zR ⟨by rw[f.out];exact h0,λj l=>m j (by rw[f.out] at l;exact l)⟩,a⟩
 ·have q:decide (4<n)=true:=by simp;omega
  go_enter func234,ntmps234;go_wp2;go_ret;exact⟨zl (λh=>by have:=h.1;rw[f.out] at this;exact h0 this),bZ⟩
def zmH (F:Nat->Int):Value:=.agg #[(F 0),(F 1),(F 2),(F 3)]
def zlX (p:zH)(n:Nat)(S:Nat->Zp)(e:Ending):Prop :=
 (zfj p n S/\e=.returned (.tuple #[zmH (qy p S n),.bool true]))∨(¬ zfj p n S/\e=.returned (.tuple #[zmH (λ_=>0),.bool false]))
theorem zeE {w:World}{g t:Nat}{u0 u1 u2 u3:Value}(h:w.heap[g]?=some (.cells #[u0,u1,u2,u3] t (0,0)))(v0 v1 v2 v3:Value) :
  ((((w.setCell (g,0) v0).setCell (g,1) v1).setCell (g,2) v2).setCell (g,3) v3).heap[g]?=some (.cells #[v0,v1,v2,v3] t (0,0)):=by
 have:=zm (zm (zm (zm h 0 v0) 1 v1) 2 v2) 3 v3
 simpa using this
theorem zcx {w w':World}{g:Nat}(h:Below w.heap.size w w')(a:w.heap.size<=g)(v0 v1 v2 v3:Value):Below w.heap.size w ((((w'.setCell (g,0) v0).setCell (g,1) v1).setCell (g,2) v2).setCell (g,3) v3) :=
 (((h.setCell a _).setCell a _).setCell a _).setCell a _
theorem zero_row {w:World}{g t:Nat}(h:w.heap[g]?=some (.cells #[(),(),(),()] t (0,0))):w.rowIs g t 4 (λk=>int i64 (zbJ 0 (λ_=>(0:Int)) 0 k)):=by
 refine⟨_,h,rfl,λi hi=>?_⟩
 have:i=0∨i=1∨i=2∨i=3:=by omega
 rcases this with rfl|rfl|rfl|rfl <;> rfl
theorem zee (ao bo:Option Addr)(m mc n c:Nat)(p:zH)(S:Nat->Zp)(w:World)(X:p.n=m)(hm:m<=1048576)(hn:n<=1048576)(hc:n<=c)(hx:zG w ao p)(hz:qw w bo n S) :
  Calls prog 236 #[(ao,m,mc),(bo,n,c)] w λe w'=>zlX p n S e/\Below w.heap.size w w':=by
 have O:=hI X;have HX:=hI hx;have HZ:=hI hz;clear X hx hz;have Q:Below _ w (w.alloc (.cells #[(),(),(),()] 319)):=zk bZ _;have r0:(w.alloc _).heap[w.heap.size]?=some (.cells #[(),(),(),()] 319 (0,0)):=Jb w _;go_enter func236,ntmps236;go_wp2_with fail;refine(zeD ao m mc p _ O hm (HX.below Q)).mono ?_;rintro e w1 ⟨⟨q,rfl,hq⟩,R⟩;have C:=ze Q R;have K:=zb r0 R;clear Q r0 R
 cases q with
 | false =>
  obtain⟨o0,o1,o2,o3⟩:=ce4 K;obtain⟨f0,f1,f2,f3⟩:=fe4 K;have Z:Hid (¬ zhB p):=λh=>by have:=hq.2 h;cases this
  clear hq;go_wp2;have L:=zeE K () () () ();obtain⟨F,H,I,J⟩:=ce4 L;exact Jj (by simp[results,results236,go_sem,F,H,I,J,zmH]) rfl ⟨.inr ⟨λh=>Z h.1,rfl⟩,zcx C (Jr _) _ _ _ _⟩
 | true =>
  have Z:Hid (zhB p):=hq.1 rfl;have a4:m<=4:=by rw[← O.out];exact Z.1
  clear hq
  by_cases h60:n<=60
  ·have d0:decide (60<n)=false:=by simp;omega
   go_upto_region 4 with fail;have r2:=zd K (.cells #[(),(),(),()] 319);have x2:=zero_row (Jb w1 (.cells _ 319));have P:=zk C (.cells #[(),(),(),()] 319);have hf:=zM K;generalize w1.alloc _=w2 at r2 x2 P ⊢;generalize w1.heap.size=f at hf x2 ⊢;clear K C;go_wp2;go_loopw [7,21] (λ_ i wr=>∃ k,k<=m/\i=int i64 k/\wr.rowIs f 319 4 (λj=>int i64 (zbJ k p.A 0 j))/\wr.heap[w.heap.size]?=some (.cells #[(),(),(),()] 319 (0,0))/\Below w.heap.size w wr) (λ_ i _=>m - (intOf i).toNat)
   case atStart=>exact⟨0,Jq _,rfl,x2.congr (λj _=>by unfold zbJ;rw[Je (Nat.not_lt_zero _),Je (Nat.not_lt_zero _)]),r2,P⟩
   case round =>
    obtain⟨k,hk,rfl,t,hr,x⟩:=hrel;clear r2 x2 P
    by_cases hlt:k<m
    ·obtain⟨b,off,rfl,h1,h2⟩:=HX k (by rw[O.out];exact hlt)
     have V:=Ja w _ h1;have c1:=(x.cell V).trans h1;have o0:=t.cell (i:=k) (by omega)
     have f0:=t.frozen k;have i1:(0:Int)<=(k:Int):=by omega
     have i2:(k:Int)<4:=by omega
     clear h1 h2;go_wp2;go_roundw
     case rel=>exact⟨k+1,by omega,by go_num,(t.set k _).congr (λj _=>by
      by_cases e:j=k
      ·subst e;rw[Jf rfl,qr _ _ (Nat.lt_succ_self _)]
      ·rw[Je e,QB _ _ _ _ e]),zD hr _ _ (by omega),x.setCell (by show w.heap.size<=f;omega) _⟩
     case measure=>simp[intOf];omega
    ·obtain rfl:k=m:=by omega
     have z:wr.rowIs f 319 4 (λj=>.int _ (qy p S 0 j)):=t.congr (λj _=>by rw[freeAt_0,O.out])
     clear t;go_wp2;go_loopw [8,9,34] (λ_ _ i wr=>∃ k,k<=n/\i=int i64 k/\(∀ j,j<k->¬ Has (Qc S) j (S j).who/\zmC p (QW p S j) (S j))/\wr.rowIs f 319 4 (λj=>int i64 (qy p S k j))/\wr.heap[w.heap.size]?=some (.cells #[(),(),(),()] 319 (0,0))/\Below w.heap.size w wr) (λ_ _ i _=>n - (intOf i).toNat)
     case atStart=>exact⟨0,Jq _,rfl,λj hj=>by omega,z,hr,x⟩
     case round =>
      obtain⟨i,hi,rfl,N,d,y,a⟩:=hrel;have HA:=hI N;clear N z hr x
      by_cases hlt2:i<n
      ·obtain⟨b,off,rfl,h0,h1,h2,h3⟩:=HZ i hlt2
       have V:=Ja w _ h0;have c0:=(a.cell V).trans h0;have c1:=(a.cell (p:=⟨b,_+1,_⟩) V).trans h1;have c2:=(a.cell (p:=⟨b,_+2,_⟩) V).trans h2;have c3:=(a.cell (p:=⟨b,_+3,_⟩) V).trans h3;have o:=Jb wr (.cells #[(S i).who,(S i).ln,(S i).len,(S i).hei] 220);have r:=zk a (.cells #[(S i).who,(S i).ln,(S i).len,(S i).hei] 220);have A:=zd y (.cells #[(S i).who,(S i).ln,(S i).len,(S i).hei] 220);have u:=qo d (zk (Ji _ wr) (.cells #[(S i).who,(S i).ln,(S i).len,(S i).hei] 220));clear h0 h1 h2 h3;go_upto_region 12 with fail;generalize hW:wr.alloc _=W at o r A u ⊢;clear hW;have E:=zM o;have D:=u.lt;have a3:=hI u;have z0:∀ g:zn W,g.val.cell? _=some (.int _ _):=λg=>(g.bel.cell E).trans (za o 0 _ rfl)
       have z1:∀ g:zn W,g.val.cell? _=some (.int _ _):=λg=>(g.bel.cell E).trans (za o 1 _ rfl)
       have z2:∀ g:zn W,g.val.cell? _=some (.int _ _):=λg=>(g.bel.cell E).trans (za o 2 _ rfl)
       have z3:∀ g:zn W,g.val.cell? _=some (.int _ _):=λg=>(g.bel.cell E).trans (za o 3 _ rfl)
       have y0:∀ g:zn W,_:=λg=>(g.bel.cell D).trans (u.cell (i:=0) (by omega))
       have y1:∀ g:zn W,_:=λg=>(g.bel.cell D).trans (u.cell (i:=1) (by omega))
       have y2:∀ g:zn W,_:=λg=>(g.bel.cell D).trans (u.cell (i:=2) (by omega))
       have y3:∀ g:zn W,_:=λg=>(g.bel.cell D).trans (u.cell (i:=3) (by omega))
       have i1:(0:Int)<=(i:Int):=by omega
       have i2:(i:Int)<=(c:Int):=by omega
       clear c0 c1 c2 c3 o d y a u
       by_cases hh:Has (Qc S) i (S i).who
       ·have e1:=Jd ((QC _ _ _).2 hh)
        have HH:=hI hh;clear hh;refine zh (by kernel_rfl) (by kernel_rfl) ?_
        repeat(first|go_big_quiet_skip|(go_big_quiet_want;go_big_quiet_op;first|go_big_quiet_on|(apply Jg;refine⟨λg=>?_,?_⟩;(focus(first|(go_at_call 243;refine zf (v:=int i64 (Zv (Qc S) (S i).who i)) ((zbz _ i c S _ _ (by omega) ((HZ.upto (by omega)).below (ze r g.bel))).mono ?_);rintro e w4 ⟨rfl,s⟩;exact⟨rfl,s⟩)));go_big_quiet_on)))
        refine Jl ?_;rintro _ ⟨g,rfl⟩;have U:=zb A g.bel;obtain⟨o0,o1,o2,o3⟩:=ce4 U;obtain⟨f0,f1,f2,f3⟩:=fe4 U;go_wp2;have L:=zeE U () () () ();obtain⟨F,H,I,J⟩:=ce4 L;exact Jj (by simp[results,results236,go_sem,F,H,I,J,zmH]) rfl ⟨.inr ⟨λh=>(h.2.2 i hlt2).1 HH,rfl⟩,zcx (ze r g.bel) (Jr _) _ _ _ _⟩
       ·have e1:=Jc (λh=>hh ((QC _ _ _).1 h))
        have HH:=hI hh;clear hh
        by_cases hfit:zmC p (qy p S i) (S i)
        ·have B:=hI hfit
         clear hfit;refine zh (by kernel_rfl) (by kernel_rfl) ?_
         repeat(first|go_big_quiet_skip|(go_big_quiet_want;go_big_quiet_op;first|go_big_quiet_on|(apply Jg;refine⟨λg=>?_,?_⟩;(focus(first|(go_at_call 243;refine zf (v:=int i64 (Zv (Qc S) (S i).who i)) ((zbz _ i c S _ _ (by omega) ((HZ.upto (by omega)).below (ze r g.bel))).mono ?_);rintro e w4 ⟨rfl,s⟩;exact⟨rfl,s⟩)|(go_at_call 264;refine zf (v:=.bool true) ((zfp _ _ mc p _ _ _ _ _ _ O a4 (HX.below (ze r g.bel))).mono ?_);rintro e w4 ⟨⟨bb,rfl,hi⟩,s⟩;obtain rfl:=hi.2 B;exact⟨rfl,s⟩)));go_big_quiet_on)))
         refine Jl ?_;rintro _ ⟨g,rfl⟩;obtain⟨l,X⟩:∃ l:Nat,(S i).ln=l:=⟨(S i).ln.toNat,by have:=B.ln;unfold In at this;omega⟩
         have a7:l<p.n:=by have:=B.ln;unfold In at this;omega
         have a0:=hI X;have l4:l<4:=by have:=O.out;omega
         have v1:g.val.cell? ⟨wr.heap.size,1,none⟩=some (int i64 (l:Int)):=by rw[z1 g,X]
         have v2:=z2 g;have M:=qo a3 g.bel;have v3:=M.cell l4;have v4:=M.frozen l;have l1:(0:Int)<=(l:Int):=by omega
         have l2:(l:Int)<4:=by omega
         have HB:=hI (ziG l Z (by omega) (λj hj=>(HA j hj).2.len))
         have HN:=hI B.len;have a9:IntKind.i64.wrap (qy p S i l - (S i).len)=qy p S i l - (S i).len:=by
          have h1:=HB.out;have h2:=HN.out;unfold In at h2;rw[Jk];omega
         have a1:=hI (zb A g.bel);have Y:=hI (ze r g.bel);have a2:=hI M;clear X M z0 z1 z2 z3 y0 y1 y2 y3 A r;generalize g.val=G at *;go_upto_region 14 with fail;have T:Hid ((G.setCell (f,l) (int i64 (qy p S i l - (S i).len))).drew.rowIs f 319 4 (λj=>int i64 (qy p S (i+1) j))):=by
          refine(a2.set l _).congr (λj _=>?_)
          rw[← zlQ p S i l j a7 a0.out]
          split <;> rfl
         have a8:Hid ((G.setCell ⟨f,l,_⟩ (int i64 (qy p S i l - (S i).len))).drew.heap[w.heap.size]?=_):=zK (zD a1 _ _ (by omega))
         have a6:Hid (Below _ w (G.setCell (f,l) (int i64 (qy p S i l - (S i).len))).drew):=(Y.setCell (by show w.heap.size<=f;omega) _).drew
         have a5:Hid (∀ j,j<i+1->¬ Has _ j (S j).who/\zmC p _ _):=λj hj=>by
          by_cases e:j=i
          ·subst e;exact⟨HH,zgC.1 B⟩
          ·exact HA j (by omega)
         clear HH B HA a0 a1 Y a2 HB HN a3;go_region
         all_goals (go_wp2;go_roundw)
         all_goals first|(exact⟨_,by omega,by go_num,a5,T,a8,a6⟩)|(simp[intOf];omega)
        ·have B:=hI hfit
         clear hfit;refine zh (by kernel_rfl) (by kernel_rfl) ?_
         repeat(first|go_big_quiet_skip|(go_big_quiet_want;go_big_quiet_op;first|go_big_quiet_on|(apply Jg;refine⟨λg=>?_,?_⟩;(focus(first|(go_at_call 243;refine zf (v:=int i64 (Zv (Qc S) (S i).who i)) ((zbz _ i c S _ _ (by omega) ((HZ.upto (by omega)).below (ze r g.bel))).mono ?_);rintro e w4 ⟨rfl,s⟩;exact⟨rfl,s⟩)|(go_at_call 264;refine zf (v:=.bool false) ((zfp _ _ mc p _ _ _ _ _ _ O a4 (HX.below (ze r g.bel))).mono ?_);rintro e w4 ⟨⟨bb,rfl,hi⟩,s⟩;obtain rfl:=Bool.eq_false_iff.2 (λe=>B (hi.1 e));exact⟨rfl,s⟩)));go_big_quiet_on)))
         refine Jl ?_;rintro _ ⟨g,rfl⟩;have U:=zb A g.bel;obtain⟨o0,o1,o2,o3⟩:=ce4 U;obtain⟨f0,f1,f2,f3⟩:=fe4 U;go_wp2;have L:=zeE U () () () ();obtain⟨F,H,I,J⟩:=ce4 L;exact Jj (by simp[results,results236,go_sem,F,H,I,J,zmH]) rfl ⟨.inr ⟨λh=>B (zgC.2 (h.2.2 i hlt2).2),rfl⟩,zcx (ze r g.bel) (Jr _) _ _ _ _⟩
      ·obtain rfl:i=n:=by omega
       obtain⟨o0,o1,o2,o3⟩:=ce4 y;obtain⟨f0,f1,f2,f3⟩:=fe4 y;have c0:=d.cell (i:=0) (by omega)
       have c1:=d.cell (i:=1) (by omega)
       have c2:=d.cell (i:=2) (by omega)
       have c3:=d.cell (i:=3) (by omega)
       go_wp2;have L:=zeE y (qy p S i 0) (qy p S i 1) (qy p S i 2) (qy p S i 3);obtain⟨F,H,I,J⟩:=ce4 L;exact Jj (by simp[results,results236,go_sem,F,H,I,J,zmH]) rfl ⟨.inl ⟨⟨Z,h60,HA⟩,rfl⟩,zcx a (Jr _) _ _ _ _⟩
  ·have d0:decide (60<n)=true:=by simp;omega
   obtain⟨o0,o1,o2,o3⟩:=ce4 K;obtain⟨f0,f1,f2,f3⟩:=fe4 K;go_wp2;have L:=zeE K () () () ();obtain⟨F,H,I,J⟩:=ce4 L;exact Jj (by simp[results,results236,go_sem,F,H,I,J,zmH]) rfl ⟨.inr ⟨λh=>h60 h.2.1,rfl⟩,zcx C (Jr _) _ _ _ _⟩
end Go.Proofs.YtmdnjgihooflfaaGreatDoor
