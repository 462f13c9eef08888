/-
  OWN TEXT: AskedI, AskedL, NamedJ, AskedJ, AskedK, CloneR, CopyLd.
-/
import Derived.Test.YtmdnjgihooflfaaGreatDoorKitCo
import Derived.BigQuiet
import Derived.Deep.LoopGhost
import Derived.Lib.SliceRun
import Derived.Deep.DeepCutAuto
import Derived.Test.YtmdnjgihooflfaaGreatDoorB24
namespace Go.Proofs.YtmdnjgihooflfaaGreatDoor
open Go.RowKit
open Go.Value (int)
open Go.IntKind (i64)
open Tryz
set_option maxHeartbeats 64000000
set_option maxRecDepth 100000
/-- The operation is not good. -/
theorem zhi (x:OpD)(g:Option Addr)(i:Nat)(a:Option Addr)(n c:Nat)(w:World)(o:OpD.Is w [x.kind,x.own,x.name,(g,x.lgn,i),x.pe,x.len,x.hei,x.cl,x.all,x.be,x.unt,x.now] x)(s:x.own.size<=1000000000000000)(l:Zm w)(pe:Nat->Addr)(m:qY w pe)(f:¬ zac x) :
  Calls prog 106 #[(a,n,c),.agg (x,g,i)] w λe w'=>e=.panicked [{ v:=.iface 96 (.agg #[.iface 391 (.pointer (some (pe 1)))]),recovered:=false }]/\Below w.heap.size w w':=by
 have b:Below _ w (w.alloc (.cells (x,g,i) 47)):=zk bZ _;have r:Hid (∀ w',_->OpD.Is w' _ x):=λ_ h=>o.below h
 have p:Hid (∀ w',_->Zm w'):=λ_ h=>l.below h
 have k:=(qY.below m b).c1;have q:=hI (Jc f);clear o l m f;go_enter func106,ntmps106;go_upto_region 1 with fail;have j:1<_:=Ja _ _ k;go_region_with (first|(go_at_call 194;refine(zdX _ x _ s (r _ b.drew) (p _ b.drew)).mono ?_;rw[q.out];rintro e w2 ⟨rfl,d⟩;have g5:=(d.cell j).trans k)|(go_at_call 193;refine(zaD _ _ _).mono ?_;rintro e w3 ⟨rfl,rfl⟩;refine zhh (P:=prog) (a:=⟨#[],[]⟩) (w:=w) ?_))
 all_goals exact⟨rfl,rfl,ze b.drew d⟩
/-- The operation is good, and its legs don't fit. -/
theorem zfU (x:OpD)(j:Option Addr)(m:Nat)(a:Option Addr)(n c:Nat)(S:Nat->Zj)(k:Nat)(w:World)(O:OpD.Is w [x.kind,x.own,x.name,(j,x.lgn,m),x.pe,x.len,x.hei,x.cl,x.all,x.be,x.unt,x.now] x)(hs:x.own.size<=1000000000000000)(I:Zm w)(pe:Nat->Addr)(K:qY w pe)(r:zac x)(L:x.kind=(k:Int))(C:k<10)(M:Z0 k≠0)(hn:n<=1048576)(hm:x.lgn<=1048576)(J:QL n S 1048576)(s:qB w a n S)(q:zT w j x.lgn x.lg)(l:¬ (QJ n S/\zad n S x.lgn x.lg)) :
  Calls prog 106 #[(a,n,c),.agg (x,j,m)] w λe w'=>e=.panicked [{ v:=.iface 96 (.agg #[.iface 391 (.pointer (some (pe 2)))]),recovered:=false }]/\Below w.heap.size w w':=by
 have f:Below _ w (w.alloc (.cells (x,j,m) 47)):=zk bZ _;have d:=Jb w (.cells (x,j,m) 47);have HX:Hid (∀ w',_->OpD.Is w' _ x):=λ_ h=>O.below h
 have G:Hid (∀ w',_->Zm w'):=λ_ h=>I.below h
 have t:=qY.below K f;have HO:=hI (Jd r);have Z:=hI L;have y:=hI l;have A:Hid (∀ w',_->qB w' a n S):=λ_ h=>s.below h
 have z:Hid (∀ w',_->zT w' j _ _):=λ_ h=>q.below h
 have B:=hI J;have e0:(Z0 k == 0)=false:=by simpa using M
 clear O I K r L l s q J M;go_enter func106,ntmps106;go_upto_region 1 with fail;generalize w.alloc _=W at f d t ⊢;have b:=zM d;have o:=G W f;have X:∀ g:zn W,g.val.cell? _=some (.int _ _):=λg=>(g.bel.cell b).trans (za d 0 _ rfl)
 have z1:∀ g:zn W,g.val.cell? _=some (.string _):=λg=>(g.bel.cell b).trans (za d 1 _ rfl)
 have z2:∀ g:zn W,g.val.cell? _=some (.int _ _):=λg=>(g.bel.cell b).trans (za d 2 _ rfl)
 have Y:∀ g:zn W,g.val.cell? _=some (.slice j _ m):=λg=>(g.bel.cell b).trans (za d 3 _ rfl)
 have z4:∀ g:zn W,g.val.cell? _=some (.int _ _):=λg=>(g.bel.cell b).trans (za d 4 _ rfl)
 have z5:∀ g:zn W,g.val.cell? _=some (.int _ _):=λg=>(g.bel.cell b).trans (za d 5 _ rfl)
 have z6:∀ g:zn W,g.val.cell? _=some (.int _ _):=λg=>(g.bel.cell b).trans (za d 6 _ rfl)
 have z7:∀ g:zn W,g.val.cell? _=some (.int _ _):=λg=>(g.bel.cell b).trans (za d 7 _ rfl)
 have z8:∀ g:zn W,g.val.cell? _=some (.bool _):=λg=>(g.bel.cell b).trans (za d 8 _ rfl)
 have z9:∀ g:zn W,g.val.cell? _=some (.int _ _):=λg=>(g.bel.cell b).trans (za d 9 _ rfl)
 have E:∀ g:zn W,g.val.cell? _=some (.int _ _):=λg=>(g.bel.cell b).trans (za d 10 _ rfl)
 have F:∀ g:zn W,g.val.cell? _=some (.int _ _):=λg=>(g.bel.cell b).trans (za d 11 _ rfl)
 have g1:∀ g:zn W,_:=λg=>(qY.below t g.bel).c1
 have H:∀ g:zn W,_:=λg=>(qY.below t g.bel).c2
 have U:∀ g:zn W,_:=λg=>((o.below g.bel) k C).2.2.1
 have a0:(0:Int)<=(k:Int):=by omega
 have a1:(k:Int)<10:=by omega
 clear t o;refine zh (by kernel_rfl) (by kernel_rfl) ?_
 repeat(first|go_big_quiet_skip|(go_big_quiet_want;go_big_quiet_op;first|go_big_quiet_on|(apply Jg;refine⟨λg=>?_,?_⟩;(focus(go_at_call 194;refine zf (v:=.bool true) ((zdX _ x _ hs (HX _ (ze f g.bel)) (G _ (ze f g.bel))).mono ?_);rw[HO.out];exact λ_ _ h=>h));go_big_quiet_on)|(apply Jg;refine⟨λg=>?_,?_⟩;(focus(go_at_call 193;refine zf (v:=.tuple #[]) ((ZD _ _).mono ?_);rintro e w2 ⟨rfl,rfl⟩;exact⟨rfl,bZ⟩));go_big_quiet_on)))
 refine Jl ?_;rintro _ ⟨g,rfl⟩;have b1:=zb d g.bel;have i:=ze f g.bel;have u0:∀ h:zn _,h.val.cell? _=some (.int _ (k:Int)):=λh=>by rw[← Z.out];exact X ⟨_,ze g.bel h.bel⟩
 have u2:∀ h:zn _,h.val.cell? _=_:=λh=>U ⟨_,ze g.bel h.bel⟩
 have v2:∀ h:zn _,h.val.cell? _=_:=λh=>H ⟨_,ze g.bel h.bel⟩
 have u3:∀ h:zn _,h.val.cell? _=_:=λh=>Y ⟨_,ze g.bel h.bel⟩
 clear X z1 z2 Y z4 z5 z6 z7 z8 z9 E F U g1 H;have Q:=u0 ⟨_,bZ⟩;have R:=u2 ⟨_,bZ⟩;have T:=u3 ⟨_,bZ⟩;have u:=v2 ⟨_,bZ⟩;dsimp only at Q R T u;clear u0 u2 u3 v2;go_upto_region 2 with fail;generalize g.val=V at Q R T u i ⊢;have D:2<V.heap.size:=Ja _ _ u;go_region_with (first|(go_at_call 195;refine(Q0 a j n _ c m S _ _ hn hm B (A _ i.drew) (z _ i.drew)).mono ?_;rintro e w2 ⟨⟨v,rfl,N⟩,p⟩;obtain rfl:=Bool.eq_false_iff.2 (λh=>y (N.1 h));clear N;have g5:=(p.cell D).trans u)|(go_at_call 193;refine(zaD _ _ _).mono ?_;rintro e w3 ⟨rfl,rfl⟩;refine zhh (P:=prog) (a:=⟨#[],[]⟩) (w:=w) ?_))
 all_goals exact⟨rfl,rfl,ze i.drew p⟩
/-- It names one that it may be done to. -/
theorem zja (x:OpD)(l:Option Addr)(m:Nat)(a:Option Addr)(n c:Nat)(k:Nat)(w:World)(u:Zm w)(z:x.kind=(k:Int))(D:k<10)(I:zaS k=true)(pe:Nat->Addr)(y:qY w pe)(S:Nat->ql)(Y:qO w a n S)(hn:n<=1048576)(j:Nat)(K:x.name=(j:Int)+1)(s:j<n)(F:zeo x.kind (S j) x.now) :
  Calls prog 107 #[(a,n,c),.agg (x,l,m)] w λe w'=>e=.returned (.tuple #[])/\Below w.heap.size w w':=by
 have i:=Jb w (.cells (x,l,m) 47);have f:Below _ w (w.alloc (.cells (x,l,m) 47)):=zk bZ _;have M:(w.alloc _).cell? _=some (.bool true):=(f.cell u.lt).trans (by rw[← I];exact(u k D).2.1)
 have N:(w.alloc (.cells (x,l,m) 47)).cell? (w.heap.size,0)=some (k:Int):=by rw[← z];exact za i 0 _ rfl
 have A:(0:Int)<=(k:Int):=by omega
 have B:(k:Int)<10:=by omega
 obtain⟨C,H,hI⟩:=Y;obtain⟨bb,bo,rfl,h⟩:=H j s;obtain⟨o,q,g,_,_⟩:=hI j s;obtain⟨b,J⟩:∃ b,b=S j:=⟨_,rfl⟩;rw[← J] at g F;have P:=hI F;have d:bb<w.heap.size:=Ja w _ (h 0 (by decide))
 have G:=(qY.below y f).c3;have t:=(qY.below y f).c4;have U:decide (x.name<=(n:Int))=true:=Jd (by omega)
 have ej:x.name - 1=(j:Int):=by omega
 have V:1<=x.name:=by omega
 have X:x.name<=1048576:=by omega
 have HJ:Hid _:=K;have O:Hid _:=z;clear z K;go_enter func107,ntmps107;go_upto_region 1 with fail;generalize w.alloc _=W at i f M N G t ⊢;have c0:W.cell? _=some (.int _ _):=(f.cell (p:=⟨bb,bo+_,_⟩) d).trans (by have:=h 0 (by decide);rw[g] at this;exact this)
 have c1:W.cell? _=some (.int _ _):=(f.cell d).trans (by have:=h 1 (by decide);rw[g] at this;exact this)
 have c2:W.cell? _=some (.string _):=(f.cell d).trans (by have:=h 2 (by decide);rw[g] at this;exact this)
 have c3:W.cell? _=some (.slice o _ q):=(f.cell d).trans (by have:=h 3 (by decide);rw[g] at this;exact this)
 have c4:W.cell? _=some (.int _ _):=(f.cell d).trans (by have:=h 4 (by decide);rw[g] at this;exact this)
 have c5:W.cell? _=some (.int _ _):=(f.cell d).trans (by have:=h 5 (by decide);rw[g] at this;exact this)
 have c6:W.cell? _=some (.int _ _):=(f.cell d).trans (by have:=h 6 (by decide);rw[g] at this;exact this)
 have c7:W.cell? _=some (.int _ _):=(f.cell d).trans (by have:=h 7 (by decide);rw[g] at this;exact this)
 have c8:W.cell? _=some (.bool _):=(f.cell d).trans (by have:=h 8 (by decide);rw[g] at this;exact this)
 have c9:W.cell? _=some (.int _ _):=(f.cell d).trans (by have:=h 9 (by decide);rw[g] at this;exact this)
 have Q:W.cell? _=some (.int _ _):=(f.cell d).trans (by have:=h 10 (by decide);rw[g] at this;exact this)
 have R:W.cell? _=some (.int _ _):=(f.cell d).trans (by have:=h 11 (by decide);rw[g] at this;exact this)
 have T:W.cell? _=some (.int _ _):=(f.cell d).trans (by have:=h 12 (by decide);rw[g] at this;exact this)
 have y1:W.cell? _=some (.string _):=za i 1 _ rfl;have y2:W.cell? _=some (.int _ _):=za i 2 _ rfl;have y3:W.cell? _=some (.slice l _ m):=za i 3 _ rfl;have y4:W.cell? _=some (.int _ _):=za i 4 _ rfl;have y5:W.cell? _=some (.int _ _):=za i 5 _ rfl;have y6:W.cell? _=some (.int _ _):=za i 6 _ rfl;have y7:W.cell? _=some (.int _ _):=za i 7 _ rfl;have y8:W.cell? _=some (.bool _):=za i 8 _ rfl;have y9:W.cell? _=some (.int _ _):=za i 9 _ rfl;have Z:W.cell? _=some (.int _ _):=za i 10 _ rfl;have a0:W.cell? _=some (.int _ _):=za i 11 _ rfl;have E:4<W.heap.size:=Ja W _ t;clear u I y F h g H hI J i;go_upto_region 3 with(go_at_call 193;refine(ZD _ _).mono ?_;rintro e w1 ⟨rfl,rfl⟩);have ew:IntKind.i64.wrap (j:Int)=(j:Int):=by rw[Jk];omega
 rw[← O.out] at N;clear M G U A B;go_region_with (first|(go_at_call 196;refine(zkK x l m b o q _).mono ?_;rintro e w2 ⟨⟨v,rfl,L⟩,r⟩;obtain rfl:=L.2 P;clear L;have g5:=(r.cell (p:=⟨4,0,_⟩) (by simpa using E)).trans (by simpa using t))|(go_at_call 193;refine(ZD _ _).mono ?_;rintro e w3 ⟨rfl,rfl⟩))
 all_goals (go_end0;exact⟨rfl,ze f.drew r⟩)
/-- The operation is good, and is of a kind Zx legs. -/
theorem zfV (x:OpD)(i:Option Addr)(j:Nat)(a:Option Addr)(n c:Nat)(k:Nat)(w:World)(C:OpD.Is w [x.kind,x.own,x.name,(i,x.lgn,j),x.pe,x.len,x.hei,x.cl,x.all,x.be,x.unt,x.now] x)(L:x.own.size<=1000000000000000)(y:Zm w)(pe:Nat->Addr)(z:qY w pe)(m:zac x)(A:x.kind=(k:Int))(q:k<10)(B:Z0 k=0) :
  Calls prog 106 #[(a,n,c),.agg (x,i,j)] w λe w'=>e=.returned (.tuple #[])/\Below w.heap.size w w':=by
 have f:Below _ w (w.alloc (.cells (x,i,j) 47)):=zk bZ _;have d:=Jb w (.cells (x,i,j) 47);have H:Hid (∀ w',_->OpD.Is w' _ x):=λ_ h=>C.below h
 have t:Hid (∀ w',_->Zm w'):=λ_ h=>y.below h
 have o:=qY.below z f;have G:=hI (Jd m);have F:=hI A;clear C y z m A;go_enter func106,ntmps106;go_upto_region 1 with fail;generalize w.alloc _=W at f d o ⊢;have b:=zM d;have l:=t W f;have E:∀ g:zn W,g.val.cell? _=some (.int _ _):=λg=>(g.bel.cell b).trans (za d 0 _ rfl)
 have N:∀ g:zn W,g.val.cell? _=some (.string _):=λg=>(g.bel.cell b).trans (za d 1 _ rfl)
 have O:∀ g:zn W,g.val.cell? _=some (.int _ _):=λg=>(g.bel.cell b).trans (za d 2 _ rfl)
 have P:∀ g:zn W,g.val.cell? _=some (.slice i _ j):=λg=>(g.bel.cell b).trans (za d 3 _ rfl)
 have Q:∀ g:zn W,g.val.cell? _=some (.int _ _):=λg=>(g.bel.cell b).trans (za d 4 _ rfl)
 have R:∀ g:zn W,g.val.cell? _=some (.int _ _):=λg=>(g.bel.cell b).trans (za d 5 _ rfl)
 have S:∀ g:zn W,g.val.cell? _=some (.int _ _):=λg=>(g.bel.cell b).trans (za d 6 _ rfl)
 have T:∀ g:zn W,g.val.cell? _=some (.int _ _):=λg=>(g.bel.cell b).trans (za d 7 _ rfl)
 have U:∀ g:zn W,g.val.cell? _=some (.bool _):=λg=>(g.bel.cell b).trans (za d 8 _ rfl)
 have V:∀ g:zn W,g.val.cell? _=some (.int _ _):=λg=>(g.bel.cell b).trans (za d 9 _ rfl)
 have r:∀ g:zn W,g.val.cell? _=some (.int _ _):=λg=>(g.bel.cell b).trans (za d 10 _ rfl)
 have s:∀ g:zn W,g.val.cell? _=some (.int _ _):=λg=>(g.bel.cell b).trans (za d 11 _ rfl)
 have I:∀ g:zn W,_:=λg=>(qY.below o g.bel).c1
 have u:∀ g:zn W,_:=λg=>(qY.below o g.bel).c2
 have D:∀ g:zn W,_:=λg=>(((l.below g.bel) k q).2.2.1).trans (by rw[B])
 have J:(0:Int)<=(k:Int):=by omega
 have K:(k:Int)<10:=by omega
 clear o l;refine zh (by kernel_rfl) (by kernel_rfl) ?_
 repeat(first|go_big_quiet_skip|(go_big_quiet_want;go_big_quiet_op;first|go_big_quiet_on|(apply Jg;refine⟨λg=>?_,?_⟩;(focus(go_at_call 194;refine zf (v:=.bool true) ((zdX _ x _ L (H _ (ze f g.bel)) (t _ (ze f g.bel))).mono ?_);rw[G.out];exact λ_ _ h=>h));go_big_quiet_on)|(apply Jg;refine⟨λg=>?_,?_⟩;(focus(go_at_call 193;refine zf (v:=.tuple #[]) ((ZD _ _).mono ?_);rintro e M ⟨rfl,rfl⟩;exact⟨rfl,bZ⟩));go_big_quiet_on)))
 refine Jl ?_;rintro _ ⟨g,rfl⟩;have b1:=zb d g.bel;have p:=ze f g.bel;have u0:∀ h:zn _,h.val.cell? _=some (.int _ (k:Int)):=λh=>by rw[← F.out];exact E ⟨_,ze g.bel h.bel⟩
 have u2:∀ h:zn _,h.val.cell? _=_:=λh=>D ⟨_,ze g.bel h.bel⟩
 have v2:∀ h:zn _,h.val.cell? _=_:=λh=>u ⟨_,ze g.bel h.bel⟩
 clear E N O P Q R S T U V r s D I u B;go_upto_region 2 with fail;refine zh (by kernel_rfl) (by kernel_rfl) ?_
 repeat(first|go_big_quiet_skip|(go_big_quiet_want;go_big_quiet_op;first|go_big_quiet_on|(apply Jg;refine⟨λg=>?_,?_⟩;(focus(go_at_call 193;refine zf (v:=.tuple #[]) ((ZD _ _).mono ?_);rintro e M ⟨rfl,rfl⟩;exact⟨rfl,bZ⟩));go_big_quiet_on)))
 refine Jl ?_;rintro _ ⟨h,rfl⟩;go_end0;exact⟨rfl,ze p h.bel⟩
/-- The operation is good, and its legs fit. -/
theorem zhj (x:OpD)(i:Option Addr)(m:Nat)(a:Option Addr)(n c:Nat)(S:Nat->Zj)(k:Nat)(w:World)(L:OpD.Is w [x.kind,x.own,x.name,(i,x.lgn,m),x.pe,x.len,x.hei,x.cl,x.all,x.be,x.unt,x.now] x)(hs:x.own.size<=1000000000000000)(G:Zm w)(pe:Nat->Addr)(I:qY w pe)(q:zac x)(J:x.kind=(k:Int))(B:k<10)(K:Z0 k≠0)(Z:n<=1048576)(Y:x.lgn<=1048576)(H:QL n S 1048576)(r:qB w a n S)(p:zT w i x.lgn x.lg)(j:QJ n S/\zad n S x.lgn x.lg) :
  Calls prog 106 #[(a,n,c),.agg (x,i,m)] w λe w'=>e=.returned (.tuple #[])/\Below w.heap.size w w':=by
 have f:Below _ w (w.alloc (.cells (x,i,m) 47)):=zk bZ _;have d:=Jb w (.cells (x,i,m) 47);have T:Hid (∀ w',_->OpD.Is w' _ x):=λ_ h=>L.below h
 have E:Hid (∀ w',_->Zm w'):=λ_ h=>G.below h
 have s:=qY.below I f;have R:=hI (Jd q);have Q:=hI J;have t:=hI j;have y:Hid (∀ w',_->qB w' a n S):=λ_ h=>r.below h
 have u:Hid (∀ w',_->zT w' i _ _):=λ_ h=>p.below h
 have z:=hI H;have e0:(Z0 k == 0)=false:=by simpa using K
 clear L G I q J j r p H K;go_enter func106,ntmps106;go_upto_region 1 with fail;generalize w.alloc _=W at f d s ⊢;have b:=zM d;have o:=E W f;have O:∀ g:zn W,g.val.cell? _=some (.int _ _):=λg=>(g.bel.cell b).trans (za d 0 _ rfl)
 have z1:∀ g:zn W,g.val.cell? _=some (.string _):=λg=>(g.bel.cell b).trans (za d 1 _ rfl)
 have z2:∀ g:zn W,g.val.cell? _=some (.int _ _):=λg=>(g.bel.cell b).trans (za d 2 _ rfl)
 have P:∀ g:zn W,g.val.cell? _=some (.slice i _ m):=λg=>(g.bel.cell b).trans (za d 3 _ rfl)
 have z4:∀ g:zn W,g.val.cell? _=some (.int _ _):=λg=>(g.bel.cell b).trans (za d 4 _ rfl)
 have z5:∀ g:zn W,g.val.cell? _=some (.int _ _):=λg=>(g.bel.cell b).trans (za d 5 _ rfl)
 have z6:∀ g:zn W,g.val.cell? _=some (.int _ _):=λg=>(g.bel.cell b).trans (za d 6 _ rfl)
 have z7:∀ g:zn W,g.val.cell? _=some (.int _ _):=λg=>(g.bel.cell b).trans (za d 7 _ rfl)
 have z8:∀ g:zn W,g.val.cell? _=some (.bool _):=λg=>(g.bel.cell b).trans (za d 8 _ rfl)
 have z9:∀ g:zn W,g.val.cell? _=some (.int _ _):=λg=>(g.bel.cell b).trans (za d 9 _ rfl)
 have C:∀ g:zn W,g.val.cell? _=some (.int _ _):=λg=>(g.bel.cell b).trans (za d 10 _ rfl)
 have D:∀ g:zn W,g.val.cell? _=some (.int _ _):=λg=>(g.bel.cell b).trans (za d 11 _ rfl)
 have U:∀ g:zn W,_:=λg=>(qY.below s g.bel).c1
 have F:∀ g:zn W,_:=λg=>(qY.below s g.bel).c2
 have M:∀ g:zn W,_:=λg=>((o.below g.bel) k B).2.2.1
 have V:(0:Int)<=(k:Int):=by omega
 have X:(k:Int)<10:=by omega
 clear s o;refine zh (by kernel_rfl) (by kernel_rfl) ?_
 repeat(first|go_big_quiet_skip|(go_big_quiet_want;go_big_quiet_op;first|go_big_quiet_on|(apply Jg;refine⟨λg=>?_,?_⟩;(focus(go_at_call 194;refine zf (v:=.bool true) ((zdX _ x _ hs (T _ (ze f g.bel)) (E _ (ze f g.bel))).mono ?_);rw[R.out];exact λ_ _ h=>h));go_big_quiet_on)|(apply Jg;refine⟨λg=>?_,?_⟩;(focus(go_at_call 193;refine zf (v:=.tuple #[]) ((ZD _ _).mono ?_);rintro e N ⟨rfl,rfl⟩;exact⟨rfl,bZ⟩));go_big_quiet_on)))
 refine Jl ?_;rintro _ ⟨g,rfl⟩;have b1:=zb d g.bel;have l:=ze f g.bel;have u0:∀ h:zn _,h.val.cell? _=some (.int _ (k:Int)):=λh=>by rw[← Q.out];exact O ⟨_,ze g.bel h.bel⟩
 have u2:∀ h:zn _,h.val.cell? _=_:=λh=>M ⟨_,ze g.bel h.bel⟩
 have v2:∀ h:zn _,h.val.cell? _=_:=λh=>F ⟨_,ze g.bel h.bel⟩
 have u3:∀ h:zn _,h.val.cell? _=_:=λh=>P ⟨_,ze g.bel h.bel⟩
 clear O z1 z2 P z4 z5 z6 z7 z8 z9 C D M U F;go_upto_region 2 with fail;refine zh (by kernel_rfl) (by kernel_rfl) ?_
 repeat(first|go_big_quiet_skip|(go_big_quiet_want;go_big_quiet_op;first|go_big_quiet_on|(apply Jg;refine⟨λh=>?_,?_⟩;(focus(go_at_call 195;refine zf (v:=.bool true) ((Q0 a i n _ c m S _ _ Z Y z (y _ (ze l h.bel)) (u _ (ze l h.bel))).mono ?_);rintro e N ⟨⟨v,rfl,hv⟩,A⟩;exact⟨by rw[hv.2 t.out],A⟩));go_big_quiet_on)|(apply Jg;refine⟨λg=>?_,?_⟩;(focus(go_at_call 193;refine zf (v:=.tuple #[]) ((ZD _ _).mono ?_);rintro e N ⟨rfl,rfl⟩;exact⟨rfl,bZ⟩));go_big_quiet_on)))
 refine Jl ?_;rintro _ ⟨h,rfl⟩;go_end0;exact⟨rfl,ze l h.bel⟩
def zcb (w:World)(a:Option Addr)(b:List Value):Prop:=∀ ad,a=some ad->∀ j u,b[j]?=some u->w.cell? (ad.add j)=some u
theorem zcb.below {w w':World}{b:Option Addr}{d:List Value}(h:zcb w b d)(f:Below w.heap.size w w'):zcb w' b d:=λa e j u c=>(f.cell (Ja w _ (h a e j u c))).trans (h a e j u c)
theorem cloneStay (i:Option Addr)(n c:Nat)(d:List Value)(w:World)(y:n<=1048576)(x:d.length=n*4)(h1:∀ u ∈ d,u.oneCell'=true)(l:zcb w i d)(b:i=none->n=0/\c=0) :
  Calls prog 209 #[(i,n,c)] w λe w'=>(∃ v,e=.returned v/\w'.ownsRow w.heap.size 220 4 v n d)/\Below w.heap.size w w':=by
 have qT:∀ (w) (a) (n c r c'),(binOp _ 141 (.slice a n c) _).run _ w=_:=λw a n c r c'=>Lib.run_eql_slice_nil w _ _ a n c r c' underlying141
 cases i with
 | none =>
  obtain⟨rfl,rfl⟩:=b rfl;obtain rfl:d=[]:=List.length_eq_zero_iff.1 (by omega)
  clear b l y;go_enter func209,ntmps209;go_wp2;go_ret;exact⟨⟨_,rfl,World.ownsRow_nil _ _ _ _⟩,bZ⟩
 | some ad =>
  obtain⟨z,A,m,o,p⟩:=info_parts Tryz.infoStay;have f:Below _ w (w.alloc (.cells #[] 220)):=zk bZ _;have q:(w.alloc _).ownsRow _ 220 4 _ 0 []:=⟨rfl,.inr ⟨_,0,#[],rfl,Jr _,Jb w _,Jr _,Jq _,rfl,rfl⟩⟩;have s:=hI (l.below f);clear b l;go_enter func209,ntmps209;go_wp2_with (first|(at_builtin;refine zv _ rfl _ _ 141 rfl _ 220 z _ 4 32 underlying141 A m o p rfl (by decide) _ 0 [] (by rfl) q _ n c d rfl (λh=>(by cases h)) x s h1 (by unfold maxLen;omega) (by omega) (by simp) ?_;intro v' w3 g k))
  go_ret;rw[Nat.zero_add,List.nil_append] at g;exact⟨⟨_,rfl,g⟩,f.grown k (by simp) (λj t=>(q.lt j t).1)⟩
theorem cloneRoom (i:Option Addr)(n c:Nat)(d:List Value)(w:World)(y:n<=1048576)(x:d.length=n*4)(h1:∀ u ∈ d,u.oneCell'=true)(l:zcb w i d)(b:i=none->n=0/\c=0) :
  Calls prog 210 #[(i,n,c)] w λe w'=>(∃ v,e=.returned v/\w'.ownsRow w.heap.size 228 4 v n d)/\Below w.heap.size w w':=by
 have qT:∀ (w) (a) (n c r c'),(binOp _ 142 (.slice a n c) _).run _ w=_:=λw a n c r c'=>Lib.run_eql_slice_nil w _ _ a n c r c' underlying142
 cases i with
 | none =>
  obtain⟨rfl,rfl⟩:=b rfl;obtain rfl:d=[]:=List.length_eq_zero_iff.1 (by omega)
  clear b l y;go_enter func210,ntmps210;go_wp2;go_ret;exact⟨⟨_,rfl,World.ownsRow_nil _ _ _ _⟩,bZ⟩
 | some ad =>
  obtain⟨z,A,m,o,p⟩:=info_parts Tryz.infoRoom;have f:Below _ w (w.alloc (.cells #[] 228)):=zk bZ _;have q:(w.alloc _).ownsRow _ 228 4 _ 0 []:=⟨rfl,.inr ⟨_,0,#[],rfl,Jr _,Jb w _,Jr _,Jq _,rfl,rfl⟩⟩;have s:=hI (l.below f);clear b l;go_enter func210,ntmps210;go_wp2_with (first|(at_builtin;refine zv _ rfl _ _ 142 rfl _ 228 z _ 4 32 underlying142 A m o p rfl (by decide) _ 0 [] (by rfl) q _ n c d rfl (λh=>(by cases h)) x s h1 (by unfold maxLen;omega) (by omega) (by simp) ?_;intro v' w3 g k))
  go_ret;rw[Nat.zero_add,List.nil_append] at g;exact⟨⟨_,rfl,g⟩,f.grown k (by simp) (λj t=>(q.lt j t).1)⟩
theorem cloneSeat (i:Option Addr)(n c:Nat)(d:List Value)(w:World)(y:n<=1048576)(x:d.length=n*2)(h1:∀ u ∈ d,u.oneCell'=true)(l:zcb w i d)(b:i=none->n=0/\c=0) :
  Calls prog 211 #[(i,n,c)] w λe w'=>(∃ v,e=.returned v/\w'.ownsRow w.heap.size 234 2 v n d)/\Below w.heap.size w w':=by
 have qT:∀ (w) (a) (n c r c'),(binOp _ 143 (.slice a n c) _).run _ w=_:=λw a n c r c'=>Lib.run_eql_slice_nil w _ _ a n c r c' underlying143
 cases i with
 | none =>
  obtain⟨rfl,rfl⟩:=b rfl;obtain rfl:d=[]:=List.length_eq_zero_iff.1 (by omega)
  clear b l y;go_enter func211,ntmps211;go_wp2;go_ret;exact⟨⟨_,rfl,World.ownsRow_nil _ _ _ _⟩,bZ⟩
 | some ad =>
  obtain⟨z,A,m,o,p⟩:=info_parts Tryz.infoSeat;have f:Below _ w (w.alloc (.cells #[] 234)):=zk bZ _;have q:(w.alloc _).ownsRow _ 234 2 _ 0 []:=⟨rfl,.inr ⟨_,0,#[],rfl,Jr _,Jb w _,Jr _,Jq _,rfl,rfl⟩⟩;have s:=hI (l.below f);clear b l;go_enter func211,ntmps211;go_wp2_with (first|(at_builtin;refine zv _ rfl _ _ 143 rfl _ 234 z _ 2 16 underlying143 A m o p rfl (by decide) _ 0 [] (by rfl) q _ n c d rfl (λh=>(by cases h)) x s h1 (by unfold maxLen;omega) (by omega) (by simp) ?_;intro v' w3 g k))
  go_ret;rw[Nat.zero_add,List.nil_append] at g;exact⟨⟨_,rfl,g⟩,f.grown k (by simp) (λj t=>(q.lt j t).1)⟩
theorem cloneLoad (i:Option Addr)(n c:Nat)(d:List Value)(w:World)(y:n<=1048576)(x:d.length=n*3)(h1:∀ u ∈ d,u.oneCell'=true)(l:zcb w i d)(b:i=none->n=0/\c=0) :
  Calls prog 197 #[(i,n,c)] w λe w'=>(∃ v,e=.returned v/\w'.ownsRow w.heap.size 145 3 v n d)/\Below w.heap.size w w':=by
 have qT:∀ (w) (a) (n c r c'),(binOp _ 35 (.slice a n c) _).run _ w=_:=λw a n c r c'=>Lib.run_eql_slice_nil w _ _ a n c r c' underlying35
 cases i with
 | none =>
  obtain⟨rfl,rfl⟩:=b rfl;obtain rfl:d=[]:=List.length_eq_zero_iff.1 (by omega)
  clear b l y;go_enter func197,ntmps197;go_wp2;go_ret;exact⟨⟨_,rfl,World.ownsRow_nil _ _ _ _⟩,bZ⟩
 | some ad =>
  obtain⟨z,A,m,o,p⟩:=info_parts Tryz.infoLoadO;have f:Below _ w (w.alloc (.cells #[] 145)):=zk bZ _;have q:(w.alloc _).ownsRow _ 145 3 _ 0 []:=⟨rfl,.inr ⟨_,0,#[],rfl,Jr _,Jb w _,Jr _,Jq _,rfl,rfl⟩⟩;have s:=hI (l.below f);clear b l;go_enter func197,ntmps197;go_wp2_with (first|(at_builtin;refine zv _ rfl _ _ 35 rfl _ 145 z _ 3 72 underlying35 A m o p rfl (by decide) _ 0 [] (by rfl) q _ n c d rfl (λh=>(by cases h)) x s h1 (by unfold maxLen;omega) (by omega) (by simp) ?_;intro v' w3 g k))
  go_ret;rw[Nat.zero_add,List.nil_append] at g;exact⟨⟨_,rfl,g⟩,f.grown k (by simp) (λj t=>(q.lt j t).1)⟩
section
open Go.RowKit
structure CLd (w u:World)(k g:Nat)(l:zY)(c a b:Option Addr)(f d e:Nat)(h i j:Option Value):Prop where
 bel:Below w.heap.size w u
 rl:w.heap.size<=g
 src:zY.Is w [(c,l.stn,f),(a,l.ron,d),(b,l.sen,e)] l
 sh:zY.Short l 1048576
 box:u.heap[k]?=some (.cells #[(c,l.stn,f),(a,l.ron,d),(b,l.sen,e)] 145 (0,0))
 res:u.heap[g]?=some (.cells #[True,True,True] 145 (0,0))
 h1:∀ v,h=some v->u.ownsRow w.heap.size 220 4 v l.stn (zy l.st l.stn)
 h2:∀ v,i=some v->u.ownsRow w.heap.size 228 4 v l.ron (zw l.ro l.ron)
 h3:∀ v,j=some v->u.ownsRow w.heap.size 234 2 v l.sen (zB l.se l.sen)
section
variable {w u : World} {xb rb : Nat} {l : zY} {ast aro ase : Option Addr} {cst cro cse : Nat} {p1 p2 p3 : Option Value}
theorem CLd.s (h:CLd w u xb rb l ast aro ase cst cro cse p1 p2 p3):u.cell? (xb,0)=some (ast,l.stn,cst)/\u.cell? (xb,1)=some (aro,l.ron,cro)/\u.cell? (xb,2)=some (ase,l.sen,cse):=⟨za h.box 0 _ rfl,za h.box 1 _ rfl,za h.box 2 _ rfl⟩
theorem CLd.below {b:World}(h:CLd w u xb rb l ast aro ase cst cro cse p1 p2 p3)(a:Below u.heap.size u b):CLd w b xb rb l ast aro ase cst cro cse p1 p2 p3:=⟨ze h.bel a,h.rl,h.src,h.sh,zb h.box a,zb h.res a,λv e=>zo a (h.h1 v e),λv e=>zo a (h.h2 v e),λv e=>zo a (h.h3 v e)⟩
theorem CLd.c1 (h:CLd w u xb rb l ast aro ase cst cro cse none p2 p3):Calls prog 209 #[.slice ast l.stn cst] u λe i=>∃ b c,e=.returned (.slice b l.stn c)/\Hid (CLd w i xb rb l ast aro ase cst cro cse (some (.slice b l.stn c)) p2 p3):=by
 obtain⟨_,_,_,_,_,_,a,d,f,m,o,n,p⟩:=h.src;simp only[List.cons.injEq,Value.slice.injEq,true_and,and_true] at a;obtain⟨⟨rfl,rfl⟩,⟨rfl,rfl⟩,rfl,rfl⟩:=a;refine(cloneStay ast _ cst _ u h.sh.1 (ZR _ _) (QQ _ _) (zal (d.below h.bel)) f.2.2).mono ?_;rintro e i ⟨⟨v,rfl,g⟩,j⟩;obtain⟨b,c,rfl,_⟩:=zp g;have k:=h.below j;exact⟨b,c,rfl,k.bel,k.rl,k.src,k.sh,k.box,k.res,λv' e=>(by cases e;exact zu g h.bel.size),k.h2,k.h3⟩
theorem CLd.c2 (h:CLd w u xb rb l ast aro ase cst cro cse p1 none p3):Calls prog 210 #[.slice aro l.ron cro] u λe i=>∃ b c,e=.returned (.slice b l.ron c)/\Hid (CLd w i xb rb l ast aro ase cst cro cse p1 (some (.slice b l.ron c)) p3):=by
 obtain⟨_,_,_,_,_,_,a,n,p,d,f,m,o⟩:=h.src;simp only[List.cons.injEq,Value.slice.injEq,true_and,and_true] at a;obtain⟨⟨rfl,rfl⟩,⟨rfl,rfl⟩,rfl,rfl⟩:=a;refine(cloneRoom aro _ cro _ u h.sh.2.1 (qK _ _) (Z5 _ _) (Qv (d.below h.bel)) f.2.2).mono ?_;rintro e i ⟨⟨v,rfl,g⟩,j⟩;obtain⟨b,c,rfl,_⟩:=zp g;have k:=h.below j;exact⟨b,c,rfl,k.bel,k.rl,k.src,k.sh,k.box,k.res,k.h1,λv' e=>(by cases e;exact zu g h.bel.size),k.h3⟩
theorem CLd.c3 (h:CLd w u xb rb l ast aro ase cst cro cse p1 p2 none):Calls prog 211 #[.slice ase l.sen cse] u λe i=>∃ b c,e=.returned (.slice b l.sen c)/\Hid (CLd w i xb rb l ast aro ase cst cro cse p1 p2 (some (.slice b l.sen c))):=by
 obtain⟨_,_,_,_,_,_,a,n,p,m,o,d,f⟩:=h.src;simp only[List.cons.injEq,Value.slice.injEq,true_and,and_true] at a;obtain⟨⟨rfl,rfl⟩,⟨rfl,rfl⟩,rfl,rfl⟩:=a;refine(cloneSeat ase _ cse _ u h.sh.2.2 (Zo _ _) (zar _ _) (zaP (d.below h.bel)) f.2.2).mono ?_;rintro e i ⟨⟨v,rfl,g⟩,j⟩;obtain⟨b,c,rfl,_⟩:=zp g;have k:=h.below j;exact⟨b,c,rfl,k.bel,k.rl,k.src,k.sh,k.box,k.res,k.h1,k.h2,λv' e=>(by cases e;exact zu g h.bel.size)⟩
structure CLe (w u:World)(g h:Nat)(l:zY)(c a b:Option Addr)(f d e:Nat)(v1 v2 v3:Value):Prop where
 bel:Below w.heap.size w u
 s:u.cell? (g,0)=some (c,l.stn,f)/\u.cell? (g,1)=some (a,l.ron,d)/\u.cell? (g,2)=some (b,l.sen,e)
 res:u.heap[h]?=some (.cells #[v1,v2,v3] 145 (0,0))
 h1:u.ownsRow w.heap.size 220 4 v1 l.stn (zy l.st l.stn)
 h2:u.ownsRow w.heap.size 228 4 v2 l.ron (zw l.ro l.ron)
 h3:u.ownsRow w.heap.size 234 2 v3 l.sen (zB l.se l.sen)
theorem CLd.fin {v1 v2 v3:Value}(h:CLd w u xb rb l ast aro ase cst cro cse (some v1) (some v2) (some v3))(i:xb≠rb):CLe w (((u.setCell (rb,0) v1).setCell (rb,1) v2).setCell (rb,2) v3) xb rb l ast aro ase cst cro cse v1 v2 v3:=by
 have d:zx u (((u.setCell _ v1).setCell _ v2).setCell _ v3) _:=(((zx.refl u (λb=>b=rb)).set (a:=(rb,0)) rfl _).set (a:=(rb,1)) rfl _).set (a:=(rb,2)) rfl _
 have f:=d.blk h.box i;exact⟨((h.bel.setCell h.rl _).setCell h.rl _).setCell h.rl _,⟨za f 0 _ rfl,za f 1 _ rfl,za f 2 _ rfl⟩,by simpa using zm (zm (zm h.res 0 v1) 1 v2) 2 v3,d.own (h.h1 _ rfl) (λg c e=>zQ (h.h1 _ rfl) h.res (by decide) g c e),d.own (h.h2 _ rfl) (λg c e=>zQ (h.h2 _ rfl) h.res (by decide) g c e),d.own (h.h3 _ rfl) (λg c e=>zQ (h.h3 _ rfl) h.res (by decide) g c e)⟩
end
theorem zkS (l:zY)(f c d:Option Addr)(j g i:Nat)(w:World)(A:zY.Short l 1048576)(h:zY.Is w [(f,l.stn,j),(c,l.ron,g),(d,l.sen,i)] l) :
  Calls prog 115 #[.agg #[.slice f l.stn j,.slice c l.ron g,.slice d l.sen i]] w λe w'=>(∃ n q o r p s,e=.returned (.agg #[.slice n l.stn q,.slice o l.ron r,.slice p l.sen s])/\w'.ownsRow w.heap.size 220 4 (.slice n l.stn q) l.stn (zy l.st l.stn)/\w'.ownsRow w.heap.size 228 4 (.slice o l.ron r) l.ron (zw l.ro l.ron)/\w'.ownsRow w.heap.size 234 2 (.slice p l.sen s) l.sen (zB l.se l.sen))/\Below w.heap.size w w':=by
 have a:Hid (CLd w _ _ (w.heap.size+1) l f c d j g i none none none) :=
  ⟨(zk (zk bZ _) _).drew,by omega,h,A,zK (zd (Jb w _) _),zK (by simpa using Jb (w.alloc _) _),λ_ e=>(by cases e),λ_ e=>(by cases e),λ_ e=>(by cases e)⟩
 have t:w.heap.size≠w.heap.size+1:=by omega
 go_enter func115,ntmps115;go_upto_region 1 with fail;refine qg 11 11 (λu=>u.cell? _=_/\u.cell? _=_/\u.cell? _=_) rfl (by kernel_rfl) a.s (λm=>?_)
 simp only[List.replicate_succ,List.replicate_zero];generalize ((w.alloc _).alloc _).drew=u0 at a m ⊢
 iterate 2 (refine tFN 0 (v:=?_) rfl (by kernel_rfl) (λ_ _ _ h=>h) rfl (by assumption) ?_ ?_;rotate_left;(focus(intro w' h;(try dsimp only at h);go_simp;try with_reducible rfl));simp only[Act.put,sB,sZ,sS])
 iterate 2 (refine tFN 3 (v:=?_) rfl (by kernel_rfl) (λ_ _ _ h=>h) rfl (by assumption) ?_ ?_;rotate_left;(focus(intro w' h;(try dsimp only at h);go_simp;try with_reducible rfl));simp only[Act.put,sB,sZ,sS])
 iterate 2 (refine tFN 6 (v:=?_) rfl (by kernel_rfl) (λ_ _ _ h=>h) rfl (by assumption) ?_ ?_;rotate_left;(focus(intro w' h;(try dsimp only at h);go_simp;try with_reducible rfl));simp only[Act.put,sB,sZ,sS])
 refine zj (rs:=[2]) (by kernel_rfl) (by simp) ?_
 refine zc.consL rfl (λK b=>?_) zc.nil
 focus
  go_simp;go_at_call 209;refine Jm (a.c1) ?_;rintro e u1 ⟨n,q,rfl,a⟩;dsimp only;refine b _ _ a.s (λm=>?_)
  clear b K;simp only[sZ,sS];refine zj (rs:=[5]) (by kernel_rfl) (by simp) ?_
  refine zc.consL rfl (λK b=>?_) zc.nil
  focus
   go_simp;go_at_call 210;refine Jm (a.c2) ?_;rintro e u2 ⟨o,r,rfl,a⟩;dsimp only;refine b _ _ a.s (λm=>?_)
   clear b K;simp only[sZ,sS];refine zj (rs:=[8]) (by kernel_rfl) (by simp) ?_
   refine zc.consL rfl (λK b=>?_) zc.nil
   focus
    go_simp;go_at_call 211;refine Jm (a.c3) ?_;rintro e u3 ⟨p,s,rfl,a⟩;dsimp only;refine b _ _ a.s (λm=>?_)
    clear b K;simp only[sZ,sS]
 all_goals
  (refine tFN 9 (v:=?_) rfl (by kernel_rfl) (λ_ _ _ h=>h) rfl (by assumption) ?_ ?_;rotate_left;(focus(intro w' h;(try dsimp only at h);go_simp;try with_reducible rfl));simp only[Act.put,sB,sZ,sS])
  obtain⟨B,C,D⟩:=ce3 a.res;obtain⟨x,y,z⟩:=fe3 a.res;refine zj (rs:=[10]) (by kernel_rfl) (by simp) ?_
  refine zc.consL rfl (λK b=>?_) zc.nil
  go_simp;have k:=hI (a.fin t);refine b _ _ k.s (λm=>?_)
  clear b K B C D x y z;simp only[sZ,sS];refine zX (by kernel_rfl) ?_ _
  go_wp2;obtain⟨E,F,G⟩:=ce3 k.res;exact Jj (by simp[results,results115,go_sem,E,F,G]) rfl ⟨⟨n,q,o,r,p,s,rfl,k.h1,k.h2,k.h3⟩,k.bel⟩
structure zjb (w:World)(base g k N:Nat)(S:Nat->zY)(A B D:Nat->Value):Prop where
 row:w.ownsRow base 145 3 (some (g,0),N,N) N ((List.range (N*3)).map (zZ 3 (zbJ k (ldC A B D) [True,True,True])))
 st:∀ i,i<k->w.ownsRow base 220 4 (A i) (S i).stn (zy (S i).st (S i).stn)
 ro:∀ i,i<k->w.ownsRow base 228 4 (B i) (S i).ron (zw (S i).ro (S i).ron)
 se:∀ i,i<k->w.ownsRow base 234 2 (D i) (S i).sen (zB (S i).se (S i).sen)
 far:zog k A/\zog k B/\zog k D
theorem zjb.below {w w':World}{base g k N:Nat}{S:Nat->zY}{A B D:Nat->Value}(h:zjb w base g k N S A B D)(b:Below w.heap.size w w'):zjb w' base g k N S A B D:=⟨zo b h.row,λi a=>zo b (h.st i a),λi a=>zo b (h.ro i a),λi a=>zo b (h.se i a),h.far⟩
theorem zjb.own {w:World}{base g N:Nat}{S:Nat->zY}{A B D:Nat->Value}(h:zjb w base g N N S A B D):qC w base (some (g,0),N,N) N S A B D :=
 ⟨zbs h.row (by decide) (λi a=>qr _ _ a),h.st,h.ro,h.se,h.far⟩
theorem zmM {w:World}{base e g c N t:Nat}{C:Nat->List Value}(v1 v2 v3:Value)(h:w.ownsRow base e 3 (some (g,0),N,c) N ((List.range (N*3)).map (zZ 3 C)))(d:(C t).length=3) :
  (((w.setCell (g,t*3) v1).setCell (g,t*3+1) v2).setCell (g,t*3+2) v3).ownsRow base e 3 (some (g,0),N,c) N ((List.range (N*3)).map (zZ 3 (λi=>if i=t then [v1,v2,v3] else C i))):=by
 have f:=Zr h t 0 v1 d (by decide)
 rw[Nat.add_zero] at f;have h1:=Zr f t 1 v2 (by simp only[Zb,List.length_set];exact d) (by decide)
 have h2:=Zr h1 t 2 v3 (by simp only[Zb,List.length_set];exact d) (by decide)
 refine zbs h2 (by decide) (λi hi=>?_)
 by_cases e:i=t
 ·subst e
  rw[Jf rfl];simp only[Zb]
  match hC:C i,d with
  | [a,b,c],_=>rfl
 ·rw[Je e]
  simp only[ziy _ _ _ e]
theorem zjb.step {w d:World}{base g k N:Nat}{S:Nat->zY}{A B D:Nat->Value}{v1 v2 v3:Value}(h:zjb w base g k N S A B D)(p:Below w.heap.size w d)(hk:k<N)(f:base<=w.heap.size)
  (h1:d.ownsRow w.heap.size 220 4 v1 (S k).stn (zy (S k).st (S k).stn)) (h2:d.ownsRow w.heap.size 228 4 v2 (S k).ron (zw (S k).ro (S k).ron)) (h3:d.ownsRow w.heap.size 234 2 v3 (S k).sen (zB (S k).se (S k).sen)) :
  zjb (((d.setCell (g,k*3) v1).setCell (g,k*3+1) v2).setCell (g,k*3+2) v3) base g (k+1) N S (atV A k v1) (atV B k v2) (atV D k v3):=by
 have hr:=h.below p;have j:zx d (((d.setCell _ v1).setCell _ v2).setCell _ v3) _:=(((zx.refl d (λb=>b=g)).set (a:=(g,k*3)) rfl _).set (a:=(g,k*3+1)) rfl _).set (a:=(g,k*3+2)) rfl _
 have far:∀ {t sz n:Nat} {v} {xs},_->145≠t->(((d.setCell _ v1).setCell _ v2).setCell _ v3).ownsRow base t sz v n xs:=λl r=>j.own l (λq m o=>zI hr.row l r q (by rw[show _ from o];rfl) m)
 refine⟨zbs (zmM v1 v2 v3 hr.row (by rw[zbT _ _ (by omega)];rfl)) (by decide) (λi c=>?_),λi c=>?_,λi c=>?_,λi c=>?_,h.far.1.snoc (λi c b e=>((h.st i c).lt b e).2) (λb e=>(h1.lt b e).1),h.far.2.1.snoc (λi c b e=>((h.ro i c).lt b e).2) (λb e=>(h2.lt b e).1),h.far.2.2.snoc (λi c b e=>((h.se i c).lt b e).2) (λb e=>(h3.lt b e).1)⟩
 ·by_cases e:i=k
  ·subst e;rw[Jf rfl,qr _ _ (by omega)];unfold ldC;rw[qu,qu,qu]
  ·rw[Je e]
   by_cases h:i<k
   ·rw[qr _ _ h,qr _ _ (by omega)];unfold ldC;rw[qf _ _ _ _ e,qf _ _ _ _ e,qf _ _ _ _ e]
   ·rw[zbT _ _ h,zbT _ _ (by omega)]
 ·by_cases e:i=k
  ·subst e;rw[qu];exact far (zu h1 f) (by decide)
  ·rw[qf _ _ _ _ e];exact far (hr.st i (by omega)) (by decide)
 ·by_cases e:i=k
  ·subst e;rw[qu];exact far (zu h2 f) (by decide)
  ·rw[qf _ _ _ _ e];exact far (hr.ro i (by omega)) (by decide)
 ·by_cases e:i=k
  ·subst e;rw[qu];exact far (zu h3 f) (by decide)
  ·rw[qf _ _ _ _ e];exact far (hr.se i (by omega)) (by decide)
theorem zjc (X:Option Addr)(N c:Nat)(S:Nat->zY)(w:World)(hN:N<=1048576)(Z:ZA N S 1048576)(hz:ZG w X N S) :
  Calls prog 114 #[.slice X N c,.func (.func 115) #[] #[]] w λe w'=>(∃ g A B D,e=.returned (.slice (some ⟨g,0,none⟩) N N)/\qC w' w.heap.size (.slice (some ⟨g,0,none⟩) N N) N S A B D)/\Below w.heap.size w w':=by
 obtain⟨i0,E,T,U,V⟩:=info_parts Tryz.infoLoadO;have HS:=hI Z;have HX:=hI hz;clear Z hz;go_enter func114,ntmps114;go_wp2_with (first|(at_make;refine wpList_make_full _ rfl _ _ 35 rfl _ 145 i0 _ 3 underlying35 E T U _ _ _ _ N rfl rfl rfl rfl (by rw[V];omega) (by unfold maxLen;omega) (Jr _) ?_;intro w1 t f))
 go_loopw [6,7,13] (λ_ _ i wr=>∃ (k:Nat) (A B D:_),k<=N/\i=int i64 k/\zjb wr w.heap.size w.heap.size k N S A B D/\Below w.heap.size w wr) (λ_ _ i _=>N - (intOf i).toNat)
 case atStart=>exact⟨0,λ_=>.slice none 0 0,λ_=>.slice none 0 0,λ_=>.slice none 0 0,Jq _,rfl,⟨Zz ((ZP t).congr (λj hj=>(zes (z:=#[_,_,_]) (sz:=3) rfl N j hj).trans (by unfold zZ;rw[zbT _ _ (by omega)]))) (Jr _) (by unfold maxLen;omega),λi E=>by omega,λi E=>by omega,λi E=>by omega,λi j E=>by omega,λi j E=>by omega,λi j E=>by omega⟩,bZ.grown f (Jr _) (by simp)⟩
 case round =>
  obtain⟨k,A,B,D,hk,rfl,u,a⟩:=hrel;clear t f
  by_cases hlt:k<N
  ·obtain⟨C,Y,hI⟩:=HX
   obtain⟨b,off,rfl,G⟩:=Y k hlt;obtain⟨m,q,h,n,l,o,O,J,M,H,K,I,L⟩:=hI k hlt;have s:b<w.heap.size:=Ja w _ (G 0 (by decide))
   have i1:(k:Int)<(N:Int):=by omega
   have F:Hid (zY.Is w _ _):=⟨m,q,h,n,l,o,rfl,J,M,H,K,I,L⟩;have c0:wr.cell? _=some (.slice m _ q):=(a.cell (p:=⟨b,off+_,_⟩) s).trans (by have:=G 0 (by decide);rw[O] at this;exact this)
   have c1:wr.cell? _=some (.slice h _ n):=(a.cell s).trans (by have:=G 1 (by decide);rw[O] at this;exact this)
   have c2:wr.cell? _=some (.slice l _ o):=(a.cell s).trans (by have:=G 2 (by decide);rw[O] at this;exact this)
   have r:=zk a (.cells #[(m,(S k).stn,q),(h,(S k).ron,n),(l,(S k).sen,o)] 145);have y:=u.below (zk (Ji _ wr) (.cells #[(m,(S k).stn,q),(h,(S k).ron,n),(l,(S k).sen,o)] 145));clear Y hI G O J M H K I L u;go_wp2_with fail;generalize wr.alloc _=W at r y ⊢;clear c0 c1 c2;refine(zkS _ m h l q n o W (HS k hlt) (F.below r)).mono ?_;rintro e P ⟨⟨a1,d1,a2,d2,a3,d3,rfl,h1,h2,h3⟩,x⟩;have R:=hI (y.step x hlt r.size h1 h2 h3);have Q:Hid (Below _ w (((P.setCell _ (a1,(S k).stn,d1)).setCell _ (a2,(S k).ron,d2)).setCell _ (a3,(S k).sen,d3))):=(((ze r x).setCell (p:=(w.heap.size,k*3)) (Jr _) _).setCell (p:=(w.heap.size,k*3+1)) (Jr _) _).setCell (p:=(w.heap.size,k*3+2)) (Jr _) _;have d:=y.below x;obtain⟨u0,o0⟩:∃ v,P.cell? ⟨_,_+0,_⟩=some v:=⟨_,zU d.row hlt (by decide)⟩
   obtain⟨u1,o1⟩:∃ v,P.cell? ⟨_,_+1,_⟩=some v:=⟨_,zU d.row hlt (by decide)⟩
   obtain⟨u2,o2⟩:∃ v,P.cell? ⟨_,_+2,_⟩=some v:=⟨_,zU d.row hlt (by decide)⟩
   have f0:=d.row.frozenAt (k*3);have f1:=d.row.frozenAt (k*3+1);have f2:=d.row.frozenAt (k*3+2);rw[Nat.add_zero] at o0;clear y d h1 h2 h3 r x a F;go_wp2;go_roundw
   case rel=>exact⟨_,_,_,_,by omega,by go_num,R,Q⟩
   case measure=>simp[intOf];omega
  ·obtain rfl:k=N:=by omega
   have HO:=hI u.own;go_wp2;go_ret;exact⟨⟨_,A,B,D,rfl,HO⟩,a⟩
end
end Go.Proofs.YtmdnjgihooflfaaGreatDoor
