/-
  OWN TEXT: NamedI, NamedK, AskedI, AskedL, NamedJ, AskedJ, AskedK.
-/
import Derived.BigQuiet
import Derived.Test.YtmdnjgihooflfaaGreatDoorB24
namespace Go.Proofs.YtmdnjgihooflfaaGreatDoor
open Go.RowKit
open Go.Value (int)
open Go.IntKind (i64)
open Tryz
set_option maxHeartbeats 64000000
set_option maxRecDepth 100000
/-- The operation names no booking. -/
theorem zhg (x:OpD)(d:Option Addr)(g:Nat)(a:Option Addr)(n c:Nat)(k:Nat)(w:World)(h:Zm w)(l:x.kind=(k:Int))(i:k<10)(j:zaS k=false) :
  Calls prog 107 #[(a,n,c),.agg (x,d,g)] w λe w'=>e=.returned (.tuple #[])/\Below w.heap.size w w':=by
 have f:=Jb w (.cells (x,d,g) 47);have b:=zoS f;have p:(w.alloc _).cell? _=some (.bool false):=(b.cell h.lt).trans (by rw[← j];exact(h k i).2.1)
 have q:(w.alloc (.cells (x,d,g) 47)).cell? (w.heap.size,0)=some (k:Int):=by rw[← l];exact za f 0 _ rfl
 have m:(0:Int)<=(k:Int):=by omega
 have o:(k:Int)<10:=by omega
 clear l;go_enter func107,ntmps107;go_upto_region 1 with fail;generalize w.alloc _=W at f b p q ⊢;clear h j;go_wp2;exact Jj (by simp[results,results107,go_sem]) rfl ⟨rfl,b⟩
/-- It names one that isn't there. -/
theorem zhE (x:OpD)(f:Option Addr)(g:Nat)(a:Option Addr)(n c:Nat)(k:Nat)(w:World)(h:Zm w)(o:x.kind=(k:Int))(i:k<10)(j:zaS k=true)(pe:Nat->Addr)(l:qY w pe)(m:¬ x.name<=(n:Int)) :
  Calls prog 107 #[(a,n,c),.agg (x,f,g)] w λe w'=>e=.panicked [{ v:=.iface 96 (.agg #[.iface 391 (.pointer (some (pe 3)))]),recovered:=false }]/\Below w.heap.size w w':=by
 have d:=Jb w (.cells (x,f,g) 47);have b:=zoS d;have s:(w.alloc _).cell? _=some (.bool true):=(b.cell h.lt).trans (by rw[← j];exact(h k i).2.1)
 have t:(w.alloc (.cells (x,f,g) 47)).cell? (w.heap.size,0)=some (k:Int):=by rw[← o];exact za d 0 _ rfl
 have q:(0:Int)<=(k:Int):=by omega
 have r:(k:Int)<10:=by omega
 have u:(w.alloc _).cell? _=some (.int _ _):=za d 2 _ rfl;have p:=(qY.below l b).c3;have ef:=Jc m;clear o;go_enter func107,ntmps107;go_upto_region 1 with fail;generalize w.alloc _=W at d b s t u p ⊢;clear h j m l;go_wp2_with (go_at_call 193;refine(zaD _ _ _).mono ?_;rintro e w1 ⟨rfl,rfl⟩);exact⟨rfl,rfl,b⟩
theorem zhh {G:Prop}{P:Program}{a:Act}{w:World}(h:wpAny P .any #[] (λ_ _ _=>G) 0 #[] a w):G:=h.2
/-- It names one whose state bars it. -/
theorem zhF (x:OpD)(m:Option Addr)(o:Nat)(a:Option Addr)(n c:Nat)(k:Nat)(w:World)(y:Zm w)(A:x.kind=(k:Int))(E:k<10)(J:zaS k=true)(pe:Nat->Addr)(z:qY w pe)(S:Nat->ql)(hz:qO w a n S)(hn:n<=1048576)(j:Nat)(L:x.name=(j:Int)+1)(t:j<n)(G:¬ zeo x.kind (S j) x.now) :
  Calls prog 107 #[(a,n,c),.agg (x,m,o)] w λe w'=>e=.panicked [{ v:=.iface 96 (.agg #[.iface 391 (.pointer (some (pe 4)))]),recovered:=false }]/\Below w.heap.size w w':=by
 have l:=Jb w (.cells (x,m,o) 47);have f:Below _ w (w.alloc (.cells (x,m,o) 47)):=zk bZ _;have N:(w.alloc _).cell? _=some (.bool true):=(f.cell y.lt).trans (by rw[← J];exact(y k E).2.1)
 have O:(w.alloc (.cells (x,m,o) 47)).cell? (w.heap.size,0)=some (k:Int):=by rw[← A];exact za l 0 _ rfl
 have B:(0:Int)<=(k:Int):=by omega
 have D:(k:Int)<10:=by omega
 obtain⟨C,I,hI⟩:=hz;obtain⟨bb,bo,rfl,i⟩:=I j t;obtain⟨q,r,g,_,_⟩:=hI j t;obtain⟨b,K⟩:∃ b,b=S j:=⟨_,rfl⟩;rw[← K] at g G;have R:=hI G;have d:bb<w.heap.size:=Ja w _ (i 0 (by decide))
 have H:=(qY.below z f).c3;have u:=(qY.below z f).c4;have X:decide (x.name<=(n:Int))=true:=Jd (by omega)
 have ej:x.name - 1=(j:Int):=by omega
 have Y:1<=x.name:=by omega
 have Z:x.name<=1048576:=by omega
 have HJ:Hid _:=L;have Q:Hid _:=A;clear A L;go_enter func107,ntmps107;go_upto_region 1 with fail;generalize w.alloc _=W at l f N O H u ⊢;have c0:W.cell? _=some (.int _ _):=(f.cell (p:=⟨bb,bo+_,_⟩) d).trans (by have:=i 0 (by decide);rw[g] at this;exact this)
 have c1:W.cell? _=some (.int _ _):=(f.cell d).trans (by have:=i 1 (by decide);rw[g] at this;exact this)
 have c2:W.cell? _=some (.string _):=(f.cell d).trans (by have:=i 2 (by decide);rw[g] at this;exact this)
 have c3:W.cell? _=some (.slice q _ r):=(f.cell d).trans (by have:=i 3 (by decide);rw[g] at this;exact this)
 have c4:W.cell? _=some (.int _ _):=(f.cell d).trans (by have:=i 4 (by decide);rw[g] at this;exact this)
 have c5:W.cell? _=some (.int _ _):=(f.cell d).trans (by have:=i 5 (by decide);rw[g] at this;exact this)
 have c6:W.cell? _=some (.int _ _):=(f.cell d).trans (by have:=i 6 (by decide);rw[g] at this;exact this)
 have c7:W.cell? _=some (.int _ _):=(f.cell d).trans (by have:=i 7 (by decide);rw[g] at this;exact this)
 have c8:W.cell? _=some (.bool _):=(f.cell d).trans (by have:=i 8 (by decide);rw[g] at this;exact this)
 have c9:W.cell? _=some (.int _ _):=(f.cell d).trans (by have:=i 9 (by decide);rw[g] at this;exact this)
 have T:W.cell? _=some (.int _ _):=(f.cell d).trans (by have:=i 10 (by decide);rw[g] at this;exact this)
 have U:W.cell? _=some (.int _ _):=(f.cell d).trans (by have:=i 11 (by decide);rw[g] at this;exact this)
 have V:W.cell? _=some (.int _ _):=(f.cell d).trans (by have:=i 12 (by decide);rw[g] at this;exact this)
 have y1:W.cell? _=some (.string _):=za l 1 _ rfl;have y2:W.cell? _=some (.int _ _):=za l 2 _ rfl;have y3:W.cell? _=some (.slice m _ o):=za l 3 _ rfl;have y4:W.cell? _=some (.int _ _):=za l 4 _ rfl;have y5:W.cell? _=some (.int _ _):=za l 5 _ rfl;have y6:W.cell? _=some (.int _ _):=za l 6 _ rfl;have y7:W.cell? _=some (.int _ _):=za l 7 _ rfl;have y8:W.cell? _=some (.bool _):=za l 8 _ rfl;have y9:W.cell? _=some (.int _ _):=za l 9 _ rfl;have a0:W.cell? _=some (.int _ _):=za l 10 _ rfl;have a1:W.cell? _=some (.int _ _):=za l 11 _ rfl;have F:4<W.heap.size:=Ja W _ u;clear y J z G i g I hI K l;go_upto_region 3 with(go_at_call 193;refine(ZD _ _).mono ?_;rintro e w1 ⟨rfl,rfl⟩);have ew:IntKind.i64.wrap (j:Int)=(j:Int):=by rw[Jk];omega
 rw[← Q.out] at O;clear N H X B D;go_region_with (first|(go_at_call 196;refine(zkK x m o b q r _).mono ?_;rintro e w2 ⟨⟨v,rfl,M⟩,s⟩;obtain rfl:=Bool.eq_false_iff.2 (λh=>R (M.1 h));clear M;have g5:=(s.cell (p:=⟨4,0,_⟩) (by simpa using F)).trans (by simpa using u))|(go_at_call 193;refine(zaD _ _ _).mono ?_;rintro e w3 ⟨rfl,rfl⟩;refine zhh (P:=prog) (a:=⟨#[],[]⟩) (w:=w) ?_))
 all_goals exact⟨rfl,rfl,ze f.drew s⟩
/-- The operation is not good. -/
theorem zhi (x:OpD)(g:Option Addr)(i:Nat)(a:Option Addr)(n c:Nat)(w:World)(o:OpD.Is w [x.kind,x.own,x.name,(g,x.lgn,i),x.pe,x.len,x.hei,x.cl,x.all,x.be,x.unt,x.now] x)(s:x.own.size<=1000000000000000)(l:Zm w)(pe:Nat->Addr)(m:qY w pe)(f:¬ zac x) :
  Calls prog 106 #[(a,n,c),.agg (x,g,i)] w λe w'=>e=.panicked [{ v:=.iface 96 (.agg #[.iface 391 (.pointer (some (pe 1)))]),recovered:=false }]/\Below w.heap.size w w':=by
 have b:Below _ w (w.alloc (.cells (x,g,i) 47)):=zk bZ _;have r:Hid (∀ w',_->OpD.Is w' _ x):=λ_ h=>o.below h
 have p:Hid (∀ w',_->Zm w'):=λ_ h=>l.below h
 have k:=(qY.below m b).c1;have q:=hI (Jc f);clear o l m f;go_enter func106,ntmps106;go_upto_region 1 with fail;have j:1<_:=Ja _ _ k;go_region_with (first|(go_at_call 194;refine(zdX _ x _ s (r _ b.drew) (p _ b.drew)).mono ?_;rw[q.out];rintro e w2 ⟨rfl,d⟩;have g5:=(d.cell j).trans k)|(go_at_call 193;refine(zaD _ _ _).mono ?_;rintro e w3 ⟨rfl,rfl⟩;refine zhh (P:=prog) (a:=⟨#[],[]⟩) (w:=w) ?_))
 all_goals exact⟨rfl,rfl,ze b.drew d⟩
/-- The operation is good, and its legs don't fit. -/
theorem zfU (x:OpD)(j:Option Addr)(m:Nat)(a:Option Addr)(n c:Nat)(S:Nat->Zj)(k:Nat)(w:World)(O:OpD.Is w [x.kind,x.own,x.name,(j,x.lgn,m),x.pe,x.len,x.hei,x.cl,x.all,x.be,x.unt,x.now] x)(hs:x.own.size<=1000000000000000)(I:Zm w)(pe:Nat->Addr)(K:qY w pe)(r:zac x)(L:x.kind=(k:Int))(C:k<10)(M:Z0 k≠0)(hn:n<=1048576)(hm:x.lgn<=1048576)(J:QL n S 1048576)(s:qB w a n S)(q:zT w j x.lgn x.lg)(l:¬ (QJ n S/\zad n S x.lgn x.lg)) :
  Calls prog 106 #[(a,n,c),.agg (x,j,m)] w λe w'=>e=.panicked [{ v:=.iface 96 (.agg #[.iface 391 (.pointer (some (pe 2)))]),recovered:=false }]/\Below w.heap.size w w':=by
 have f:Below _ w (w.alloc (.cells (x,j,m) 47)):=zk bZ _;have d:=Jb w (.cells (x,j,m) 47);have HX:Hid (∀ w',_->OpD.Is w' _ x):=λ_ h=>O.below h
 have G:Hid (∀ w',_->Zm w'):=λ_ h=>I.below h
 have t:=qY.below K f;have HO:=hI (Jd r);have Z:=hI L;have y:=hI l;have A:Hid (∀ w',_->qB w' a n S):=λ_ h=>s.below h
 have z:Hid (∀ w',_->zT w' j _ _):=λ_ h=>q.below h
 have B:=hI J;have e0:(Z0 k == 0)=false:=by simpa using M
 clear O I K r L l s q J M;go_enter func106,ntmps106;go_upto_region 1 with fail;generalize w.alloc _=W at f d t ⊢;have b:=zM d;have o:=G W f;have X:∀ g:zn W,g.val.cell? _=some (.int _ _):=λg=>(g.bel.cell b).trans (za d 0 _ rfl)
 have z1:∀ g:zn W,g.val.cell? _=some (.string _):=λg=>(g.bel.cell b).trans (za d 1 _ rfl)
 have z2:∀ g:zn W,g.val.cell? _=some (.int _ _):=λg=>(g.bel.cell b).trans (za d 2 _ rfl)
 have Y:∀ g:zn W,g.val.cell? _=some (.slice j _ m):=λg=>(g.bel.cell b).trans (za d 3 _ rfl)
 have z4:∀ g:zn W,g.val.cell? _=some (.int _ _):=λg=>(g.bel.cell b).trans (za d 4 _ rfl)
 have z5:∀ g:zn W,g.val.cell? _=some (.int _ _):=λg=>(g.bel.cell b).trans (za d 5 _ rfl)
 have z6:∀ g:zn W,g.val.cell? _=some (.int _ _):=λg=>(g.bel.cell b).trans (za d 6 _ rfl)
 have z7:∀ g:zn W,g.val.cell? _=some (.int _ _):=λg=>(g.bel.cell b).trans (za d 7 _ rfl)
 have z8:∀ g:zn W,g.val.cell? _=some (.bool _):=λg=>(g.bel.cell b).trans (za d 8 _ rfl)
 have z9:∀ g:zn W,g.val.cell? _=some (.int _ _):=λg=>(g.bel.cell b).trans (za d 9 _ rfl)
 have E:∀ g:zn W,g.val.cell? _=some (.int _ _):=λg=>(g.bel.cell b).trans (za d 10 _ rfl)
 have F:∀ g:zn W,g.val.cell? _=some (.int _ _):=λg=>(g.bel.cell b).trans (za d 11 _ rfl)
 have g1:∀ g:zn W,_:=λg=>(qY.below t g.bel).c1
 have H:∀ g:zn W,_:=λg=>(qY.below t g.bel).c2
 have U:∀ g:zn W,_:=λg=>((o.below g.bel) k C).2.2.1
 have a0:(0:Int)<=(k:Int):=by omega
 have a1:(k:Int)<10:=by omega
 clear t o;refine zh (by kernel_rfl) (by kernel_rfl) ?_
 repeat(first|go_big_quiet_skip|(go_big_quiet_want;go_big_quiet_op;first|go_big_quiet_on|(apply Jg;refine⟨λg=>?_,?_⟩;(focus(go_at_call 194;refine zf (v:=.bool true) ((zdX _ x _ hs (HX _ (ze f g.bel)) (G _ (ze f g.bel))).mono ?_);rw[HO.out];exact λ_ _ h=>h));go_big_quiet_on)|(apply Jg;refine⟨λg=>?_,?_⟩;(focus(go_at_call 193;refine zf (v:=.tuple #[]) ((ZD _ _).mono ?_);rintro e w2 ⟨rfl,rfl⟩;exact⟨rfl,bZ⟩));go_big_quiet_on)))
 refine Jl ?_;rintro _ ⟨g,rfl⟩;have b1:=zb d g.bel;have i:=ze f g.bel;have u0:∀ h:zn _,h.val.cell? _=some (.int _ (k:Int)):=λh=>by rw[← Z.out];exact X ⟨_,ze g.bel h.bel⟩
 have u2:∀ h:zn _,h.val.cell? _=_:=λh=>U ⟨_,ze g.bel h.bel⟩
 have v2:∀ h:zn _,h.val.cell? _=_:=λh=>H ⟨_,ze g.bel h.bel⟩
 have u3:∀ h:zn _,h.val.cell? _=_:=λh=>Y ⟨_,ze g.bel h.bel⟩
 clear X z1 z2 Y z4 z5 z6 z7 z8 z9 E F U g1 H;have Q:=u0 ⟨_,bZ⟩;have R:=u2 ⟨_,bZ⟩;have T:=u3 ⟨_,bZ⟩;have u:=v2 ⟨_,bZ⟩;dsimp only at Q R T u;clear u0 u2 u3 v2;go_upto_region 2 with fail;generalize g.val=V at Q R T u i ⊢;have D:2<V.heap.size:=Ja _ _ u;go_region_with (first|(go_at_call 195;refine(Q0 a j n _ c m S _ _ hn hm B (A _ i.drew) (z _ i.drew)).mono ?_;rintro e w2 ⟨⟨v,rfl,N⟩,p⟩;obtain rfl:=Bool.eq_false_iff.2 (λh=>y (N.1 h));clear N;have g5:=(p.cell D).trans u)|(go_at_call 193;refine(zaD _ _ _).mono ?_;rintro e w3 ⟨rfl,rfl⟩;refine zhh (P:=prog) (a:=⟨#[],[]⟩) (w:=w) ?_))
 all_goals exact⟨rfl,rfl,ze i.drew p⟩
/-- It names one that it may be done to. -/
theorem zja (x:OpD)(l:Option Addr)(m:Nat)(a:Option Addr)(n c:Nat)(k:Nat)(w:World)(u:Zm w)(z:x.kind=(k:Int))(D:k<10)(I:zaS k=true)(pe:Nat->Addr)(y:qY w pe)(S:Nat->ql)(Y:qO w a n S)(hn:n<=1048576)(j:Nat)(K:x.name=(j:Int)+1)(s:j<n)(F:zeo x.kind (S j) x.now) :
  Calls prog 107 #[(a,n,c),.agg (x,l,m)] w λe w'=>e=.returned (.tuple #[])/\Below w.heap.size w w':=by
 have i:=Jb w (.cells (x,l,m) 47);have f:Below _ w (w.alloc (.cells (x,l,m) 47)):=zk bZ _;have M:(w.alloc _).cell? _=some (.bool true):=(f.cell u.lt).trans (by rw[← I];exact(u k D).2.1)
 have N:(w.alloc (.cells (x,l,m) 47)).cell? (w.heap.size,0)=some (k:Int):=by rw[← z];exact za i 0 _ rfl
 have A:(0:Int)<=(k:Int):=by omega
 have B:(k:Int)<10:=by omega
 obtain⟨C,H,hI⟩:=Y;obtain⟨bb,bo,rfl,h⟩:=H j s;obtain⟨o,q,g,_,_⟩:=hI j s;obtain⟨b,J⟩:∃ b,b=S j:=⟨_,rfl⟩;rw[← J] at g F;have P:=hI F;have d:bb<w.heap.size:=Ja w _ (h 0 (by decide))
 have G:=(qY.below y f).c3;have t:=(qY.below y f).c4;have U:decide (x.name<=(n:Int))=true:=Jd (by omega)
 have ej:x.name - 1=(j:Int):=by omega
 have V:1<=x.name:=by omega
 have X:x.name<=1048576:=by omega
 have HJ:Hid _:=K;have O:Hid _:=z;clear z K;go_enter func107,ntmps107;go_upto_region 1 with fail;generalize w.alloc _=W at i f M N G t ⊢;have c0:W.cell? _=some (.int _ _):=(f.cell (p:=⟨bb,bo+_,_⟩) d).trans (by have:=h 0 (by decide);rw[g] at this;exact this)
 have c1:W.cell? _=some (.int _ _):=(f.cell d).trans (by have:=h 1 (by decide);rw[g] at this;exact this)
 have c2:W.cell? _=some (.string _):=(f.cell d).trans (by have:=h 2 (by decide);rw[g] at this;exact this)
 have c3:W.cell? _=some (.slice o _ q):=(f.cell d).trans (by have:=h 3 (by decide);rw[g] at this;exact this)
 have c4:W.cell? _=some (.int _ _):=(f.cell d).trans (by have:=h 4 (by decide);rw[g] at this;exact this)
 have c5:W.cell? _=some (.int _ _):=(f.cell d).trans (by have:=h 5 (by decide);rw[g] at this;exact this)
 have c6:W.cell? _=some (.int _ _):=(f.cell d).trans (by have:=h 6 (by decide);rw[g] at this;exact this)
 have c7:W.cell? _=some (.int _ _):=(f.cell d).trans (by have:=h 7 (by decide);rw[g] at this;exact this)
 have c8:W.cell? _=some (.bool _):=(f.cell d).trans (by have:=h 8 (by decide);rw[g] at this;exact this)
 have c9:W.cell? _=some (.int _ _):=(f.cell d).trans (by have:=h 9 (by decide);rw[g] at this;exact this)
 have Q:W.cell? _=some (.int _ _):=(f.cell d).trans (by have:=h 10 (by decide);rw[g] at this;exact this)
 have R:W.cell? _=some (.int _ _):=(f.cell d).trans (by have:=h 11 (by decide);rw[g] at this;exact this)
 have T:W.cell? _=some (.int _ _):=(f.cell d).trans (by have:=h 12 (by decide);rw[g] at this;exact this)
 have y1:W.cell? _=some (.string _):=za i 1 _ rfl;have y2:W.cell? _=some (.int _ _):=za i 2 _ rfl;have y3:W.cell? _=some (.slice l _ m):=za i 3 _ rfl;have y4:W.cell? _=some (.int _ _):=za i 4 _ rfl;have y5:W.cell? _=some (.int _ _):=za i 5 _ rfl;have y6:W.cell? _=some (.int _ _):=za i 6 _ rfl;have y7:W.cell? _=some (.int _ _):=za i 7 _ rfl;have y8:W.cell? _=some (.bool _):=za i 8 _ rfl;have y9:W.cell? _=some (.int _ _):=za i 9 _ rfl;have Z:W.cell? _=some (.int _ _):=za i 10 _ rfl;have a0:W.cell? _=some (.int _ _):=za i 11 _ rfl;have E:4<W.heap.size:=Ja W _ t;clear u I y F h g H hI J i;go_upto_region 3 with(go_at_call 193;refine(ZD _ _).mono ?_;rintro e w1 ⟨rfl,rfl⟩);have ew:IntKind.i64.wrap (j:Int)=(j:Int):=by rw[Jk];omega
 rw[← O.out] at N;clear M G U A B;go_region_with (first|(go_at_call 196;refine(zkK x l m b o q _).mono ?_;rintro e w2 ⟨⟨v,rfl,L⟩,r⟩;obtain rfl:=L.2 P;clear L;have g5:=(r.cell (p:=⟨4,0,_⟩) (by simpa using E)).trans (by simpa using t))|(go_at_call 193;refine(ZD _ _).mono ?_;rintro e w3 ⟨rfl,rfl⟩))
 all_goals (go_end0;exact⟨rfl,ze f.drew r⟩)
/-- The operation is good, and is of a kind Zx legs. -/
theorem zfV (x:OpD)(i:Option Addr)(j:Nat)(a:Option Addr)(n c:Nat)(k:Nat)(w:World)(C:OpD.Is w [x.kind,x.own,x.name,(i,x.lgn,j),x.pe,x.len,x.hei,x.cl,x.all,x.be,x.unt,x.now] x)(L:x.own.size<=1000000000000000)(y:Zm w)(pe:Nat->Addr)(z:qY w pe)(m:zac x)(A:x.kind=(k:Int))(q:k<10)(B:Z0 k=0) :
  Calls prog 106 #[(a,n,c),.agg (x,i,j)] w λe w'=>e=.returned (.tuple #[])/\Below w.heap.size w w':=by
 have f:Below _ w (w.alloc (.cells (x,i,j) 47)):=zk bZ _;have d:=Jb w (.cells (x,i,j) 47);have H:Hid (∀ w',_->OpD.Is w' _ x):=λ_ h=>C.below h
 have t:Hid (∀ w',_->Zm w'):=λ_ h=>y.below h
 have o:=qY.below z f;have G:=hI (Jd m);have F:=hI A;clear C y z m A;go_enter func106,ntmps106;go_upto_region 1 with fail;generalize w.alloc _=W at f d o ⊢;have b:=zM d;have l:=t W f;have E:∀ g:zn W,g.val.cell? _=some (.int _ _):=λg=>(g.bel.cell b).trans (za d 0 _ rfl)
 have N:∀ g:zn W,g.val.cell? _=some (.string _):=λg=>(g.bel.cell b).trans (za d 1 _ rfl)
 have O:∀ g:zn W,g.val.cell? _=some (.int _ _):=λg=>(g.bel.cell b).trans (za d 2 _ rfl)
 have P:∀ g:zn W,g.val.cell? _=some (.slice i _ j):=λg=>(g.bel.cell b).trans (za d 3 _ rfl)
 have Q:∀ g:zn W,g.val.cell? _=some (.int _ _):=λg=>(g.bel.cell b).trans (za d 4 _ rfl)
 have R:∀ g:zn W,g.val.cell? _=some (.int _ _):=λg=>(g.bel.cell b).trans (za d 5 _ rfl)
 have S:∀ g:zn W,g.val.cell? _=some (.int _ _):=λg=>(g.bel.cell b).trans (za d 6 _ rfl)
 have T:∀ g:zn W,g.val.cell? _=some (.int _ _):=λg=>(g.bel.cell b).trans (za d 7 _ rfl)
 have U:∀ g:zn W,g.val.cell? _=some (.bool _):=λg=>(g.bel.cell b).trans (za d 8 _ rfl)
 have V:∀ g:zn W,g.val.cell? _=some (.int _ _):=λg=>(g.bel.cell b).trans (za d 9 _ rfl)
 have r:∀ g:zn W,g.val.cell? _=some (.int _ _):=λg=>(g.bel.cell b).trans (za d 10 _ rfl)
 have s:∀ g:zn W,g.val.cell? _=some (.int _ _):=λg=>(g.bel.cell b).trans (za d 11 _ rfl)
 have I:∀ g:zn W,_:=λg=>(qY.below o g.bel).c1
 have u:∀ g:zn W,_:=λg=>(qY.below o g.bel).c2
 have D:∀ g:zn W,_:=λg=>(((l.below g.bel) k q).2.2.1).trans (by rw[B])
 have J:(0:Int)<=(k:Int):=by omega
 have K:(k:Int)<10:=by omega
 clear o l;refine zh (by kernel_rfl) (by kernel_rfl) ?_
 repeat(first|go_big_quiet_skip|(go_big_quiet_want;go_big_quiet_op;first|go_big_quiet_on|(apply Jg;refine⟨λg=>?_,?_⟩;(focus(go_at_call 194;refine zf (v:=.bool true) ((zdX _ x _ L (H _ (ze f g.bel)) (t _ (ze f g.bel))).mono ?_);rw[G.out];exact λ_ _ h=>h));go_big_quiet_on)|(apply Jg;refine⟨λg=>?_,?_⟩;(focus(go_at_call 193;refine zf (v:=.tuple #[]) ((ZD _ _).mono ?_);rintro e M ⟨rfl,rfl⟩;exact⟨rfl,bZ⟩));go_big_quiet_on)))
 refine Jl ?_;rintro _ ⟨g,rfl⟩;have b1:=zb d g.bel;have p:=ze f g.bel;have u0:∀ h:zn _,h.val.cell? _=some (.int _ (k:Int)):=λh=>by rw[← F.out];exact E ⟨_,ze g.bel h.bel⟩
 have u2:∀ h:zn _,h.val.cell? _=_:=λh=>D ⟨_,ze g.bel h.bel⟩
 have v2:∀ h:zn _,h.val.cell? _=_:=λh=>u ⟨_,ze g.bel h.bel⟩
 clear E N O P Q R S T U V r s D I u B;go_upto_region 2 with fail;refine zh (by kernel_rfl) (by kernel_rfl) ?_
 repeat(first|go_big_quiet_skip|(go_big_quiet_want;go_big_quiet_op;first|go_big_quiet_on|(apply Jg;refine⟨λg=>?_,?_⟩;(focus(go_at_call 193;refine zf (v:=.tuple #[]) ((ZD _ _).mono ?_);rintro e M ⟨rfl,rfl⟩;exact⟨rfl,bZ⟩));go_big_quiet_on)))
 refine Jl ?_;rintro _ ⟨h,rfl⟩;go_end0;exact⟨rfl,ze p h.bel⟩
/-- The operation is good, and its legs fit. -/
theorem zhj (x:OpD)(i:Option Addr)(m:Nat)(a:Option Addr)(n c:Nat)(S:Nat->Zj)(k:Nat)(w:World)(L:OpD.Is w [x.kind,x.own,x.name,(i,x.lgn,m),x.pe,x.len,x.hei,x.cl,x.all,x.be,x.unt,x.now] x)(hs:x.own.size<=1000000000000000)(G:Zm w)(pe:Nat->Addr)(I:qY w pe)(q:zac x)(J:x.kind=(k:Int))(B:k<10)(K:Z0 k≠0)(Z:n<=1048576)(Y:x.lgn<=1048576)(H:QL n S 1048576)(r:qB w a n S)(p:zT w i x.lgn x.lg)(j:QJ n S/\zad n S x.lgn x.lg) :
  Calls prog 106 #[(a,n,c),.agg (x,i,m)] w λe w'=>e=.returned (.tuple #[])/\Below w.heap.size w w':=by
 have f:Below _ w (w.alloc (.cells (x,i,m) 47)):=zk bZ _;have d:=Jb w (.cells (x,i,m) 47);have T:Hid (∀ w',_->OpD.Is w' _ x):=λ_ h=>L.below h
 have E:Hid (∀ w',_->Zm w'):=λ_ h=>G.below h
 have s:=qY.below I f;have R:=hI (Jd q);have Q:=hI J;have t:=hI j;have y:Hid (∀ w',_->qB w' a n S):=λ_ h=>r.below h
 have u:Hid (∀ w',_->zT w' i _ _):=λ_ h=>p.below h
 have z:=hI H;have e0:(Z0 k == 0)=false:=by simpa using K
 clear L G I q J j r p H K;go_enter func106,ntmps106;go_upto_region 1 with fail;generalize w.alloc _=W at f d s ⊢;have b:=zM d;have o:=E W f;have O:∀ g:zn W,g.val.cell? _=some (.int _ _):=λg=>(g.bel.cell b).trans (za d 0 _ rfl)
 have z1:∀ g:zn W,g.val.cell? _=some (.string _):=λg=>(g.bel.cell b).trans (za d 1 _ rfl)
 have z2:∀ g:zn W,g.val.cell? _=some (.int _ _):=λg=>(g.bel.cell b).trans (za d 2 _ rfl)
 have P:∀ g:zn W,g.val.cell? _=some (.slice i _ m):=λg=>(g.bel.cell b).trans (za d 3 _ rfl)
 have z4:∀ g:zn W,g.val.cell? _=some (.int _ _):=λg=>(g.bel.cell b).trans (za d 4 _ rfl)
 have z5:∀ g:zn W,g.val.cell? _=some (.int _ _):=λg=>(g.bel.cell b).trans (za d 5 _ rfl)
 have z6:∀ g:zn W,g.val.cell? _=some (.int _ _):=λg=>(g.bel.cell b).trans (za d 6 _ rfl)
 have z7:∀ g:zn W,g.val.cell? _=some (.int _ _):=λg=>(g.bel.cell b).trans (za d 7 _ rfl)
 have z8:∀ g:zn W,g.val.cell? _=some (.bool _):=λg=>(g.bel.cell b).trans (za d 8 _ rfl)
 have z9:∀ g:zn W,g.val.cell? _=some (.int _ _):=λg=>(g.bel.cell b).trans (za d 9 _ rfl)
 have C:∀ g:zn W,g.val.cell? _=some (.int _ _):=λg=>(g.bel.cell b).trans (za d 10 _ rfl)
 have D:∀ g:zn W,g.val.cell? _=some (.int _ _):=λg=>(g.bel.cell b).trans (za d 11 _ rfl)
 have U:∀ g:zn W,_:=λg=>(qY.below s g.bel).c1
 have F:∀ g:zn W,_:=λg=>(qY.below s g.bel).c2
 have M:∀ g:zn W,_:=λg=>((o.below g.bel) k B).2.2.1
 have V:(0:Int)<=(k:Int):=by omega
 have X:(k:Int)<10:=by omega
 clear s o;refine zh (by kernel_rfl) (by kernel_rfl) ?_
 repeat(first|go_big_quiet_skip|(go_big_quiet_want;go_big_quiet_op;first|go_big_quiet_on|(apply Jg;refine⟨λg=>?_,?_⟩;(focus(go_at_call 194;refine zf (v:=.bool true) ((zdX _ x _ hs (T _ (ze f g.bel)) (E _ (ze f g.bel))).mono ?_);rw[R.out];exact λ_ _ h=>h));go_big_quiet_on)|(apply Jg;refine⟨λg=>?_,?_⟩;(focus(go_at_call 193;refine zf (v:=.tuple #[]) ((ZD _ _).mono ?_);rintro e N ⟨rfl,rfl⟩;exact⟨rfl,bZ⟩));go_big_quiet_on)))
 refine Jl ?_;rintro _ ⟨g,rfl⟩;have b1:=zb d g.bel;have l:=ze f g.bel;have u0:∀ h:zn _,h.val.cell? _=some (.int _ (k:Int)):=λh=>by rw[← Q.out];exact O ⟨_,ze g.bel h.bel⟩
 have u2:∀ h:zn _,h.val.cell? _=_:=λh=>M ⟨_,ze g.bel h.bel⟩
 have v2:∀ h:zn _,h.val.cell? _=_:=λh=>F ⟨_,ze g.bel h.bel⟩
 have u3:∀ h:zn _,h.val.cell? _=_:=λh=>P ⟨_,ze g.bel h.bel⟩
 clear O z1 z2 P z4 z5 z6 z7 z8 z9 C D M U F;go_upto_region 2 with fail;refine zh (by kernel_rfl) (by kernel_rfl) ?_
 repeat(first|go_big_quiet_skip|(go_big_quiet_want;go_big_quiet_op;first|go_big_quiet_on|(apply Jg;refine⟨λh=>?_,?_⟩;(focus(go_at_call 195;refine zf (v:=.bool true) ((Q0 a i n _ c m S _ _ Z Y z (y _ (ze l h.bel)) (u _ (ze l h.bel))).mono ?_);rintro e N ⟨⟨v,rfl,hv⟩,A⟩;exact⟨by rw[hv.2 t.out],A⟩));go_big_quiet_on)|(apply Jg;refine⟨λg=>?_,?_⟩;(focus(go_at_call 193;refine zf (v:=.tuple #[]) ((ZD _ _).mono ?_);rintro e N ⟨rfl,rfl⟩;exact⟨rfl,bZ⟩));go_big_quiet_on)))
 refine Jl ?_;rintro _ ⟨h,rfl⟩;go_end0;exact⟨rfl,ze l h.bel⟩
end Go.Proofs.YtmdnjgihooflfaaGreatDoor
