/-
  OWN TEXT: AskedL, NamedJ, AskedJ, AskedK, CloneR, CopyLd, CloneP.
-/
import Derived.BigQuiet
import Derived.Deep.LoopGhost
import Derived.Lib.SliceRun
import Derived.Deep.DeepCutAuto
import Derived.Test.YtmdnjgihooflfaaGreatDoorB24
namespace Go.Proofs.YtmdnjgihooflfaaGreatDoor
open Go.RowKit
open Go.Value (int)
open Go.IntKind (i64)
set_option maxHeartbeats 64000000
set_option maxRecDepth 100000
/-- The operation is good, and its legs don't fit. -/
theorem zfU (x:OpD)(i:Option Addr)(j:Nat)(a:Option Addr)(n c:Nat)(S:Nat->Zj)(k:Nat)(w:World)(Q:OpD.Is w [int i64 x.kind,.string x.own,int i64 x.name,.slice i x.lgn j,int i64 x.pe,int i64 x.len,int i64 x.hei,int i64 x.cl,.bool x.all,int i64 x.be,int i64 x.unt,int i64 x.now] x)(hs:x.own.size<=1000000000000000)(J:Zm w)(pe:Nat->Addr)(L:qY w pe)(s:zac x)(M:x.kind=(k:Int))(D:k<10)(N:Z0 k≠0)(hn:n<=1048576)(hm:x.lgn<=1048576)(K:QL n S 1048576)(t:qB w a n S)(r:zT w i x.lgn x.lg)(m:¬ (QJ n S/\zad n S x.lgn x.lg)) :
  Calls Tryz.prog 106 #[.slice a n c,.agg #[int i64 x.kind,.string x.own,int i64 x.name,.slice i x.lgn j,int i64 x.pe,int i64 x.len,int i64 x.hei,int i64 x.cl,.bool x.all,int i64 x.be,int i64 x.unt,int i64 x.now]] w fun e w'=>e=.panicked [{ v:=.iface 96 (.agg #[.iface 391 (.pointer (some (pe 2)))]),recovered:=false }]/\Below w.heap.size w w':=by
 have f:Below w.heap.size w (w.alloc (.cells #[int i64 x.kind,.string x.own,int i64 x.name,.slice i x.lgn j,int i64 x.pe,int i64 x.len,int i64 x.hei,int i64 x.cl,.bool x.all,int i64 x.be,int i64 x.unt,int i64 x.now] 47)):=zk bZ _;have d:=heap_alloc_new w (.cells #[int i64 x.kind,.string x.own,int i64 x.name,.slice i x.lgn j,int i64 x.pe,int i64 x.len,int i64 x.hei,int i64 x.cl,.bool x.all,int i64 x.be,int i64 x.unt,int i64 x.now] 47);have HX:Hid (∀ w',Below w.heap.size w w'->OpD.Is w' [int i64 x.kind,.string x.own,int i64 x.name,.slice i x.lgn j,int i64 x.pe,int i64 x.len,int i64 x.hei,int i64 x.cl,.bool x.all,int i64 x.be,int i64 x.unt,int i64 x.now] x):=fun _ h=>Q.below h
 have H:Hid (∀ w',Below w.heap.size w w'->Zm w'):=fun _ h=>J.below h
 have u:=qY.below L f;have HO:Hid (decide (zac x)=true):=decide_eq_true s;have HK:=hI M;have z:=hI m;have B:Hid (∀ w',Below w.heap.size w w'->qB w' a n S):=fun _ h=>t.below h
 have A:Hid (∀ w',Below w.heap.size w w'->zT w' i x.lgn x.lg):=fun _ h=>r.below h
 have C:=hI K;have e0:(Z0 k == 0)=false:=by simpa using N
 clear Q J L s M m t r K N;go_enter Tryz.func106,Tryz.ntmps106;go_upto_region 1 with fail;generalize w.alloc (.cells #[int i64 x.kind,.string x.own,int i64 x.name,.slice i x.lgn j,int i64 x.pe,int i64 x.len,int i64 x.hei,int i64 x.cl,.bool x.all,int i64 x.be,int i64 x.unt,int i64 x.now] 47)=W at f d u ⊢;have b:w.heap.size<W.heap.size:=zM d;have o:=H.out W f;have Z:∀ g:zn W,g.val.cell? ⟨w.heap.size,0,none⟩=some (int i64 x.kind):=fun g=>(g.bel.cell b).trans (za d 0 _ rfl)
 have z1:∀ g:zn W,g.val.cell? ⟨w.heap.size,1,none⟩=some (.string x.own):=fun g=>(g.bel.cell b).trans (za d 1 _ rfl)
 have z2:∀ g:zn W,g.val.cell? ⟨w.heap.size,2,none⟩=some (int i64 x.name):=fun g=>(g.bel.cell b).trans (za d 2 _ rfl)
 have z3:∀ g:zn W,g.val.cell? ⟨w.heap.size,3,none⟩=some (.slice i x.lgn j):=fun g=>(g.bel.cell b).trans (za d 3 _ rfl)
 have z4:∀ g:zn W,g.val.cell? ⟨w.heap.size,4,none⟩=some (int i64 x.pe):=fun g=>(g.bel.cell b).trans (za d 4 _ rfl)
 have z5:∀ g:zn W,g.val.cell? ⟨w.heap.size,5,none⟩=some (int i64 x.len):=fun g=>(g.bel.cell b).trans (za d 5 _ rfl)
 have z6:∀ g:zn W,g.val.cell? ⟨w.heap.size,6,none⟩=some (int i64 x.hei):=fun g=>(g.bel.cell b).trans (za d 6 _ rfl)
 have z7:∀ g:zn W,g.val.cell? ⟨w.heap.size,7,none⟩=some (int i64 x.cl):=fun g=>(g.bel.cell b).trans (za d 7 _ rfl)
 have z8:∀ g:zn W,g.val.cell? ⟨w.heap.size,8,none⟩=some (.bool x.all):=fun g=>(g.bel.cell b).trans (za d 8 _ rfl)
 have z9:∀ g:zn W,g.val.cell? ⟨w.heap.size,9,none⟩=some (int i64 x.be):=fun g=>(g.bel.cell b).trans (za d 9 _ rfl)
 have F:∀ g:zn W,g.val.cell? ⟨w.heap.size,10,none⟩=some (int i64 x.unt):=fun g=>(g.bel.cell b).trans (za d 10 _ rfl)
 have G:∀ g:zn W,g.val.cell? ⟨w.heap.size,11,none⟩=some (int i64 x.now):=fun g=>(g.bel.cell b).trans (za d 11 _ rfl)
 have g1:∀ g:zn W,g.val.cell? ⟨1,0,none⟩=some (.iface 391 (.pointer (some (pe 1)))):=fun g=>(qY.below u g.bel).c1
 have I:∀ g:zn W,g.val.cell? ⟨2,0,none⟩=some (.iface 391 (.pointer (some (pe 2)))):=fun g=>(qY.below u g.bel).c2
 have X:∀ g:zn W,g.val.cell? ⟨9,k*7+2,none⟩=some (int i64 (Z0 k)):=fun g=>((o.below g.bel) k D).2.2.1
 have a0:(0:Int)<=(k:Int):=by omega
 have a1:(k:Int)<10:=by omega
 clear u o;refine zh (by kernel_rfl) (by kernel_rfl) ?_
 repeat(first|go_big_quiet_skip|(go_big_quiet_want;go_big_quiet_op;first|go_big_quiet_on|(apply Exists.intro;refine⟨fun g=>?_,?_⟩;(focus(go_at_call 194;refine zf (v:=.bool true) ((zdX [int i64 x.kind,.string x.own,int i64 x.name,.slice i x.lgn j,int i64 x.pe,int i64 x.len,int i64 x.hei,int i64 x.cl,.bool x.all,int i64 x.be,int i64 x.unt,int i64 x.now] x _ hs (HX.out _ (ze f g.bel)) (H.out _ (ze f g.bel))).mono ?_);rw[HO.out];exact fun _ _ h=>h));go_big_quiet_on)|(apply Exists.intro;refine⟨fun g=>?_,?_⟩;(focus(go_at_call 193;refine zf (v:=.tuple #[]) ((ZD _ _).mono ?_);rintro e Y ⟨rfl,rfl⟩;exact⟨rfl,bZ⟩));go_big_quiet_on)))
 refine wpQuiet_nil ?_;rintro _ ⟨g,rfl⟩;have b1:=zb d g.bel;have l:=ze f g.bel;have u0:∀ h:zn g.val,h.val.cell? ⟨w.heap.size,0,none⟩=some (int i64 (k:Int)):=fun h=>by rw[← HK.out];exact Z ⟨h.val,ze g.bel h.bel⟩
 have u2:∀ h:zn g.val,h.val.cell? ⟨9,k*7+2,none⟩=some (int i64 (Z0 k)):=fun h=>X ⟨h.val,ze g.bel h.bel⟩
 have v2:∀ h:zn g.val,h.val.cell? ⟨2,0,none⟩=some (.iface 391 (.pointer (some (pe 2)))):=fun h=>I ⟨h.val,ze g.bel h.bel⟩
 have u3:∀ h:zn g.val,h.val.cell? ⟨w.heap.size,3,none⟩=some (.slice i x.lgn j):=fun h=>z3 ⟨h.val,ze g.bel h.bel⟩
 clear Z z1 z2 z3 z4 z5 z6 z7 z8 z9 F G X g1 I;have R:=u0 ⟨g.val,bZ⟩;have T:=u2 ⟨g.val,bZ⟩;have U:=u3 ⟨g.val,bZ⟩;have y:=v2 ⟨g.val,bZ⟩;dsimp only at R T U y;clear u0 u2 u3 v2;go_upto_region 2 with fail;generalize g.val=V at R T U y l ⊢;have E:2<V.heap.size:=World.block_lt_of_cell? _ _ y;go_region_with (first|(go_at_call 195;refine(Q0 a i n x.lgn c j S x.lg _ hn hm C.out (B.out _ l.drew) (A.out _ l.drew)).mono ?_;rintro e Y ⟨⟨v,rfl,O⟩,q⟩;obtain rfl:v=false:=Bool.eq_false_iff.2 (fun h=>z.out (O.1 h));clear O;have g5:Y.cell? ⟨2,0,none⟩=some (.iface 391 (.pointer (some (pe 2)))):=(q.cell (p:=⟨2,0,none⟩) E).trans y)|(go_at_call 193;refine(zaD _ _ _).mono ?_;rintro e w3 ⟨rfl,rfl⟩;refine zhh (P:=Tryz.prog) (a:=⟨#[],[]⟩) (w:=w) ?_))
 all_goals exact⟨rfl,rfl,ze l.drew q⟩
/-- It names one that it may be done to. -/
theorem zja (x:OpD)(l:Option Addr)(m:Nat)(a:Option Addr)(n c:Nat)(k:Nat)(w:World)(u:Zm w)(z:x.kind=(k:Int))(D:k<10)(I:zaS k=true)(pe:Nat->Addr)(y:qY w pe)(S:Nat->ql)(Y:qO w a n S)(hn:n<=1048576)(j:Nat)(K:x.name=(j:Int)+1)(s:j<n)(F:zeo x.kind (S j) x.now) :
  Calls Tryz.prog 107 #[.slice a n c,.agg #[int i64 x.kind,.string x.own,int i64 x.name,.slice l x.lgn m,int i64 x.pe,int i64 x.len,int i64 x.hei,int i64 x.cl,.bool x.all,int i64 x.be,int i64 x.unt,int i64 x.now]] w fun e w'=>e=.returned (.tuple #[])/\Below w.heap.size w w':=by
 have i:=heap_alloc_new w (.cells #[int i64 x.kind,.string x.own,int i64 x.name,.slice l x.lgn m,int i64 x.pe,int i64 x.len,int i64 x.hei,int i64 x.cl,.bool x.all,int i64 x.be,int i64 x.unt,int i64 x.now] 47);have f:Below w.heap.size w (w.alloc (.cells #[int i64 x.kind,.string x.own,int i64 x.name,.slice l x.lgn m,int i64 x.pe,int i64 x.len,int i64 x.hei,int i64 x.cl,.bool x.all,int i64 x.be,int i64 x.unt,int i64 x.now] 47)):=zk bZ _;have M:(w.alloc (.cells #[int i64 x.kind,.string x.own,int i64 x.name,.slice l x.lgn m,int i64 x.pe,int i64 x.len,int i64 x.hei,int i64 x.cl,.bool x.all,int i64 x.be,int i64 x.unt,int i64 x.now] 47)).cell? ⟨9,k*7+1,none⟩=some (.bool true):=(f.cell (p:=⟨9,k*7+1,none⟩) u.lt).trans (by rw[← I];exact(u k D).2.1)
 have N:(w.alloc (.cells #[int i64 x.kind,.string x.own,int i64 x.name,.slice l x.lgn m,int i64 x.pe,int i64 x.len,int i64 x.hei,int i64 x.cl,.bool x.all,int i64 x.be,int i64 x.unt,int i64 x.now] 47)).cell? ⟨w.heap.size,0,none⟩=some (int i64 (k:Int)):=by rw[← z];exact za i 0 _ rfl
 have A:(0:Int)<=(k:Int):=by omega
 have B:(k:Int)<10:=by omega
 obtain⟨C,H,hI⟩:=Y;obtain⟨bb,bo,rfl,h⟩:=H j s;obtain⟨o,q,g,_,_⟩:=hI j s;obtain⟨b,J⟩:∃ b,b=S j:=⟨_,rfl⟩;rw[← J] at g F;have P:=hI F;have d:bb<w.heap.size:=World.block_lt_of_cell? w _ (h 0 (by decide))
 have G:=(qY.below y f).c3;have t:=(qY.below y f).c4;have U:decide (x.name<=(n:Int))=true:=decide_eq_true (by omega)
 have ej:x.name - 1=(j:Int):=by omega
 have V:1<=x.name:=by omega
 have X:x.name<=1048576:=by omega
 have HJ:=hI K;have O:=hI z;clear z K;go_enter Tryz.func107,Tryz.ntmps107;go_upto_region 1 with fail;generalize w.alloc (.cells #[int i64 x.kind,.string x.own,int i64 x.name,.slice l x.lgn m,int i64 x.pe,int i64 x.len,int i64 x.hei,int i64 x.cl,.bool x.all,int i64 x.be,int i64 x.unt,int i64 x.now] 47)=W at i f M N G t ⊢;have c0:W.cell? ⟨bb,bo+j*13,none⟩=some (int i64 b.name):=(f.cell (p:=⟨bb,bo+j*13,none⟩) d).trans (by have:=h 0 (by decide);rw[g] at this;exact this)
 have c1:W.cell? ⟨bb,bo+j*13+1,none⟩=some (int i64 b.who):=(f.cell (p:=⟨bb,bo+j*13+1,none⟩) d).trans (by have:=h 1 (by decide);rw[g] at this;exact this)
 have c2:W.cell? ⟨bb,bo+j*13+2,none⟩=some (.string b.own):=(f.cell (p:=⟨bb,bo+j*13+2,none⟩) d).trans (by have:=h 2 (by decide);rw[g] at this;exact this)
 have c3:W.cell? ⟨bb,bo+j*13+3,none⟩=some (.slice o b.lgn q):=(f.cell (p:=⟨bb,bo+j*13+3,none⟩) d).trans (by have:=h 3 (by decide);rw[g] at this;exact this)
 have c4:W.cell? ⟨bb,bo+j*13+4,none⟩=some (int i64 b.pe):=(f.cell (p:=⟨bb,bo+j*13+4,none⟩) d).trans (by have:=h 4 (by decide);rw[g] at this;exact this)
 have c5:W.cell? ⟨bb,bo+j*13+5,none⟩=some (int i64 b.len):=(f.cell (p:=⟨bb,bo+j*13+5,none⟩) d).trans (by have:=h 5 (by decide);rw[g] at this;exact this)
 have c6:W.cell? ⟨bb,bo+j*13+6,none⟩=some (int i64 b.hei):=(f.cell (p:=⟨bb,bo+j*13+6,none⟩) d).trans (by have:=h 6 (by decide);rw[g] at this;exact this)
 have c7:W.cell? ⟨bb,bo+j*13+7,none⟩=some (int i64 b.cl):=(f.cell (p:=⟨bb,bo+j*13+7,none⟩) d).trans (by have:=h 7 (by decide);rw[g] at this;exact this)
 have c8:W.cell? ⟨bb,bo+j*13+8,none⟩=some (.bool b.all):=(f.cell (p:=⟨bb,bo+j*13+8,none⟩) d).trans (by have:=h 8 (by decide);rw[g] at this;exact this)
 have c9:W.cell? ⟨bb,bo+j*13+9,none⟩=some (int i64 b.be):=(f.cell (p:=⟨bb,bo+j*13+9,none⟩) d).trans (by have:=h 9 (by decide);rw[g] at this;exact this)
 have Q:W.cell? ⟨bb,bo+j*13+10,none⟩=some (int i64 b.state):=(f.cell (p:=⟨bb,bo+j*13+10,none⟩) d).trans (by have:=h 10 (by decide);rw[g] at this;exact this)
 have R:W.cell? ⟨bb,bo+j*13+11,none⟩=some (int i64 b.unt):=(f.cell (p:=⟨bb,bo+j*13+11,none⟩) d).trans (by have:=h 11 (by decide);rw[g] at this;exact this)
 have T:W.cell? ⟨bb,bo+j*13+12,none⟩=some (int i64 b.price):=(f.cell (p:=⟨bb,bo+j*13+12,none⟩) d).trans (by have:=h 12 (by decide);rw[g] at this;exact this)
 have y1:W.cell? ⟨w.heap.size,1,none⟩=some (.string x.own):=za i 1 _ rfl;have y2:W.cell? ⟨w.heap.size,2,none⟩=some (int i64 x.name):=za i 2 _ rfl;have y3:W.cell? ⟨w.heap.size,3,none⟩=some (.slice l x.lgn m):=za i 3 _ rfl;have y4:W.cell? ⟨w.heap.size,4,none⟩=some (int i64 x.pe):=za i 4 _ rfl;have y5:W.cell? ⟨w.heap.size,5,none⟩=some (int i64 x.len):=za i 5 _ rfl;have y6:W.cell? ⟨w.heap.size,6,none⟩=some (int i64 x.hei):=za i 6 _ rfl;have y7:W.cell? ⟨w.heap.size,7,none⟩=some (int i64 x.cl):=za i 7 _ rfl;have y8:W.cell? ⟨w.heap.size,8,none⟩=some (.bool x.all):=za i 8 _ rfl;have y9:W.cell? ⟨w.heap.size,9,none⟩=some (int i64 x.be):=za i 9 _ rfl;have a0:W.cell? ⟨w.heap.size,10,none⟩=some (int i64 x.unt):=za i 10 _ rfl;have a1:W.cell? ⟨w.heap.size,11,none⟩=some (int i64 x.now):=za i 11 _ rfl;have E:4<W.heap.size:=World.block_lt_of_cell? W _ t;clear u I y F h g H hI J i;go_upto_region 3 with(go_at_call 193;refine(ZD _ _).mono ?_;rintro e w1 ⟨rfl,rfl⟩);have ew:IntKind.i64.wrap (j:Int)=(j:Int):=by rw[IntKind.wrap_i64];omega
 rw[← O.out] at N;clear M G U A B;go_region_with (first|(go_at_call 196;refine(zkK x l m b o q _).mono ?_;rintro e Z ⟨⟨v,rfl,L⟩,r⟩;obtain rfl:v=true:=L.2 P.out;clear L;have g5:Z.cell? ⟨4,0,none⟩=some (.iface 391 (.pointer (some (pe 4)))):=(r.cell (p:=⟨4,0,none⟩) (by simpa using E)).trans (by simpa using t))|(go_at_call 193;refine(ZD _ _).mono ?_;rintro e w3 ⟨rfl,rfl⟩))
 all_goals (go_end0;exact⟨rfl,ze f.drew r⟩)
/-- The operation is good, and is of a kind Zx legs. -/
theorem zfV (x:OpD)(i:Option Addr)(j:Nat)(a:Option Addr)(n c:Nat)(k:Nat)(w:World)(C:OpD.Is w [int i64 x.kind,.string x.own,int i64 x.name,.slice i x.lgn j,int i64 x.pe,int i64 x.len,int i64 x.hei,int i64 x.cl,.bool x.all,int i64 x.be,int i64 x.unt,int i64 x.now] x)(L:x.own.size<=1000000000000000)(y:Zm w)(pe:Nat->Addr)(z:qY w pe)(m:zac x)(A:x.kind=(k:Int))(q:k<10)(B:Z0 k=0) :
  Calls Tryz.prog 106 #[.slice a n c,.agg #[int i64 x.kind,.string x.own,int i64 x.name,.slice i x.lgn j,int i64 x.pe,int i64 x.len,int i64 x.hei,int i64 x.cl,.bool x.all,int i64 x.be,int i64 x.unt,int i64 x.now]] w fun e w'=>e=.returned (.tuple #[])/\Below w.heap.size w w':=by
 have f:Below w.heap.size w (w.alloc (.cells #[int i64 x.kind,.string x.own,int i64 x.name,.slice i x.lgn j,int i64 x.pe,int i64 x.len,int i64 x.hei,int i64 x.cl,.bool x.all,int i64 x.be,int i64 x.unt,int i64 x.now] 47)):=zk bZ _;have d:=heap_alloc_new w (.cells #[int i64 x.kind,.string x.own,int i64 x.name,.slice i x.lgn j,int i64 x.pe,int i64 x.len,int i64 x.hei,int i64 x.cl,.bool x.all,int i64 x.be,int i64 x.unt,int i64 x.now] 47);have H:Hid (∀ w',Below w.heap.size w w'->OpD.Is w' [int i64 x.kind,.string x.own,int i64 x.name,.slice i x.lgn j,int i64 x.pe,int i64 x.len,int i64 x.hei,int i64 x.cl,.bool x.all,int i64 x.be,int i64 x.unt,int i64 x.now] x):=fun _ h=>C.below h
 have t:Hid (∀ w',Below w.heap.size w w'->Zm w'):=fun _ h=>y.below h
 have o:=qY.below z f;have G:Hid (decide (zac x)=true):=decide_eq_true m;have F:=hI A;clear C y z m A;go_enter Tryz.func106,Tryz.ntmps106;go_upto_region 1 with fail;generalize w.alloc (.cells #[int i64 x.kind,.string x.own,int i64 x.name,.slice i x.lgn j,int i64 x.pe,int i64 x.len,int i64 x.hei,int i64 x.cl,.bool x.all,int i64 x.be,int i64 x.unt,int i64 x.now] 47)=W at f d o ⊢;have b:w.heap.size<W.heap.size:=zM d;have l:=t.out W f;have E:∀ g:zn W,g.val.cell? ⟨w.heap.size,0,none⟩=some (int i64 x.kind):=fun g=>(g.bel.cell b).trans (za d 0 _ rfl)
 have N:∀ g:zn W,g.val.cell? ⟨w.heap.size,1,none⟩=some (.string x.own):=fun g=>(g.bel.cell b).trans (za d 1 _ rfl)
 have O:∀ g:zn W,g.val.cell? ⟨w.heap.size,2,none⟩=some (int i64 x.name):=fun g=>(g.bel.cell b).trans (za d 2 _ rfl)
 have P:∀ g:zn W,g.val.cell? ⟨w.heap.size,3,none⟩=some (.slice i x.lgn j):=fun g=>(g.bel.cell b).trans (za d 3 _ rfl)
 have Q:∀ g:zn W,g.val.cell? ⟨w.heap.size,4,none⟩=some (int i64 x.pe):=fun g=>(g.bel.cell b).trans (za d 4 _ rfl)
 have R:∀ g:zn W,g.val.cell? ⟨w.heap.size,5,none⟩=some (int i64 x.len):=fun g=>(g.bel.cell b).trans (za d 5 _ rfl)
 have S:∀ g:zn W,g.val.cell? ⟨w.heap.size,6,none⟩=some (int i64 x.hei):=fun g=>(g.bel.cell b).trans (za d 6 _ rfl)
 have T:∀ g:zn W,g.val.cell? ⟨w.heap.size,7,none⟩=some (int i64 x.cl):=fun g=>(g.bel.cell b).trans (za d 7 _ rfl)
 have U:∀ g:zn W,g.val.cell? ⟨w.heap.size,8,none⟩=some (.bool x.all):=fun g=>(g.bel.cell b).trans (za d 8 _ rfl)
 have V:∀ g:zn W,g.val.cell? ⟨w.heap.size,9,none⟩=some (int i64 x.be):=fun g=>(g.bel.cell b).trans (za d 9 _ rfl)
 have r:∀ g:zn W,g.val.cell? ⟨w.heap.size,10,none⟩=some (int i64 x.unt):=fun g=>(g.bel.cell b).trans (za d 10 _ rfl)
 have s:∀ g:zn W,g.val.cell? ⟨w.heap.size,11,none⟩=some (int i64 x.now):=fun g=>(g.bel.cell b).trans (za d 11 _ rfl)
 have I:∀ g:zn W,g.val.cell? ⟨1,0,none⟩=some (.iface 391 (.pointer (some (pe 1)))):=fun g=>(qY.below o g.bel).c1
 have u:∀ g:zn W,g.val.cell? ⟨2,0,none⟩=some (.iface 391 (.pointer (some (pe 2)))):=fun g=>(qY.below o g.bel).c2
 have D:∀ g:zn W,g.val.cell? ⟨9,k*7+2,none⟩=some (int i64 0):=fun g=>(((l.below g.bel) k q).2.2.1).trans (by rw[B])
 have J:(0:Int)<=(k:Int):=by omega
 have K:(k:Int)<10:=by omega
 clear o l;refine zh (by kernel_rfl) (by kernel_rfl) ?_
 repeat(first|go_big_quiet_skip|(go_big_quiet_want;go_big_quiet_op;first|go_big_quiet_on|(apply Exists.intro;refine⟨fun g=>?_,?_⟩;(focus(go_at_call 194;refine zf (v:=.bool true) ((zdX [int i64 x.kind,.string x.own,int i64 x.name,.slice i x.lgn j,int i64 x.pe,int i64 x.len,int i64 x.hei,int i64 x.cl,.bool x.all,int i64 x.be,int i64 x.unt,int i64 x.now] x _ L (H.out _ (ze f g.bel)) (t.out _ (ze f g.bel))).mono ?_);rw[G.out];exact fun _ _ h=>h));go_big_quiet_on)|(apply Exists.intro;refine⟨fun g=>?_,?_⟩;(focus(go_at_call 193;refine zf (v:=.tuple #[]) ((ZD _ _).mono ?_);rintro e M ⟨rfl,rfl⟩;exact⟨rfl,bZ⟩));go_big_quiet_on)))
 refine wpQuiet_nil ?_;rintro _ ⟨g,rfl⟩;have b1:=zb d g.bel;have p:=ze f g.bel;have u0:∀ h:zn g.val,h.val.cell? ⟨w.heap.size,0,none⟩=some (int i64 (k:Int)):=fun h=>by rw[← F.out];exact E ⟨h.val,ze g.bel h.bel⟩
 have u2:∀ h:zn g.val,h.val.cell? ⟨9,k*7+2,none⟩=some (int i64 0):=fun h=>D ⟨h.val,ze g.bel h.bel⟩
 have v2:∀ h:zn g.val,h.val.cell? ⟨2,0,none⟩=some (.iface 391 (.pointer (some (pe 2)))):=fun h=>u ⟨h.val,ze g.bel h.bel⟩
 clear E N O P Q R S T U V r s D I u B;go_upto_region 2 with fail;refine zh (by kernel_rfl) (by kernel_rfl) ?_
 repeat(first|go_big_quiet_skip|(go_big_quiet_want;go_big_quiet_op;first|go_big_quiet_on|(apply Exists.intro;refine⟨fun g=>?_,?_⟩;(focus(go_at_call 193;refine zf (v:=.tuple #[]) ((ZD _ _).mono ?_);rintro e M ⟨rfl,rfl⟩;exact⟨rfl,bZ⟩));go_big_quiet_on)))
 refine wpQuiet_nil ?_;rintro _ ⟨h,rfl⟩;go_end0;exact⟨rfl,ze p h.bel⟩
/-- The operation is good, and its legs fit. -/
theorem zhj (x:OpD)(i:Option Addr)(j:Nat)(a:Option Addr)(n c:Nat)(S:Nat->Zj)(k:Nat)(w:World)(L:OpD.Is w [int i64 x.kind,.string x.own,int i64 x.name,.slice i x.lgn j,int i64 x.pe,int i64 x.len,int i64 x.hei,int i64 x.cl,.bool x.all,int i64 x.be,int i64 x.unt,int i64 x.now] x)(hs:x.own.size<=1000000000000000)(G:Zm w)(pe:Nat->Addr)(I:qY w pe)(q:zac x)(J:x.kind=(k:Int))(B:k<10)(K:Z0 k≠0)(Z:n<=1048576)(Y:x.lgn<=1048576)(H:QL n S 1048576)(r:qB w a n S)(p:zT w i x.lgn x.lg)(l:QJ n S/\zad n S x.lgn x.lg) :
  Calls Tryz.prog 106 #[.slice a n c,.agg #[int i64 x.kind,.string x.own,int i64 x.name,.slice i x.lgn j,int i64 x.pe,int i64 x.len,int i64 x.hei,int i64 x.cl,.bool x.all,int i64 x.be,int i64 x.unt,int i64 x.now]] w fun e w'=>e=.returned (.tuple #[])/\Below w.heap.size w w':=by
 have f:Below w.heap.size w (w.alloc (.cells #[int i64 x.kind,.string x.own,int i64 x.name,.slice i x.lgn j,int i64 x.pe,int i64 x.len,int i64 x.hei,int i64 x.cl,.bool x.all,int i64 x.be,int i64 x.unt,int i64 x.now] 47)):=zk bZ _;have d:=heap_alloc_new w (.cells #[int i64 x.kind,.string x.own,int i64 x.name,.slice i x.lgn j,int i64 x.pe,int i64 x.len,int i64 x.hei,int i64 x.cl,.bool x.all,int i64 x.be,int i64 x.unt,int i64 x.now] 47);have T:Hid (∀ w',Below w.heap.size w w'->OpD.Is w' [int i64 x.kind,.string x.own,int i64 x.name,.slice i x.lgn j,int i64 x.pe,int i64 x.len,int i64 x.hei,int i64 x.cl,.bool x.all,int i64 x.be,int i64 x.unt,int i64 x.now] x):=fun _ h=>L.below h
 have E:Hid (∀ w',Below w.heap.size w w'->Zm w'):=fun _ h=>G.below h
 have s:=qY.below I f;have R:Hid (decide (zac x)=true):=decide_eq_true q;have Q:=hI J;have t:=hI l;have y:Hid (∀ w',Below w.heap.size w w'->qB w' a n S):=fun _ h=>r.below h
 have u:Hid (∀ w',Below w.heap.size w w'->zT w' i x.lgn x.lg):=fun _ h=>p.below h
 have z:=hI H;have e0:(Z0 k == 0)=false:=by simpa using K
 clear L G I q J l r p H K;go_enter Tryz.func106,Tryz.ntmps106;go_upto_region 1 with fail;generalize w.alloc (.cells #[int i64 x.kind,.string x.own,int i64 x.name,.slice i x.lgn j,int i64 x.pe,int i64 x.len,int i64 x.hei,int i64 x.cl,.bool x.all,int i64 x.be,int i64 x.unt,int i64 x.now] 47)=W at f d s ⊢;have b:w.heap.size<W.heap.size:=zM d;have o:=E.out W f;have O:∀ g:zn W,g.val.cell? ⟨w.heap.size,0,none⟩=some (int i64 x.kind):=fun g=>(g.bel.cell b).trans (za d 0 _ rfl)
 have z1:∀ g:zn W,g.val.cell? ⟨w.heap.size,1,none⟩=some (.string x.own):=fun g=>(g.bel.cell b).trans (za d 1 _ rfl)
 have z2:∀ g:zn W,g.val.cell? ⟨w.heap.size,2,none⟩=some (int i64 x.name):=fun g=>(g.bel.cell b).trans (za d 2 _ rfl)
 have P:∀ g:zn W,g.val.cell? ⟨w.heap.size,3,none⟩=some (.slice i x.lgn j):=fun g=>(g.bel.cell b).trans (za d 3 _ rfl)
 have z4:∀ g:zn W,g.val.cell? ⟨w.heap.size,4,none⟩=some (int i64 x.pe):=fun g=>(g.bel.cell b).trans (za d 4 _ rfl)
 have z5:∀ g:zn W,g.val.cell? ⟨w.heap.size,5,none⟩=some (int i64 x.len):=fun g=>(g.bel.cell b).trans (za d 5 _ rfl)
 have z6:∀ g:zn W,g.val.cell? ⟨w.heap.size,6,none⟩=some (int i64 x.hei):=fun g=>(g.bel.cell b).trans (za d 6 _ rfl)
 have z7:∀ g:zn W,g.val.cell? ⟨w.heap.size,7,none⟩=some (int i64 x.cl):=fun g=>(g.bel.cell b).trans (za d 7 _ rfl)
 have z8:∀ g:zn W,g.val.cell? ⟨w.heap.size,8,none⟩=some (.bool x.all):=fun g=>(g.bel.cell b).trans (za d 8 _ rfl)
 have z9:∀ g:zn W,g.val.cell? ⟨w.heap.size,9,none⟩=some (int i64 x.be):=fun g=>(g.bel.cell b).trans (za d 9 _ rfl)
 have C:∀ g:zn W,g.val.cell? ⟨w.heap.size,10,none⟩=some (int i64 x.unt):=fun g=>(g.bel.cell b).trans (za d 10 _ rfl)
 have D:∀ g:zn W,g.val.cell? ⟨w.heap.size,11,none⟩=some (int i64 x.now):=fun g=>(g.bel.cell b).trans (za d 11 _ rfl)
 have U:∀ g:zn W,g.val.cell? ⟨1,0,none⟩=some (.iface 391 (.pointer (some (pe 1)))):=fun g=>(qY.below s g.bel).c1
 have F:∀ g:zn W,g.val.cell? ⟨2,0,none⟩=some (.iface 391 (.pointer (some (pe 2)))):=fun g=>(qY.below s g.bel).c2
 have M:∀ g:zn W,g.val.cell? ⟨9,k*7+2,none⟩=some (int i64 (Z0 k)):=fun g=>((o.below g.bel) k B).2.2.1
 have V:(0:Int)<=(k:Int):=by omega
 have X:(k:Int)<10:=by omega
 clear s o;refine zh (by kernel_rfl) (by kernel_rfl) ?_
 repeat(first|go_big_quiet_skip|(go_big_quiet_want;go_big_quiet_op;first|go_big_quiet_on|(apply Exists.intro;refine⟨fun g=>?_,?_⟩;(focus(go_at_call 194;refine zf (v:=.bool true) ((zdX [int i64 x.kind,.string x.own,int i64 x.name,.slice i x.lgn j,int i64 x.pe,int i64 x.len,int i64 x.hei,int i64 x.cl,.bool x.all,int i64 x.be,int i64 x.unt,int i64 x.now] x _ hs (T.out _ (ze f g.bel)) (E.out _ (ze f g.bel))).mono ?_);rw[R.out];exact fun _ _ h=>h));go_big_quiet_on)|(apply Exists.intro;refine⟨fun g=>?_,?_⟩;(focus(go_at_call 193;refine zf (v:=.tuple #[]) ((ZD _ _).mono ?_);rintro e N ⟨rfl,rfl⟩;exact⟨rfl,bZ⟩));go_big_quiet_on)))
 refine wpQuiet_nil ?_;rintro _ ⟨g,rfl⟩;have b1:=zb d g.bel;have m:=ze f g.bel;have u0:∀ h:zn g.val,h.val.cell? ⟨w.heap.size,0,none⟩=some (int i64 (k:Int)):=fun h=>by rw[← Q.out];exact O ⟨h.val,ze g.bel h.bel⟩
 have u2:∀ h:zn g.val,h.val.cell? ⟨9,k*7+2,none⟩=some (int i64 (Z0 k)):=fun h=>M ⟨h.val,ze g.bel h.bel⟩
 have v2:∀ h:zn g.val,h.val.cell? ⟨2,0,none⟩=some (.iface 391 (.pointer (some (pe 2)))):=fun h=>F ⟨h.val,ze g.bel h.bel⟩
 have u3:∀ h:zn g.val,h.val.cell? ⟨w.heap.size,3,none⟩=some (.slice i x.lgn j):=fun h=>P ⟨h.val,ze g.bel h.bel⟩
 clear O z1 z2 P z4 z5 z6 z7 z8 z9 C D M U F;go_upto_region 2 with fail;refine zh (by kernel_rfl) (by kernel_rfl) ?_
 repeat(first|go_big_quiet_skip|(go_big_quiet_want;go_big_quiet_op;first|go_big_quiet_on|(apply Exists.intro;refine⟨fun h=>?_,?_⟩;(focus(go_at_call 195;refine zf (v:=.bool true) ((Q0 a i n x.lgn c j S x.lg _ Z Y z.out (y.out _ (ze m h.bel)) (u.out _ (ze m h.bel))).mono ?_);rintro e N ⟨⟨v,rfl,hv⟩,A⟩;exact⟨by rw[hv.2 t.out],A⟩));go_big_quiet_on)|(apply Exists.intro;refine⟨fun g=>?_,?_⟩;(focus(go_at_call 193;refine zf (v:=.tuple #[]) ((ZD _ _).mono ?_);rintro e N ⟨rfl,rfl⟩;exact⟨rfl,bZ⟩));go_big_quiet_on)))
 refine wpQuiet_nil ?_;rintro _ ⟨h,rfl⟩;go_end0;exact⟨rfl,ze m h.bel⟩
def zcb (w:World)(a:Option Addr)(b:List Value):Prop:=∀ ad,a=some ad->∀ j u,b[j]?=some u->w.cell? (ad.add j)=some u
theorem zcb.below {w w':World}{b:Option Addr}{d:List Value}(h:zcb w b d)(f:Below w.heap.size w w'):zcb w' b d:=fun a e j u c=>(f.cell (World.block_lt_of_cell? w _ (h a e j u c))).trans (h a e j u c)
theorem cloneStay (i:Option Addr)(n c:Nat)(d:List Value)(w:World)(y:n<=1048576)(x:d.length=n*4)(h1:∀ u ∈ d,u.oneCell'=true)(l:zcb w i d)(b:i=none->n=0/\c=0) :
  Calls Tryz.prog 209 #[.slice i n c] w fun e w'=>(∃ v,e=.returned v/\w'.ownsRow w.heap.size 220 4 v n d)/\Below w.heap.size w w':=by
 have qT:∀ (w:World) (a:Option Addr) (n c q c':Nat),(binOp .eql 141 (.slice a n c) (.slice none q c')).run Tryz.prog w=.ok (.bool a.isNone) w:=fun w a n c q c'=>Lib.run_eql_slice_nil w _ _ a n c q c' Tryz.underlying141
 cases i with
 | none =>
  obtain⟨rfl,rfl⟩:=b rfl;obtain rfl:d=[]:=List.length_eq_zero_iff.1 (by omega)
  clear b l y;go_enter Tryz.func209,Tryz.ntmps209;go_wp2;go_ret;exact⟨⟨_,rfl,World.ownsRow_nil _ _ _ _⟩,bZ⟩
 | some ad =>
  obtain⟨z,A,m,o,p⟩:=info_parts Tryz.infoStay;have f:Below w.heap.size w (w.alloc (.cells #[] 220)):=zk bZ _;have r:(w.alloc (.cells #[] 220)).ownsRow w.heap.size 220 4 (.slice (some ⟨w.heap.size,0,none⟩) 0 0) 0 []:=⟨rfl,.inr ⟨w.heap.size,0,#[],rfl,Nat.le_refl _,heap_alloc_new w _,Nat.le_refl _,Nat.zero_le _,rfl,rfl⟩⟩;have s:=hI (l.below f);clear b l;go_enter Tryz.func209,Tryz.ntmps209;go_wp2_with (first|(at_builtin;refine zv _ (by rfl) (.tmp 5) (.tmp 6) 141 (by rfl) w.heap.size 220 z (.agg #[int i64 0,int i64 0,int i64 0,int i64 0]) 4 32 Tryz.underlying141 A m o p rfl (by decide) _ 0 [] (by rfl) r (some ad) n c d (by rfl) (fun h=>(by cases h)) x s.out h1 (by unfold maxLen;omega) (by omega) (by simp) ?_;intro v' w3 g k))
  go_ret;rw[Nat.zero_add,List.nil_append] at g;exact⟨⟨_,rfl,g⟩,f.grown k (by simp) (fun j t=>(r.lt j t).1)⟩
theorem cloneRoom (i:Option Addr)(n c:Nat)(d:List Value)(w:World)(y:n<=1048576)(x:d.length=n*4)(h1:∀ u ∈ d,u.oneCell'=true)(l:zcb w i d)(b:i=none->n=0/\c=0) :
  Calls Tryz.prog 210 #[.slice i n c] w fun e w'=>(∃ v,e=.returned v/\w'.ownsRow w.heap.size 228 4 v n d)/\Below w.heap.size w w':=by
 have qT:∀ (w:World) (a:Option Addr) (n c q c':Nat),(binOp .eql 142 (.slice a n c) (.slice none q c')).run Tryz.prog w=.ok (.bool a.isNone) w:=fun w a n c q c'=>Lib.run_eql_slice_nil w _ _ a n c q c' Tryz.underlying142
 cases i with
 | none =>
  obtain⟨rfl,rfl⟩:=b rfl;obtain rfl:d=[]:=List.length_eq_zero_iff.1 (by omega)
  clear b l y;go_enter Tryz.func210,Tryz.ntmps210;go_wp2;go_ret;exact⟨⟨_,rfl,World.ownsRow_nil _ _ _ _⟩,bZ⟩
 | some ad =>
  obtain⟨z,A,m,o,p⟩:=info_parts Tryz.infoRoom;have f:Below w.heap.size w (w.alloc (.cells #[] 228)):=zk bZ _;have r:(w.alloc (.cells #[] 228)).ownsRow w.heap.size 228 4 (.slice (some ⟨w.heap.size,0,none⟩) 0 0) 0 []:=⟨rfl,.inr ⟨w.heap.size,0,#[],rfl,Nat.le_refl _,heap_alloc_new w _,Nat.le_refl _,Nat.zero_le _,rfl,rfl⟩⟩;have s:=hI (l.below f);clear b l;go_enter Tryz.func210,Tryz.ntmps210;go_wp2_with (first|(at_builtin;refine zv _ (by rfl) (.tmp 5) (.tmp 6) 142 (by rfl) w.heap.size 228 z (.agg #[int i64 0,int i64 0,int i64 0,.bool false]) 4 32 Tryz.underlying142 A m o p rfl (by decide) _ 0 [] (by rfl) r (some ad) n c d (by rfl) (fun h=>(by cases h)) x s.out h1 (by unfold maxLen;omega) (by omega) (by simp) ?_;intro v' w3 g k))
  go_ret;rw[Nat.zero_add,List.nil_append] at g;exact⟨⟨_,rfl,g⟩,f.grown k (by simp) (fun j t=>(r.lt j t).1)⟩
theorem cloneSeat (i:Option Addr)(n c:Nat)(d:List Value)(w:World)(y:n<=1048576)(x:d.length=n*2)(h1:∀ u ∈ d,u.oneCell'=true)(l:zcb w i d)(b:i=none->n=0/\c=0) :
  Calls Tryz.prog 211 #[.slice i n c] w fun e w'=>(∃ v,e=.returned v/\w'.ownsRow w.heap.size 234 2 v n d)/\Below w.heap.size w w':=by
 have qT:∀ (w:World) (a:Option Addr) (n c q c':Nat),(binOp .eql 143 (.slice a n c) (.slice none q c')).run Tryz.prog w=.ok (.bool a.isNone) w:=fun w a n c q c'=>Lib.run_eql_slice_nil w _ _ a n c q c' Tryz.underlying143
 cases i with
 | none =>
  obtain⟨rfl,rfl⟩:=b rfl;obtain rfl:d=[]:=List.length_eq_zero_iff.1 (by omega)
  clear b l y;go_enter Tryz.func211,Tryz.ntmps211;go_wp2;go_ret;exact⟨⟨_,rfl,World.ownsRow_nil _ _ _ _⟩,bZ⟩
 | some ad =>
  obtain⟨z,A,m,o,p⟩:=info_parts Tryz.infoSeat;have f:Below w.heap.size w (w.alloc (.cells #[] 234)):=zk bZ _;have r:(w.alloc (.cells #[] 234)).ownsRow w.heap.size 234 2 (.slice (some ⟨w.heap.size,0,none⟩) 0 0) 0 []:=⟨rfl,.inr ⟨w.heap.size,0,#[],rfl,Nat.le_refl _,heap_alloc_new w _,Nat.le_refl _,Nat.zero_le _,rfl,rfl⟩⟩;have s:=hI (l.below f);clear b l;go_enter Tryz.func211,Tryz.ntmps211;go_wp2_with (first|(at_builtin;refine zv _ (by rfl) (.tmp 5) (.tmp 6) 143 (by rfl) w.heap.size 234 z (.agg #[int i64 0,int i64 0]) 2 16 Tryz.underlying143 A m o p rfl (by decide) _ 0 [] (by rfl) r (some ad) n c d (by rfl) (fun h=>(by cases h)) x s.out h1 (by unfold maxLen;omega) (by omega) (by simp) ?_;intro v' w3 g k))
  go_ret;rw[Nat.zero_add,List.nil_append] at g;exact⟨⟨_,rfl,g⟩,f.grown k (by simp) (fun j t=>(r.lt j t).1)⟩
theorem cloneLoad (i:Option Addr)(n c:Nat)(d:List Value)(w:World)(y:n<=1048576)(x:d.length=n*3)(h1:∀ u ∈ d,u.oneCell'=true)(l:zcb w i d)(b:i=none->n=0/\c=0) :
  Calls Tryz.prog 197 #[.slice i n c] w fun e w'=>(∃ v,e=.returned v/\w'.ownsRow w.heap.size 145 3 v n d)/\Below w.heap.size w w':=by
 have qT:∀ (w:World) (a:Option Addr) (n c q c':Nat),(binOp .eql 35 (.slice a n c) (.slice none q c')).run Tryz.prog w=.ok (.bool a.isNone) w:=fun w a n c q c'=>Lib.run_eql_slice_nil w _ _ a n c q c' Tryz.underlying35
 cases i with
 | none =>
  obtain⟨rfl,rfl⟩:=b rfl;obtain rfl:d=[]:=List.length_eq_zero_iff.1 (by omega)
  clear b l y;go_enter Tryz.func197,Tryz.ntmps197;go_wp2;go_ret;exact⟨⟨_,rfl,World.ownsRow_nil _ _ _ _⟩,bZ⟩
 | some ad =>
  obtain⟨z,A,m,o,p⟩:=info_parts Tryz.infoLoadO;have f:Below w.heap.size w (w.alloc (.cells #[] 145)):=zk bZ _;have r:(w.alloc (.cells #[] 145)).ownsRow w.heap.size 145 3 (.slice (some ⟨w.heap.size,0,none⟩) 0 0) 0 []:=⟨rfl,.inr ⟨w.heap.size,0,#[],rfl,Nat.le_refl _,heap_alloc_new w _,Nat.le_refl _,Nat.zero_le _,rfl,rfl⟩⟩;have s:=hI (l.below f);clear b l;go_enter Tryz.func197,Tryz.ntmps197;go_wp2_with (first|(at_builtin;refine zv _ (by rfl) (.tmp 5) (.tmp 6) 35 (by rfl) w.heap.size 145 z (.agg #[.slice none 0 0,.slice none 0 0,.slice none 0 0]) 3 72 Tryz.underlying35 A m o p rfl (by decide) _ 0 [] (by rfl) r (some ad) n c d (by rfl) (fun h=>(by cases h)) x s.out h1 (by unfold maxLen;omega) (by omega) (by simp) ?_;intro v' w3 g k))
  go_ret;rw[Nat.zero_add,List.nil_append] at g;exact⟨⟨_,rfl,g⟩,f.grown k (by simp) (fun j t=>(r.lt j t).1)⟩
section
open Go.RowKit
structure CLd (w u:World)(k g:Nat)(l:zY)(c a b:Option Addr)(f d e:Nat)(h i j:Option Value):Prop where
 bel:Below w.heap.size w u
 rl:w.heap.size<=g
 src:zY.Is w [.slice c l.stn f,.slice a l.ron d,.slice b l.sen e] l
 sh:zY.Short l 1048576
 box:u.heap[k]?=some (.cells #[.slice c l.stn f,.slice a l.ron d,.slice b l.sen e] 145 (0,0))
 res:u.heap[g]?=some (.cells #[.slice none 0 0,.slice none 0 0,.slice none 0 0] 145 (0,0))
 h1:∀ v,h=some v->u.ownsRow w.heap.size 220 4 v l.stn (zy l.st l.stn)
 h2:∀ v,i=some v->u.ownsRow w.heap.size 228 4 v l.ron (zw l.ro l.ron)
 h3:∀ v,j=some v->u.ownsRow w.heap.size 234 2 v l.sen (zB l.se l.sen)
section
variable {w u : World} {xb rb : Nat} {l : zY} {ast aro ase : Option Addr} {cst cro cse : Nat} {p1 p2 p3 : Option Value}
theorem CLd.s (h:CLd w u xb rb l ast aro ase cst cro cse p1 p2 p3):u.cell? ⟨xb,0,none⟩=some (.slice ast l.stn cst)/\u.cell? ⟨xb,1,none⟩=some (.slice aro l.ron cro)/\u.cell? ⟨xb,2,none⟩=some (.slice ase l.sen cse):=⟨za h.box 0 _ rfl,za h.box 1 _ rfl,za h.box 2 _ rfl⟩
theorem CLd.below {b:World}(h:CLd w u xb rb l ast aro ase cst cro cse p1 p2 p3)(a:Below u.heap.size u b):CLd w b xb rb l ast aro ase cst cro cse p1 p2 p3:=⟨ze h.bel a,h.rl,h.src,h.sh,zb h.box a,zb h.res a,fun v e=>zo a (h.h1 v e),fun v e=>zo a (h.h2 v e),fun v e=>zo a (h.h3 v e)⟩
theorem CLd.c1 (h:CLd w u xb rb l ast aro ase cst cro cse none p2 p3):Calls Tryz.prog 209 #[.slice ast l.stn cst] u fun e i=>∃ b c,e=.returned (.slice b l.stn c)/\Hid (CLd w i xb rb l ast aro ase cst cro cse (some (.slice b l.stn c)) p2 p3):=by
 obtain⟨_,_,_,_,_,_,a,d,f,m,o,n,p⟩:=h.src;simp only[List.cons.injEq,Value.slice.injEq,true_and,and_true] at a;obtain⟨⟨rfl,rfl⟩,⟨rfl,rfl⟩,rfl,rfl⟩:=a;refine(cloneStay ast l.stn cst (zy l.st l.stn) u h.sh.1 (ZR _ _) (QQ _ _) (zal (d.below h.bel)) f.2.2).mono ?_;rintro e i ⟨⟨v,rfl,g⟩,j⟩;obtain⟨b,c,rfl,_⟩:=zp g;have k:=h.below j;exact⟨b,c,rfl,k.bel,k.rl,k.src,k.sh,k.box,k.res,fun v' e=>(by cases e;exact zu g h.bel.size),k.h2,k.h3⟩
theorem CLd.c2 (h:CLd w u xb rb l ast aro ase cst cro cse p1 none p3):Calls Tryz.prog 210 #[.slice aro l.ron cro] u fun e i=>∃ b c,e=.returned (.slice b l.ron c)/\Hid (CLd w i xb rb l ast aro ase cst cro cse p1 (some (.slice b l.ron c)) p3):=by
 obtain⟨_,_,_,_,_,_,a,n,p,d,f,m,o⟩:=h.src;simp only[List.cons.injEq,Value.slice.injEq,true_and,and_true] at a;obtain⟨⟨rfl,rfl⟩,⟨rfl,rfl⟩,rfl,rfl⟩:=a;refine(cloneRoom aro l.ron cro (zw l.ro l.ron) u h.sh.2.1 (qK _ _) (Z5 _ _) (Qv (d.below h.bel)) f.2.2).mono ?_;rintro e i ⟨⟨v,rfl,g⟩,j⟩;obtain⟨b,c,rfl,_⟩:=zp g;have k:=h.below j;exact⟨b,c,rfl,k.bel,k.rl,k.src,k.sh,k.box,k.res,k.h1,fun v' e=>(by cases e;exact zu g h.bel.size),k.h3⟩
theorem CLd.c3 (h:CLd w u xb rb l ast aro ase cst cro cse p1 p2 none):Calls Tryz.prog 211 #[.slice ase l.sen cse] u fun e i=>∃ b c,e=.returned (.slice b l.sen c)/\Hid (CLd w i xb rb l ast aro ase cst cro cse p1 p2 (some (.slice b l.sen c))):=by
 obtain⟨_,_,_,_,_,_,a,n,p,m,o,d,f⟩:=h.src;simp only[List.cons.injEq,Value.slice.injEq,true_and,and_true] at a;obtain⟨⟨rfl,rfl⟩,⟨rfl,rfl⟩,rfl,rfl⟩:=a;refine(cloneSeat ase l.sen cse (zB l.se l.sen) u h.sh.2.2 (Zo _ _) (zar _ _) (zaP (d.below h.bel)) f.2.2).mono ?_;rintro e i ⟨⟨v,rfl,g⟩,j⟩;obtain⟨b,c,rfl,_⟩:=zp g;have k:=h.below j;exact⟨b,c,rfl,k.bel,k.rl,k.src,k.sh,k.box,k.res,k.h1,k.h2,fun v' e=>(by cases e;exact zu g h.bel.size)⟩
structure CLe (w u:World)(g h:Nat)(l:zY)(c a b:Option Addr)(f d e:Nat)(v1 v2 v3:Value):Prop where
 bel:Below w.heap.size w u
 s:u.cell? ⟨g,0,none⟩=some (.slice c l.stn f)/\u.cell? ⟨g,1,none⟩=some (.slice a l.ron d)/\u.cell? ⟨g,2,none⟩=some (.slice b l.sen e)
 res:u.heap[h]?=some (.cells #[v1,v2,v3] 145 (0,0))
 h1:u.ownsRow w.heap.size 220 4 v1 l.stn (zy l.st l.stn)
 h2:u.ownsRow w.heap.size 228 4 v2 l.ron (zw l.ro l.ron)
 h3:u.ownsRow w.heap.size 234 2 v3 l.sen (zB l.se l.sen)
theorem CLd.fin {v1 v2 v3:Value}(h:CLd w u xb rb l ast aro ase cst cro cse (some v1) (some v2) (some v3))(i:xb≠rb):CLe w (((u.setCell ⟨rb,0,none⟩ v1).setCell ⟨rb,1,none⟩ v2).setCell ⟨rb,2,none⟩ v3) xb rb l ast aro ase cst cro cse v1 v2 v3:=by
 have d:zx u (((u.setCell ⟨rb,0,none⟩ v1).setCell ⟨rb,1,none⟩ v2).setCell ⟨rb,2,none⟩ v3) (fun b=>b=rb):=(((zx.refl u (fun b=>b=rb)).set (a:=⟨rb,0,none⟩) rfl _).set (a:=⟨rb,1,none⟩) rfl _).set (a:=⟨rb,2,none⟩) rfl _
 have f:=d.blk h.box i;exact⟨((h.bel.setCell (p:=⟨rb,0,none⟩) h.rl _).setCell (p:=⟨rb,1,none⟩) h.rl _).setCell (p:=⟨rb,2,none⟩) h.rl _,⟨za f 0 _ rfl,za f 1 _ rfl,za f 2 _ rfl⟩,by simpa using zm (zm (zm h.res 0 v1) 1 v2) 2 v3,d.own (h.h1 _ rfl) (fun g c e=>zQ (h.h1 _ rfl) h.res (by decide) g c e),d.own (h.h2 _ rfl) (fun g c e=>zQ (h.h2 _ rfl) h.res (by decide) g c e),d.own (h.h3 _ rfl) (fun g c e=>zQ (h.h3 _ rfl) h.res (by decide) g c e)⟩
end
theorem zkS (l:zY)(c a b:Option Addr)(g d f:Nat)(w:World)(A:zY.Short l 1048576)(h:zY.Is w [.slice c l.stn g,.slice a l.ron d,.slice b l.sen f] l) :
  Calls Tryz.prog 115 #[.agg #[.slice c l.stn g,.slice a l.ron d,.slice b l.sen f]] w fun e w'=>(∃ m p n q o r,e=.returned (.agg #[.slice m l.stn p,.slice n l.ron q,.slice o l.sen r])/\w'.ownsRow w.heap.size 220 4 (.slice m l.stn p) l.stn (zy l.st l.stn)/\w'.ownsRow w.heap.size 228 4 (.slice n l.ron q) l.ron (zw l.ro l.ron)/\w'.ownsRow w.heap.size 234 2 (.slice o l.sen r) l.sen (zB l.se l.sen))/\Below w.heap.size w w':=by
 have i:Hid (CLd w ((w.alloc (.cells #[.slice c l.stn g,.slice a l.ron d,.slice b l.sen f] 145)).alloc (.cells #[.slice none 0 0,.slice none 0 0,.slice none 0 0] 145)).drew w.heap.size (w.heap.size+1) l c a b g d f none none none) :=
  ⟨(zk (zk bZ _) _).drew,by omega,h,A,zK (zd (heap_alloc_new w _) _),zK (by simpa using heap_alloc_new (w.alloc (.cells #[.slice c l.stn g,.slice a l.ron d,.slice b l.sen f] 145)) _),fun _ e=>(by cases e),fun _ e=>(by cases e),fun _ e=>(by cases e)⟩
 have t:w.heap.size≠w.heap.size+1:=by omega
 go_enter Tryz.func115,Tryz.ntmps115;go_upto_region 1 with fail;refine qg 11 11 (fun u=>u.cell? ⟨w.heap.size,0,none⟩=some (.slice c l.stn g)/\u.cell? ⟨w.heap.size,1,none⟩=some (.slice a l.ron d)/\u.cell? ⟨w.heap.size,2,none⟩=some (.slice b l.sen f)) rfl (by kernel_rfl) i.out.s (fun s=>?_)
 simp only[List.replicate_succ,List.replicate_zero];generalize ((w.alloc (.cells #[.slice c l.stn g,.slice a l.ron d,.slice b l.sen f] 145)).alloc (.cells #[.slice none 0 0,.slice none 0 0,.slice none 0 0] 145)).drew=u0 at i s ⊢
 (refine tkN 0 (v:=?_) rfl (by kernel_rfl) (fun _ _ _ h=>h) rfl (by assumption) ?_ ?_;rotate_left;(focus(intro w' h;(try dsimp only at h);go_simp;try with_reducible rfl));simp only[Act.put,sB,sZ,sS])
 (refine tkN 1 (v:=?_) rfl (by kernel_rfl) (fun _ _ _ h=>h) rfl (by assumption) ?_ ?_;rotate_left;(focus(intro w' h;(try dsimp only at h);go_simp;try with_reducible rfl));simp only[Act.put,sB,sZ,sS])
 (refine tkN 3 (v:=?_) rfl (by kernel_rfl) (fun _ _ _ h=>h) rfl (by assumption) ?_ ?_;rotate_left;(focus(intro w' h;(try dsimp only at h);go_simp;try with_reducible rfl));simp only[Act.put,sB,sZ,sS])
 (refine tkN 4 (v:=?_) rfl (by kernel_rfl) (fun _ _ _ h=>h) rfl (by assumption) ?_ ?_;rotate_left;(focus(intro w' h;(try dsimp only at h);go_simp;try with_reducible rfl));simp only[Act.put,sB,sZ,sS])
 (refine tkN 6 (v:=?_) rfl (by kernel_rfl) (fun _ _ _ h=>h) rfl (by assumption) ?_ ?_;rotate_left;(focus(intro w' h;(try dsimp only at h);go_simp;try with_reducible rfl));simp only[Act.put,sB,sZ,sS])
 (refine tkN 7 (v:=?_) rfl (by kernel_rfl) (fun _ _ _ h=>h) rfl (by assumption) ?_ ?_;rotate_left;(focus(intro w' h;(try dsimp only at h);go_simp;try with_reducible rfl));simp only[Act.put,sB,sZ,sS])
 refine zj (rs:=[2]) (by kernel_rfl) (by simp) ?_
 refine zc.consL rfl (fun K j=>?_) zc.nil
 focus
  go_simp;go_at_call 209;refine Calls.mono (i.out.c1) ?_;rintro e u1 ⟨m,p,rfl,i⟩;dsimp only;refine j.out _ _ i.out.s (fun s=>?_)
  clear j K;simp only[sZ,sS];refine zj (rs:=[5]) (by kernel_rfl) (by simp) ?_
  refine zc.consL rfl (fun K j=>?_) zc.nil
  focus
   go_simp;go_at_call 210;refine Calls.mono (i.out.c2) ?_;rintro e u2 ⟨n,q,rfl,i⟩;dsimp only;refine j.out _ _ i.out.s (fun s=>?_)
   clear j K;simp only[sZ,sS];refine zj (rs:=[8]) (by kernel_rfl) (by simp) ?_
   refine zc.consL rfl (fun K j=>?_) zc.nil
   focus
    go_simp;go_at_call 211;refine Calls.mono (i.out.c3) ?_;rintro e u3 ⟨o,r,rfl,i⟩;dsimp only;refine j.out _ _ i.out.s (fun s=>?_)
    clear j K;simp only[sZ,sS]
 all_goals
  (refine tkN 9 (v:=?_) rfl (by kernel_rfl) (fun _ _ _ h=>h) rfl (by assumption) ?_ ?_;rotate_left;(focus(intro w' h;(try dsimp only at h);go_simp;try with_reducible rfl));simp only[Act.put,sB,sZ,sS])
  obtain⟨B,C,D⟩:=ce3 i.out.res;obtain⟨x,y,z⟩:=fe3 i.out.res;refine zj (rs:=[10]) (by kernel_rfl) (by simp) ?_
  refine zc.consL rfl (fun K j=>?_) zc.nil
  go_simp;have k:Hid _:=i.out.fin t;refine j.out _ _ k.out.s (fun s=>?_)
  clear j K B C D x y z;simp only[sZ,sS];refine zX (by kernel_rfl) ?_ _
  go_wp2;obtain⟨E,F,G⟩:=ce3 k.out.res;exact bodyPost_ret (v:=.agg #[.slice m l.stn p,.slice n l.ron q,.slice o l.sen r]) (by simp[results,Tryz.results115,go_sem,E,F,G]) rfl ⟨⟨m,p,n,q,o,r,rfl,k.out.h1,k.out.h2,k.out.h3⟩,k.out.bel⟩
structure zjb (w:World)(base g k N:Nat)(S:Nat->zY)(A B D:Nat->Value):Prop where
 row:w.ownsRow base 145 3 (.slice (some ⟨g,0,none⟩) N N) N ((List.range (N*3)).map (zZ 3 (zbJ k (ldC A B D) [.slice none 0 0,.slice none 0 0,.slice none 0 0])))
 st:∀ i,i<k->w.ownsRow base 220 4 (A i) (S i).stn (zy (S i).st (S i).stn)
 ro:∀ i,i<k->w.ownsRow base 228 4 (B i) (S i).ron (zw (S i).ro (S i).ron)
 se:∀ i,i<k->w.ownsRow base 234 2 (D i) (S i).sen (zB (S i).se (S i).sen)
 far:zog k A/\zog k B/\zog k D
theorem zjb.below {w w':World}{base g k N:Nat}{S:Nat->zY}{A B D:Nat->Value}(h:zjb w base g k N S A B D)(b:Below w.heap.size w w'):zjb w' base g k N S A B D:=⟨zo b h.row,fun i a=>zo b (h.st i a),fun i a=>zo b (h.ro i a),fun i a=>zo b (h.se i a),h.far⟩
theorem zjb.own {w:World}{base g N:Nat}{S:Nat->zY}{A B D:Nat->Value}(h:zjb w base g N N S A B D):qC w base (.slice (some ⟨g,0,none⟩) N N) N S A B D :=
 ⟨zbs h.row (by decide) (fun i a=>qr _ _ a),h.st,h.ro,h.se,h.far⟩
theorem zmM {w:World}{base e g c N t:Nat}{C:Nat->List Value}(v1 v2 v3:Value)(h:w.ownsRow base e 3 (.slice (some ⟨g,0,none⟩) N c) N ((List.range (N*3)).map (zZ 3 C)))(d:(C t).length=3) :
  (((w.setCell ⟨g,t*3,none⟩ v1).setCell ⟨g,t*3+1,none⟩ v2).setCell ⟨g,t*3+2,none⟩ v3).ownsRow base e 3 (.slice (some ⟨g,0,none⟩) N c) N ((List.range (N*3)).map (zZ 3 (fun i=>if i=t then [v1,v2,v3] else C i))):=by
 have f:=Zr h t 0 v1 d (by decide)
 rw[Nat.add_zero] at f;have h1:=Zr f t 1 v2 (by simp only[Zb,List.length_set];exact d) (by decide)
 have h2:=Zr h1 t 2 v3 (by simp only[Zb,List.length_set];exact d) (by decide)
 refine zbs h2 (by decide) (fun i hi=>?_)
 by_cases e:i=t
 ·subst e
  rw[if_pos rfl];simp only[Zb]
  match hC:C i,d with
  | [a,b,c],_=>rfl
 ·rw[if_neg e]
  simp only[ziy _ _ _ e]
theorem zjb.step {w c:World}{base g k N:Nat}{S:Nat->zY}{A B D:Nat->Value}{v1 v2 v3:Value}(h:zjb w base g k N S A B D)(r:Below w.heap.size w c)(hk:k<N)(f:base<=w.heap.size)
  (h1:c.ownsRow w.heap.size 220 4 v1 (S k).stn (zy (S k).st (S k).stn)) (h2:c.ownsRow w.heap.size 228 4 v2 (S k).ron (zw (S k).ro (S k).ron)) (h3:c.ownsRow w.heap.size 234 2 v3 (S k).sen (zB (S k).se (S k).sen)) :
  zjb (((c.setCell ⟨g,k*3,none⟩ v1).setCell ⟨g,k*3+1,none⟩ v2).setCell ⟨g,k*3+2,none⟩ v3) base g (k+1) N S (atV A k v1) (atV B k v2) (atV D k v3):=by
 have hr:=h.below r;have j:zx c (((c.setCell ⟨g,k*3,none⟩ v1).setCell ⟨g,k*3+1,none⟩ v2).setCell ⟨g,k*3+2,none⟩ v3) (fun b=>b=g):=(((zx.refl c (fun b=>b=g)).set (a:=⟨g,k*3,none⟩) rfl _).set (a:=⟨g,k*3+1,none⟩) rfl _).set (a:=⟨g,k*3+2,none⟩) rfl _
 have far:∀ {t sz n:Nat} {v:Value} {m:List Value},c.ownsRow base t sz v n m->145≠t->(((c.setCell ⟨g,k*3,none⟩ v1).setCell ⟨g,k*3+1,none⟩ v2).setCell ⟨g,k*3+2,none⟩ v3).ownsRow base t sz v n m:=fun l s=>j.own l (fun q o p=>zI hr.row l s q (by rw[show q=g from p];rfl) o)
 refine⟨zbs (zmM (t:=k) v1 v2 v3 hr.row (by rw[zbT _ _ (by omega)];rfl)) (by decide) (fun i d=>?_),fun i d=>?_,fun i d=>?_,fun i d=>?_,h.far.1.snoc (fun i d b e=>((h.st i d).lt b e).2) (fun b e=>(h1.lt b e).1),h.far.2.1.snoc (fun i d b e=>((h.ro i d).lt b e).2) (fun b e=>(h2.lt b e).1),h.far.2.2.snoc (fun i d b e=>((h.se i d).lt b e).2) (fun b e=>(h3.lt b e).1)⟩
 ·by_cases e:i=k
  ·subst e;rw[if_pos rfl,qr _ _ (by omega)];unfold ldC;rw[qu,qu,qu]
  ·rw[if_neg e]
   by_cases h:i<k
   ·rw[qr _ _ h,qr _ _ (by omega)];unfold ldC;rw[qf _ _ _ _ e,qf _ _ _ _ e,qf _ _ _ _ e]
   ·rw[zbT _ _ h,zbT _ _ (by omega)]
 ·by_cases e:i=k
  ·subst e;rw[qu];exact far (zu h1 f) (by decide)
  ·rw[qf _ _ _ _ e];exact far (hr.st i (by omega)) (by decide)
 ·by_cases e:i=k
  ·subst e;rw[qu];exact far (zu h2 f) (by decide)
  ·rw[qf _ _ _ _ e];exact far (hr.ro i (by omega)) (by decide)
 ·by_cases e:i=k
  ·subst e;rw[qu];exact far (zu h3 f) (by decide)
  ·rw[qf _ _ _ _ e];exact far (hr.se i (by omega)) (by decide)
theorem zjc (X:Option Addr)(N c:Nat)(S:Nat->zY)(w:World)(hN:N<=1048576)(Z:ZA N S 1048576)(hz:ZG w X N S) :
  Calls Tryz.prog 114 #[.slice X N c,.func (.func 115) #[] #[]] w fun e w'=>(∃ g A B D,e=.returned (.slice (some ⟨g,0,none⟩) N N)/\qC w' w.heap.size (.slice (some ⟨g,0,none⟩) N N) N S A B D)/\Below w.heap.size w w':=by
 obtain⟨i0,E,T,U,V⟩:=info_parts Tryz.infoLoadO;have HS:=hI Z;have HX:=hI hz;clear Z hz;go_enter Tryz.func114,Tryz.ntmps114;go_wp2_with (first|(at_make;refine wpList_make_full _ rfl _ _ 35 rfl w.heap.size 145 i0 _ 3 Tryz.underlying35 E T U .i64 .i64 _ _ N rfl rfl rfl rfl (by rw[V];omega) (by unfold maxLen;omega) (Nat.le_refl _) ?_;intro w1 t q))
 go_loopw [6,7,13] (fun _ _ i wr=>∃ (k:Nat) (A B D:Nat->Value),k<=N/\i=int i64 k/\zjb wr w.heap.size w.heap.size k N S A B D/\Below w.heap.size w wr) (fun _ _ i _=>N - (intOf i).toNat)
 case atStart=>exact⟨0,fun _=>.slice none 0 0,fun _=>.slice none 0 0,fun _=>.slice none 0 0,Nat.zero_le _,rfl,⟨Zz ((ZP t).congr (fun j hj=>(zes (z:=#[.slice none 0 0,.slice none 0 0,.slice none 0 0]) (sz:=3) rfl N j hj).trans (by unfold zZ;rw[zbT _ _ (by omega)]))) (Nat.le_refl _) (by unfold maxLen;omega),fun i E=>by omega,fun i E=>by omega,fun i E=>by omega,fun i j E=>by omega,fun i j E=>by omega,fun i j E=>by omega⟩,bZ.grown q (Nat.le_refl _) (by simp)⟩
 case round =>
  obtain⟨k,A,B,D,hk,rfl,u,a⟩:=hrel;clear t q
  by_cases hlt:k<N
  ·obtain⟨C,Y,hI⟩:=HX.out
   obtain⟨b,off,rfl,G⟩:=Y k hlt;obtain⟨h,n,d,l,f,m,O,J,M,H,K,I,L⟩:=hI k hlt;have s:b<w.heap.size:=World.block_lt_of_cell? w _ (G 0 (by decide))
   have i1:(k:Int)<(N:Int):=by omega
   have F:Hid (zY.Is w [.slice h (S k).stn n,.slice d (S k).ron l,.slice f (S k).sen m] (S k)):=⟨h,n,d,l,f,m,rfl,J,M,H,K,I,L⟩;have c0:wr.cell? ⟨b,off+k*3,none⟩=some (.slice h (S k).stn n):=(a.cell (p:=⟨b,off+k*3,none⟩) s).trans (by have:=G 0 (by decide);rw[O] at this;exact this)
   have c1:wr.cell? ⟨b,off+k*3+1,none⟩=some (.slice d (S k).ron l):=(a.cell (p:=⟨b,off+k*3+1,none⟩) s).trans (by have:=G 1 (by decide);rw[O] at this;exact this)
   have c2:wr.cell? ⟨b,off+k*3+2,none⟩=some (.slice f (S k).sen m):=(a.cell (p:=⟨b,off+k*3+2,none⟩) s).trans (by have:=G 2 (by decide);rw[O] at this;exact this)
   have r:=zk a (.cells #[.slice h (S k).stn n,.slice d (S k).ron l,.slice f (S k).sen m] 145);have y:=u.below (zk (Below.refl _ wr) (.cells #[.slice h (S k).stn n,.slice d (S k).ron l,.slice f (S k).sen m] 145));clear Y hI G O J M H K I L u;go_wp2_with fail;generalize wr.alloc (.cells #[.slice h (S k).stn n,.slice d (S k).ron l,.slice f (S k).sen m] 145)=W at r y ⊢;clear c0 c1 c2;refine(zkS (S k) h d f n l m W (HS.out k hlt) (F.out.below r)).mono ?_;rintro e P ⟨⟨a1,d1,a2,d2,a3,d3,rfl,h1,h2,h3⟩,x⟩;have R:Hid _:=y.step x hlt r.size h1 h2 h3;have Q:Hid (Below w.heap.size w (((P.setCell ⟨w.heap.size,k*3,none⟩ (.slice a1 (S k).stn d1)).setCell ⟨w.heap.size,k*3+1,none⟩ (.slice a2 (S k).ron d2)).setCell ⟨w.heap.size,k*3+2,none⟩ (.slice a3 (S k).sen d3))):=(((ze r x).setCell (p:=⟨w.heap.size,k*3,none⟩) (Nat.le_refl _) _).setCell (p:=⟨w.heap.size,k*3+1,none⟩) (Nat.le_refl _) _).setCell (p:=⟨w.heap.size,k*3+2,none⟩) (Nat.le_refl _) _;have o:=y.below x;obtain⟨u0,o0⟩:∃ v,P.cell? ⟨w.heap.size,k*3+0,none⟩=some v:=⟨_,zU o.row hlt (by decide)⟩
   obtain⟨u1,o1⟩:∃ v,P.cell? ⟨w.heap.size,k*3+1,none⟩=some v:=⟨_,zU o.row hlt (by decide)⟩
   obtain⟨u2,o2⟩:∃ v,P.cell? ⟨w.heap.size,k*3+2,none⟩=some v:=⟨_,zU o.row hlt (by decide)⟩
   have f0:=o.row.frozenAt (k*3);have f1:=o.row.frozenAt (k*3+1);have f2:=o.row.frozenAt (k*3+2);rw[Nat.add_zero] at o0;clear y o h1 h2 h3 r x a F;go_wp2;go_roundw
   case rel=>exact⟨k+1,_,_,_,by omega,by go_num,R.out,Q.out⟩
   case measure=>simp[intOf];omega
  ·obtain rfl:k=N:=by omega
   have HO:Hid _:=u.own;go_wp2;go_ret;exact⟨⟨_,A,B,D,rfl,HO.out⟩,a⟩
end
theorem Tryz.infoLane':(Tryz.prog.info? 223).map (fun i=>(i.zero,i.size,i.bytes))=some (some (.agg #[int i64 0,int i64 0]),2,16):=by kernel_rfl
theorem cloneLane (g:Option Addr)(c:Nat)(p:zH)(w:World)(y:p.n<=1048576)(l:zG w g p)(b:g=none->p.n=0/\c=0) :
  Calls Tryz.prog 207 #[.slice g p.n c] w fun e w'=>(∃ v,e=.returned v/\w'.ownsRow w.heap.size 223 2 v p.n (qd p))/\Below w.heap.size w w':=by
 have qT:∀ (w:World) (a:Option Addr) (n c r c':Nat),(binOp .eql 137 (.slice a n c) (.slice none r c')).run Tryz.prog w=.ok (.bool a.isNone) w:=fun w a n c r c'=>Lib.run_eql_slice_nil w _ _ a n c r c' Tryz.underlying137
 cases g with
 | none =>
  obtain⟨i,rfl⟩:=b rfl;have u:=hI i;rw[i];clear i b l y;go_enter Tryz.func207,Tryz.ntmps207;go_wp2;go_ret;refine⟨⟨_,rfl,?_⟩,bZ⟩;have:qd p=[]:=by unfold qd;rw[u.out];rfl
  rw[this];exact World.ownsRow_nil _ _ _ _
 | some ad =>
  obtain⟨z,A,m,o,q⟩:=info_parts Tryz.infoLane';have d:Below w.heap.size w (w.alloc (.cells #[] 223)):=zk bZ _;have s:(w.alloc (.cells #[] 223)).ownsRow w.heap.size 223 2 (.slice (some ⟨w.heap.size,0,none⟩) 0 0) 0 []:=⟨rfl,.inr ⟨w.heap.size,0,#[],rfl,Nat.le_refl _,heap_alloc_new w _,Nat.le_refl _,Nat.zero_le _,rfl,rfl⟩⟩;have t:=hI (zcI (l.below d));clear b l;go_enter Tryz.func207,Tryz.ntmps207;go_wp2_with (first|(at_builtin;refine zv _ (by rfl) (.tmp 5) (.tmp 6) 137 (by rfl) w.heap.size 223 z (.agg #[int i64 0,int i64 0]) 2 16 Tryz.underlying137 A m o q rfl (by decide) _ 0 [] (by rfl) s (some ad) p.n c (qd p) (by rfl) (fun h=>(by cases h)) (zaT p) t.out (zcH _) (by unfold maxLen;omega) (by omega) (by simp) ?_;intro v' w3 f k))
  go_ret;rw[Nat.zero_add,List.nil_append] at f;exact⟨⟨_,rfl,f⟩,d.grown k (by simp) (fun j x=>(s.lt j x).1)⟩
theorem Tryz.infoCabin':(Tryz.prog.info? 231).map (fun i=>(i.zero,i.size,i.bytes))=some (some (.agg #[int i64 0,int i64 0]),2,16):=by kernel_rfl
theorem znS (g:Option Addr)(c:Nat)(p:zH)(w:World)(y:p.n<=1048576)(l:zG w g p)(b:g=none->p.n=0/\c=0) :
  Calls Tryz.prog 208 #[.slice g p.n c] w fun e w'=>(∃ v,e=.returned v/\w'.ownsRow w.heap.size 231 2 v p.n (qd p))/\Below w.heap.size w w':=by
 have qT:∀ (w:World) (a:Option Addr) (n c r c':Nat),(binOp .eql 138 (.slice a n c) (.slice none r c')).run Tryz.prog w=.ok (.bool a.isNone) w:=fun w a n c r c'=>Lib.run_eql_slice_nil w _ _ a n c r c' Tryz.underlying138
 cases g with
 | none =>
  obtain⟨i,rfl⟩:=b rfl;have u:=hI i;rw[i];clear i b l y;go_enter Tryz.func208,Tryz.ntmps208;go_wp2;go_ret;refine⟨⟨_,rfl,?_⟩,bZ⟩;have:qd p=[]:=by unfold qd;rw[u.out];rfl
  rw[this];exact World.ownsRow_nil _ _ _ _
 | some ad =>
  obtain⟨z,A,m,o,q⟩:=info_parts Tryz.infoCabin';have d:Below w.heap.size w (w.alloc (.cells #[] 231)):=zk bZ _;have s:(w.alloc (.cells #[] 231)).ownsRow w.heap.size 231 2 (.slice (some ⟨w.heap.size,0,none⟩) 0 0) 0 []:=⟨rfl,.inr ⟨w.heap.size,0,#[],rfl,Nat.le_refl _,heap_alloc_new w _,Nat.le_refl _,Nat.zero_le _,rfl,rfl⟩⟩;have t:=hI (zcI (l.below d));clear b l;go_enter Tryz.func208,Tryz.ntmps208;go_wp2_with (first|(at_builtin;refine zv _ (by rfl) (.tmp 5) (.tmp 6) 138 (by rfl) w.heap.size 231 z (.agg #[int i64 0,int i64 0]) 2 16 Tryz.underlying138 A m o q rfl (by decide) _ 0 [] (by rfl) s (some ad) p.n c (qd p) (by rfl) (fun h=>(by cases h)) (zaT p) t.out (zcH _) (by unfold maxLen;omega) (by omega) (by simp) ?_;intro v' w3 f k))
  go_ret;rw[Nat.zero_add,List.nil_append] at f;exact⟨⟨_,rfl,f⟩,d.grown k (by simp) (fun j x=>(s.lt j x).1)⟩
end Go.Proofs.YtmdnjgihooflfaaGreatDoor
