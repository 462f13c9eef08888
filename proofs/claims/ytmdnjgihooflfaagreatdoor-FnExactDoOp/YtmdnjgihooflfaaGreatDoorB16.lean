import Derived.Test.YtmdnjgihooflfaaGreatDoorB07
import Derived.Test.YtmdnjgihooflfaaGreatDoorB08
import Derived.Test.YtmdnjgihooflfaaGreatDoorB10
namespace Go.Proofs.YtmdnjgihooflfaaGreatDoor
open Go.RowKit
open Go.Value (int)
open Go.IntKind (i64)
open _root_.Go.Proofs.Tryz
set_option maxHeartbeats 64000000
set_option maxRecDepth 1000000
/-- It names one that it may be done to. -/
theorem Mt (x:qD)(l:Option Addr)(m:Nat)(a:Option Addr)(n c:Nat)(k:Nat)(w:World)(u:Ze w)(z:x.d=(k:Int))(D:k<10)(I:Q8 k=true)(pe:Nat->Addr)(y:qI w pe)(S:Nat->zA)(Y:qL w a n S)(hn:n<=1048576)(j:Nat)(K:x.k=(j:Int)+1)(s:j<n)(F:Fm x.d (S j) x.D) :
  Calls prog 107 #[(a,n,c),.agg (x,l,m)] w λe w'=>e=.returned (.tuple #[])/\Below w w w':=by
 have i:=Jb w (.cells (x,l,m) 47);have f:Below _ w (w.alloc (.cells (x,l,m) 47)):=zd bZ _;have M:(w.alloc _).cell? _=some (.bool true):=tR f (by rw[← I];exact(u k D).2.1) u.lt
 have N:(w.alloc (.cells (x,l,m) 47)).cell? (w.heap.size,0)=some (k:Int):=by rw[← z];exact bC i 0
 have A:=n0 k;have B:(k:Int)<10:=oM;obtain⟨C,H,hI⟩:=Y;obtain⟨bb,bo,rfl,h⟩:=H j s;obtain⟨o,q,g,_,_⟩:=hI j s;obtain⟨b,J⟩:=nM (S j);rw[← J] at g F;have P:Hid (Fm _ b _):=F;have d:bb<w.heap.size:=Ja w _ (h 0 dC);have G:=(qI.j0 y f).c3;have t:=(qI.j0 y f).c4;have U:decide (x.k<=(n:Int))=true:=dT;have ej:x.k - 1=(j:Int):=oM;have V:1<=x.k:=oM;have X:x.k<=1048576:=oM;have HJ:Hid _:=K;have O:Hid _:=z;clear z K;go_enter func107,ntmps107;go_upto_region 1 with fail;generalize w.alloc _=W at i f M N G t ⊢;have c0:W.cell? _=some (.int _ _):=(f.cell (p:=⟨bb,bo+_,_⟩) d).trans (rC g (h 0 dC));have c1:W.cell? _=some (.int _ _):=(f.cell d).trans (rC g (h 1 dC));have c2:W.cell? _=some (.string _):=(f.cell d).trans (rC g (h 2 dC));have c3:W.cell? _=some (.slice o _ q):=(f.cell d).trans (rC g (h 3 dC));have c4:W.cell? _=some (.int _ _):=(f.cell d).trans (rC g (h 4 dC));have c5:W.cell? _=some (.int _ _):=(f.cell d).trans (rC g (h 5 dC));have c6:W.cell? _=some (.int _ _):=(f.cell d).trans (rC g (h 6 dC));have c7:W.cell? _=some (.int _ _):=(f.cell d).trans (rC g (h 7 dC));have c8:W.cell? _=some (.bool _):=(f.cell d).trans (rC g (h 8 dC));have c9:W.cell? _=some (.int _ _):=(f.cell d).trans (rC g (h 9 dC));have Q:W.cell? _=some (.int _ _):=(f.cell d).trans (rC g (h 10 dC));have R:W.cell? _=some (.int _ _):=(f.cell d).trans (rC g (h 11 dC));have T:W.cell? _=some (.int _ _):=(f.cell d).trans (rC g (h 12 dC));have y1:W.cell? _=some (.string _):=bC i 1;have y2:W.cell? _=some (.int _ _):=bC i 2;have y3:W.cell? _=some (.slice l _ m):=bC i 3;have y4:W.cell? _=some (.int _ _):=bC i 4;have y5:W.cell? _=some (.int _ _):=bC i 5;have y6:W.cell? _=some (.int _ _):=bC i 6;have y7:W.cell? _=some (.int _ _):=bC i 7;have y8:W.cell? _=some (.bool _):=bC i 8;have y9:W.cell? _=some (.int _ _):=bC i 9;have Z:W.cell? _=some (.int _ _):=bC i 10;have a0:W.cell? _=some (.int _ _):=bC i 11;have E:4<W.heap.size:=Ja W _ t;clear u I y F h g H hI J i;go_upto_region 3 with(go_at_call 193;refine(ZO _ _).mono ?_;rintro e w1 ⟨rfl,rfl⟩);have ew:IntKind.i64.wrap (j:Int)=(j:Int):=by rw[Jk];omega
 rw[← O.out] at N;clear M G U A B;go_region_with (first|(go_at_call 196;refine(No x l m b o q _).mono ?_;rintro e w2 ⟨⟨v,rfl,L⟩,r⟩;obtain rfl:=L.2 P;clear L;have g5:=(r.cell (p:=⟨4,0,_⟩) (by simpa using E)).trans (by simpa using t))|(go_at_call 193;refine(ZO _ _).mono ?_;rintro e w3 ⟨rfl,rfl⟩))
 all_goals (go_end0;exact⟨rfl,zb f.drew r⟩)
def Cb (w:World)(a:Option Addr)(b:List Value):Prop:=∀ ad,a=some ad->∀ j u,b[j]?=some u->w.cell? (ad.add j)=some u
theorem Cb.j0 {w w':World}{b:Option Addr}{d:List Value}(h:Cb w b d)(f:Below w w w'):Cb w' b d:=λa e j u c=>(f.cell (Ja w _ (h a e j u c))).trans (h a e j u c)
theorem bg (i:Option Addr)(n c:Nat)(d:List Value)(w:World)(y:n<=1048576)(x:d.length=n*4)(h1:∀ u ∈ d,u.oneCell'=true)(l:Cb w i d)(b:i=none->n=0/\c=0) :
  Calls prog 209 #[(i,n,c)] w λe w'=>(∃ v,e=.returned v/\w'.ownsRow w 220 4 v n d)/\Below w w w':=by
 have qT:∀ (w) (a) (n c r c'),(binOp _ 141 (.slice a n c) _).run _ w=_:=λw a n c r c'=>Lib.run_eql_slice_nil w _ _ a n c r c' underlying141
 cases i with
 |none =>
  obtain⟨rfl,rfl⟩:=b rfl;obtain rfl:d=[]:=List.length_eq_zero_iff.1 oM;clear b l y;go_enter func209,ntmps209;go_wp2;go_ret;exact⟨⟨_,rfl,World.ownsRow_nil _ _ _ _⟩,bZ⟩
 |some ad =>
  obtain⟨z,A,m,o,p⟩:=info_parts Tryz.infoStay;have f:Below _ w (w.alloc (.cells #[] 220)):=zd bZ _;have q:(w.alloc _).ownsRow _ 220 4 _ 0 []:=⟨rfl,.inr ⟨_,0,#[],rfl,Jr _,Jb w _,Jr _,Jq _,rfl,rfl⟩⟩;have s:=hI (l.j0 f);clear b l;go_enter func209,ntmps209;go_wp2_with (first|(at_builtin;refine zu _ rfl _ _ 141 rfl _ 220 z _ 4 32 underlying141 A m o p rfl dC _ 0 [] (by rfl) q _ n c d rfl (λh=>(by cases h)) x s h1 (by unfold maxLen;omega) oM sM ?_;intro v' w3 g k))
  go_ret;rw[Nat.zero_add,List.nil_append] at g;exact⟨⟨_,rfl,g⟩,f.grown k sM (λj t=>(q.lt j t).1)⟩
theorem bh (i:Option Addr)(n c:Nat)(d:List Value)(w:World)(y:n<=1048576)(x:d.length=n*4)(h1:∀ u ∈ d,u.oneCell'=true)(l:Cb w i d)(b:i=none->n=0/\c=0) :
  Calls prog 210 #[(i,n,c)] w λe w'=>(∃ v,e=.returned v/\w'.ownsRow w 228 4 v n d)/\Below w w w':=by
 have qT:∀ (w) (a) (n c r c'),(binOp _ 142 (.slice a n c) _).run _ w=_:=λw a n c r c'=>Lib.run_eql_slice_nil w _ _ a n c r c' underlying142
 cases i with
 |none =>
  obtain⟨rfl,rfl⟩:=b rfl;obtain rfl:d=[]:=List.length_eq_zero_iff.1 oM;clear b l y;go_enter func210,ntmps210;go_wp2;go_ret;exact⟨⟨_,rfl,World.ownsRow_nil _ _ _ _⟩,bZ⟩
 |some ad =>
  obtain⟨z,A,m,o,p⟩:=info_parts Tryz.infoRoom;have f:Below _ w (w.alloc (.cells #[] 228)):=zd bZ _;have q:(w.alloc _).ownsRow _ 228 4 _ 0 []:=⟨rfl,.inr ⟨_,0,#[],rfl,Jr _,Jb w _,Jr _,Jq _,rfl,rfl⟩⟩;have s:=hI (l.j0 f);clear b l;go_enter func210,ntmps210;go_wp2_with (first|(at_builtin;refine zu _ rfl _ _ 142 rfl _ 228 z _ 4 32 underlying142 A m o p rfl dC _ 0 [] (by rfl) q _ n c d rfl (λh=>(by cases h)) x s h1 (by unfold maxLen;omega) oM sM ?_;intro v' w3 g k))
  go_ret;rw[Nat.zero_add,List.nil_append] at g;exact⟨⟨_,rfl,g⟩,f.grown k sM (λj t=>(q.lt j t).1)⟩
theorem bi (i:Option Addr)(n c:Nat)(d:List Value)(w:World)(y:n<=1048576)(x:d.length=n*2)(h1:∀ u ∈ d,u.oneCell'=true)(l:Cb w i d)(b:i=none->n=0/\c=0) :
  Calls prog 211 #[(i,n,c)] w λe w'=>(∃ v,e=.returned v/\w'.ownsRow w 234 2 v n d)/\Below w w w':=by
 have qT:∀ (w) (a) (n c r c'),(binOp _ 143 (.slice a n c) _).run _ w=_:=λw a n c r c'=>Lib.run_eql_slice_nil w _ _ a n c r c' underlying143
 cases i with
 |none =>
  obtain⟨rfl,rfl⟩:=b rfl;obtain rfl:d=[]:=List.length_eq_zero_iff.1 oM;clear b l y;go_enter func211,ntmps211;go_wp2;go_ret;exact⟨⟨_,rfl,World.ownsRow_nil _ _ _ _⟩,bZ⟩
 |some ad =>
  obtain⟨z,A,m,o,p⟩:=info_parts Tryz.infoSeat;have f:Below _ w (w.alloc (.cells #[] 234)):=zd bZ _;have q:(w.alloc _).ownsRow _ 234 2 _ 0 []:=⟨rfl,.inr ⟨_,0,#[],rfl,Jr _,Jb w _,Jr _,Jq _,rfl,rfl⟩⟩;have s:=hI (l.j0 f);clear b l;go_enter func211,ntmps211;go_wp2_with (first|(at_builtin;refine zu _ rfl _ _ 143 rfl _ 234 z _ 2 16 underlying143 A m o p rfl dC _ 0 [] (by rfl) q _ n c d rfl (λh=>(by cases h)) x s h1 (by unfold maxLen;omega) oM sM ?_;intro v' w3 g k))
  go_ret;rw[Nat.zero_add,List.nil_append] at g;exact⟨⟨_,rfl,g⟩,f.grown k sM (λj t=>(q.lt j t).1)⟩
theorem bj (i:Option Addr)(n c:Nat)(d:List Value)(w:World)(y:n<=1048576)(x:d.length=n*3)(h1:∀ u ∈ d,u.oneCell'=true)(l:Cb w i d)(b:i=none->n=0/\c=0) :
  Calls prog 197 #[(i,n,c)] w λe w'=>(∃ v,e=.returned v/\w'.ownsRow w 145 3 v n d)/\Below w w w':=by
 have qT:∀ (w) (a) (n c r c'),(binOp _ 35 (.slice a n c) _).run _ w=_:=λw a n c r c'=>Lib.run_eql_slice_nil w _ _ a n c r c' underlying35
 cases i with
 |none =>
  obtain⟨rfl,rfl⟩:=b rfl;obtain rfl:d=[]:=List.length_eq_zero_iff.1 oM;clear b l y;go_enter func197,ntmps197;go_wp2;go_ret;exact⟨⟨_,rfl,World.ownsRow_nil _ _ _ _⟩,bZ⟩
 |some ad =>
  obtain⟨z,A,m,o,p⟩:=info_parts Tryz.infoLoadO;have f:Below _ w (w.alloc (.cells #[] 145)):=zd bZ _;have q:(w.alloc _).ownsRow _ 145 3 _ 0 []:=⟨rfl,.inr ⟨_,0,#[],rfl,Jr _,Jb w _,Jr _,Jq _,rfl,rfl⟩⟩;have s:=hI (l.j0 f);clear b l;go_enter func197,ntmps197;go_wp2_with (first|(at_builtin;refine zu _ rfl _ _ 35 rfl _ 145 z _ 3 72 underlying35 A m o p rfl dC _ 0 [] (by rfl) q _ n c d rfl (λh=>(by cases h)) x s h1 (by unfold maxLen;omega) oM sM ?_;intro v' w3 g k))
  go_ret;rw[Nat.zero_add,List.nil_append] at g;exact⟨⟨_,rfl,g⟩,f.grown k sM (λj t=>(q.lt j t).1)⟩
theorem ky (g base N R H b3 F K m:Nat)(b0 a9 a8 p:Option Addr)(T:Int)(y:qD)(x:zY)(L C A B D E:Nat->Value)(w:World)(hq:w.heap[g]?=some (.cells #[(b0,N,H),(a9,N,b3),(a8,R,F)] 38 (0,0)))(ho:zz w base (b0,N,H) (a9,N,b3) (a8,R,F) N N R x L C A B D E)(f6:x.g=R)(d9:base<=w.heap.size)(b6:y.d=6)(h7:In y.v 0 20)(j8:y.c<=3)(f0:zS w p y.c y.J)(f5:qm p y.c K)(f1:0<y.c->∀ a,p=some a->a.block<base)(f2:y.k=(m:Int)+1)(hm:m<R)(q:R<=1048576)(n:Nat)(e9:0<(x.u m).c)(e7:zX x.G ((x.u m).J 0) N=n)(e8:n<N)(e5:-1000000000<=(x.G n).O - y.D/\(x.G n).O - y.D<=1000000000)(hN:N<=1048576) :
  Calls prog 93 #[.pointer (some (g,0)),T,.agg (y,p,K)] w λe w'=>Ct g base N H b3 b0 a9 (λb=>b=g∨(Value.slice a8 R F).ownBlock=some b) { x with u:=Qq x.u m (Zd (x.u m) T y) } 0 y.k (Z9 (x.u m).j2 ((x.G n).O - y.D)) (λ_ v=>v=.slice none 0 0) L C A B D w e w':=by
 rw[b6,f2];have HO:=hI ho;have HQ:=hI hq;have g4:=hI b6;have g8:=hI f6;have j1:=hI d9;have j2:=hI f0;have j5:=hI f5;have j3:=hI f1;obtain⟨gb,rfl,d8,b4⟩:=qr ho.u.row (by omega)
 obtain⟨cs,e6⟩:=zC ho.u.row gb rfl;obtain⟨d4,S,eE,q1,q2,q3⟩:=zn (ho.u.j4 m hm);obtain⟨b,b5⟩:∃ b,b=x.u m:=⟨_,rfl⟩;have g0:=hI b5;have c0:=hI e6;have a0:Hid (∀ V,Below _ w V->∀ j v,(AM _ E m)[j]?=some v->V.cell? _=some v):=λV hV j v hv=>by
  have hj:j<13:=by
   have h:=(List.getElem?_eq_some_iff.1 hv).1;exact h
  have h:=zs ho.u.row (m*13+j) (by omega) rfl
  rw[zO 13 _ m j hj,List.getD_eq_getElem?_getD,hv] at h;exact(hV.cell b4).trans h
 have g2:Hid (E m=.slice d4 b.c S):=by rw[b5];exact eE
 have i1:(0:Int)<=(m:Int):=by omega
 have i2:(m:Int)<(R:Int):=by omega
 have k1:IntKind.i64.wrap ((m:Int)+1 - 1)=(m:Int):=by rw[Jk];omega
 have HM:=hI hm;have j0:=hI d8;clear e6 eE q1 q2 q3 b5 d8;have M:=hI e9;have O:=hI e8;have f7:=hI e5;have f8:=hI hN;have f9:=hI e7;clear e9 e7 e8 e5 hN;clear ho hq b6 f6 d9 f0 f5 f1 f2 hm;obtain⟨pr,b7⟩:∃ pr,pr=zP ⟨y.v,y.f,y.j,y.w,y.h,y.x⟩ (y.c:Int):=⟨_,rfl⟩;have j4:=hI b7;have c:Below _ w ((w.alloc (.cells #[int i64 6,y.j1,int i64 ((m:Int)+1),(p,y.c,K),y.v,y.f,y.j,y.w,y.h,y.x,y.y,y.D] 47)).alloc (.cells #[(),(),(),True] 41)):=zd (zd bZ _) _;have t:=zg (Jb w (.cells #[int i64 6,y.j1,int i64 ((m:Int)+1),(p,y.c,K),y.v,y.f,y.j,y.w,y.h,y.x,y.y,y.D] 47)) (.cells #[(),(),(),True] 41);have J:=EB w (.cells #[int i64 6,y.j1,int i64 ((m:Int)+1),(p,y.c,K),y.v,y.f,y.j,y.w,y.h,y.x,y.y,y.D] 47) (.cells #[(),(),(),True] 41);go_enter func93,ntmps93;go_wp2_with fail;generalize ((w.alloc _).alloc _)=W at c t J ⊢;refine(Z6 _ _ _ _ _ _ _ _ h7 (by unfold In;omega)).mono ?_
 rintro e V ⟨rfl,U⟩;rw[← b7];clear b7;replace c:=zb c U;replace t:=za t U;replace J:=za J U;clear U W;have o0:=zf t 0 _ rfl;have n2:∀ G:zy V,G.val.cell? _=some (.slice _ R F):=λG=>zf (za HQ.out (zb c G.o)) 2 _ rfl
 have m2:∀ G:zy V,G.val.cell? _=some (.int _ _):=λG=>zf (za t G.o) 2 _ rfl
 go_upto_region 17 with fail;refine ze (by kernel_rfl) (by kernel_rfl) ?_
 repeat(first|go_big_quiet_skip|(go_big_quiet_want;go_big_quiet_op;first|go_big_quiet_on|fail))
 refine Jl ?_;rintro _ ⟨G,rfl⟩;replace c:=zb c G.o;replace t:=za t G.o;replace J:=za J G.o;have i0:=zD J;have o2:=zf t 2 _ rfl;clear o0 n2 m2;have o0:∀ o,(G.val.alloc o).cell? _=some (.int _ 6):=λo=>zf (zg t o) 0 _ rfl
 go_upto_region 20 with fail;replace c:=zd c (.cells #[(),int i64 ((m:Int)+1),(),True] 41);replace t:=zg t (.cells #[(),int i64 ((m:Int)+1),(),True] 41);replace J:=zg J (.cells #[(),int i64 ((m:Int)+1),(),True] 41);have bT:=Jb G.val (.cells #[(),int i64 ((m:Int)+1),(),True] 41);generalize G.val.alloc _=X at c t J bT ⊢;generalize G.val.heap.size=tb at bT i0 ⊢;clear o0 o2 G V;have b2:=za c0.out c;have i7:=a0.out X c 10 _ rfl;have i8:=a0.out X c 11 _ rfl;have i9:=a0.out X c 12 _ rfl;have h0:=zc b2 (m*13+10);have h4:=zc b2 (m*13+11);obtain⟨t0,t1,t2,t3⟩:=Qk bT;go_upto_region 33 with fail;have P:Hid (Zd (x.u m) T y={ x.u m with C:=3,y:=0 }):=by show _=_;simp[Zd,g4.out]
 have l:zl X ((X.setCell _ (int i64 3)).setCell _ ()) _:=(((zl.refl X (λb=>b=gb)).set (a:=(gb,m*13+10)) rfl _).set (a:=(gb,m*13+11)) rfl _)
 have s:Hid (((X.setCell (gb,m*13+10) (int i64 3)).setCell (gb,m*13+11) ()).ownsRow base 150 13 (some (gb,0),R,F) R (AQ (Qq x.u m (Zd (x.u m) T y)) (AP E m (E m)) R)):=by
  refine qX (zI (zI ((HO.out.j0 c).u.row) _ _) _ _) (λj _=>Fu 13 (by decide) (k:=m) (C:=AM x.u E) (f:=λi=>if i=_ then _ else if i=_ then _ else _) (λr hr=>?_) (λj hj=>?_) (λi hi=>?_) j)
  ·have q:=zO 13 (AM x.u E) m r hr
   unfold AM;rw[ZS,qg,P.out];unfold AM at q;have f4:r=0∨r=1∨r=2∨r=3∨r=4∨r=5∨r=6∨r=7∨r=8∨r=9∨r=10∨r=11∨r=12:=by omega
   rcases f4 with rfl|rfl|rfl|rfl|rfl|rfl|rfl|rfl|rfl|rfl|rfl|rfl|rfl
   ·rw[Je (by omega),Je (by omega),q];rfl
   ·rw[Je (by omega),Je (by omega),q];rfl
   ·rw[Je (by omega),Je (by omega),q];rfl
   ·rw[Je (by omega),Je (by omega),q];rfl
   ·rw[Je (by omega),Je (by omega),q];rfl
   ·rw[Je (by omega),Je (by omega),q];rfl
   ·rw[Je (by omega),Je (by omega),q];rfl
   ·rw[Je (by omega),Je (by omega),q];rfl
   ·rw[Je (by omega),Je (by omega),q];rfl
   ·rw[Je (by omega),Je (by omega),q];rfl
   ·rw[Je (by omega),Jf rfl];rfl
   ·rw[Jf rfl];rfl
   ·rw[Je (by omega),Je (by omega),q];rfl
  ·rw[Je (by omega),Je (by omega)]
  ·unfold AM
   rw[Au _ _ _ hi,zV _ _ _ _ hi]
 have u:=hI ((HO.out.j0 c).k4 l s.out (by rw[P.out];exact(HO.out.j0 c).u.j4 m HM.out) (HO.out.u.far_same HM.out))
 have h6:g≠gb:=λe=>by have h:=c0.out;rw[← e,HQ.out] at h;simp at h
 have a7:=hI (l.blk (za HQ.out c) h6);have Q:=l.blk bT (by show _;omega)
 have d2:=l.blk J (by show _;omega)
 have d3:=l.blk t (by show _;omega)
 have d0:Hid (zl w _ (λb=>b=g∨(Value.slice (some (gb,0)) R F).ownBlock=some b)):=(zl.of_below c).trans (l.mono (λb e=>.inr (by rw[show _ from e];rfl)))
 have Y:((X.setCell (gb,m*13+10) (int i64 3)).setCell (gb,m*13+11) ()).cell? (gb,m*13+12)=some (x.u m).j2:=by
  have h:=zs s.out (m*13+12) (by have:=HM.out;omega) rfl
  rw[zO 13 _ m 12 (by decide)] at h
  unfold AM at h;rw[ZS,P.out] at h;exact h
 generalize ((X.setCell _ _).setCell _ _)=Z1 at d3 l s u a7 Q d2 d0 Y ⊢;clear l s bT J t b2 t0 t1 t2 t3 i7 i8 i9 h0 h4;have d7:w.heap.size+1≠tb:=by omega
 have I:E m=.slice d4 (x.u m).c S:=by rw[← g0.out];exact g2.out
 have hL:=u.out.u.j4 m HM.out;dsimp only at hL;rw[qg,ZS,P.out,I] at hL;dsimp only at hL;obtain⟨lb,rfl,k3,k4⟩:=qr hL M.out;obtain⟨k2,lo',d5,e4⟩:=Bo hL 0 M.out;have y3:Z1.cell? (lb,0)=some ((x.u m).J 0):=by
  cases d5
  exact e4
 have z3:Z1.cell? (gb,m*13+3)=some (some (lb,0),(x.u m).c,S):=by
  have h:=zs u.out.u.row (m*13+3) (by have:=HM.out;omega) rfl
  rw[zO 13 _ m 3 (by decide)] at h
  unfold AM at h;rw[qg,I] at h;exact h
 obtain⟨b8,so,la,lc,ca,cc,rfl,s0,s1,s2,s3,s4,s5,s6,s7,_⟩:=u.out.G.at n O.out;have zq:=zf a7.out 0 _ rfl;have j6:=zD HQ.out;have j9:b8<w.heap.size:=by
  obtain⟨gs,e,_,h2⟩:=qr HO.out.G.row (by have:=O.out;omega)
  cases e
  exact h2
 have j7:=by
  have h:=HO.out.u.j4 m HM.out;rw[I] at h;exact(h.lt lb rfl).2
 have i3:(0:Int)<=(n:Int):=by omega
 have i4:(n:Int)<(N:Int):=by have:=O.out;omega
 have i5:(0:Int)<((x.u m).c:Int):=by have:=M.out;omega
 have i6:=M.out;have k0:IntKind.i64.wrap ((x.G n).O - y.D)=(x.G n).O - y.D:=by rw[Jk];have:=f7.out;omega
 have g7:Hid (qy Z1 _ N x.G):=u.out.G.at;have KS:Hid (∀ z,Below _ Z1 z->_/\_/\z.cell? _=some (.slice _ N H)/\_/\z.cell? _=some (.int _ (x.G n).O)/\z.cell? _=some (.int _ _)):=λz h=>⟨(h.cell (Ja _ _ Y)).trans Y,(h.cell (Ja _ _ z3)).trans z3,(h.cell (Ja _ _ zq)).trans zq,(h.cell (Ja _ _ y3)).trans y3,(h.cell (Ja _ _ s3)).trans s3,zf (za d3 h) 11 _ rfl⟩
 have KT:Hid (∀ z,Below _ Z1 z->∀ v Z,Z=z.setCell (tb,2) v->Z.cell? _=_/\Z.cell? _=_/\Z.cell? _=_/\Z.cell? _=_/\Z.cell? _=_/\Z.cell? _=_):=λz h v Z e=>by
  subst e;obtain⟨a1,a2,a3,a4,a5,a6⟩:=KS.out z h;have hk:=(zl.refl z (λb=>b=tb)).set (a:=(tb,2)) rfl v
  exact⟨Q5 hk a1 (by show _;dsimp only;omega),Q5 hk a2 (by show _;dsimp only;omega),Q5 hk a3 (by show _;dsimp only;omega),Q5 hk a4 (by show _;dsimp only;omega),Q5 hk a5 (by show _;dsimp only;omega),Q5 hk a6 (by show _;dsimp only;omega)⟩
 clear s0 s1 s2 s3 s4 s5 s6 s7 y3 z3 Y zq hL d5 e4;go_region_held3 (λw'=>w'.cell? ⟨gb,m*13+12,none⟩=some (int i64 (x.u m).j2)/\w'.cell? ⟨gb,m*13+3,none⟩=some (.slice (some ⟨lb,0,none⟩) (x.u m).c S)/\w'.cell? ⟨g,0,none⟩=some (.slice (some ⟨b8,so,none⟩) N H)/\w'.cell? ⟨lb,0,none⟩=some (int i64 ((x.u m).J 0))/\w'.cell? ⟨b8,so+n*8+3,none⟩=some (int i64 (x.G n).O)/\w'.cell? ⟨w.heap.size,11,none⟩=some (int i64 y.D))
  (first|(with_reducible exact KT.out _ d.out _ _ rfl)|(refine KS.out _ ?_;repeat(first|exact d.out|exact bZ|refine Jh ?_|refine zd ?_ _)))
  (first
   |(go_simp;go_at_call 161;(with_reducible refine Jm (BB _ N H _ _ _ f8.out (g7.out.j0 ?_)) ?_);exact dB;rintro e u2 ⟨he,b4⟩;have d:=hI (zb (Jh bZ) b4);rw[f9.out] at he;rcases he with⟨_,rfl⟩ | ⟨h,_⟩;rotate_left;(focus(have:=O.out;omega));have q0:=zf (za Q d.out) 2 _ rfl;have q1:=zc (za Q d.out) 2;dsimp only)
   |(go_simp;go_at_call 171;(with_reducible refine Jm (Mx _ _ _) ?_);rintro e u3 ⟨rfl,rfl⟩;dsimp only))
 obtain⟨g6,h5,g5,b1,g9⟩:=Hf (d0.out.trans (zl.of_below d.out)) (u.out.j0 d.out) (za a7.out d.out) (za d2 d.out) (za Q d.out) d7 (by omega) (int i64 (Z9 (x.u m).j2 ((x.G n).O - y.D))) rfl
 obtain⟨d1,d6,c9,bF⟩:=BY g5 g6 h5 b1 (by omega) (int i64 0) (int i64 ((m:Int)+1)) (int i64 (Z9 (x.u m).j2 ((x.G n).O - y.D))) (.slice none 0 0) rfl
 obtain⟨t0,t1,t2,t3⟩:=Qk g9;obtain⟨v0,v1,v2,v3⟩:=Qk b1;obtain⟨e0,e1,e2,e3⟩:=EV b1;have b9:=hI d1;have g3:=hI d6;have g1:=hI c9;clear d1 d6 c9;go_wp2;obtain⟨x0,x1,x2,x3⟩:=Qk bF;refine Jj (v:=.agg #[(),int i64 ((m:Int)+1),(Z9 (x.u m).j2 ((x.G n).O - y.D)),True]) (by simp[results,results93,go_sem,x0,x1,x2,x3]) rfl ?_
 have q:=g8.out;subst q;exact⟨_,_,_,_,rfl,rfl,b9.out,g3.out,g1.out⟩
theorem ME (x:zY)(B Q:Option Addr)(bb bo I R D:Nat)(i:Nat)(C:Nat->List Value)(w:World)(hi:i<x.g)(hs:zY.Short x 1048576)
  (b3:qy w B x.i x.G) (hC:Qo w (some (bb,bo)) x.g 13 C) (hI:∀ k,k<x.g->zA.Is w (C k) (x.u k)) (e5:x.g<=D) :
  Calls prog 85 #[.agg #[.slice B x.i I,.slice Q x.l R,.slice (some ⟨bb,bo,none⟩) x.g D],int i64 i] w λe w'=>qH (Qr x i) e/\Below w w w':=by
 have b8:Hid (qy w B _ _):=b3;have HC:Hid (Qo w _ _ 13 C):=hC;have HI:Hid _:=hI;have b1:Hid (zY.Short x 1048576):=hs;have e4:=hs.2.2.1;clear b3 hC hI hs;obtain⟨b0,d9,e0,l⟩:=HC i hi;simp only[Option.some.injEq,Addr.mk.injEq,and_true] at e0;obtain⟨rfl,rfl⟩:=e0;obtain⟨A,E,g,X,b6⟩:=HI i hi;obtain⟨b,hb⟩:=nM (x.u i);rw[← hb] at g X b6;have s:=hI hb;have b7:=hI X;have a9:Hid (zA.Short b 1048576):=by rw[hb];exact b1.2.2.2 i hi
 have a:bb<w.heap.size:=Ja w _ (l 0 dC);have g0:w.cell? (bb,bo+i*13)=some (int i64 b.k):=by have:=l 0 dC;rw[g] at this;exact this
 have g1:w.cell? (bb,bo+i*13+1)=some (int i64 b.e):=by have:=l 1 dC;rw[g] at this;exact this
 have g2:w.cell? (bb,bo+i*13+2)=some (.string b.j1):=by have:=l 2 dC;rw[g] at this;exact this
 have g3:w.cell? (bb,bo+i*13+3)=some (A,b.c,E):=by have:=l 3 dC;rw[g] at this;exact this
 have g4:w.cell? (bb,bo+i*13+4)=some (int i64 b.v):=by have:=l 4 dC;rw[g] at this;exact this
 have g5:w.cell? (bb,bo+i*13+5)=some (int i64 b.f):=by have:=l 5 dC;rw[g] at this;exact this
 have g6:w.cell? (bb,bo+i*13+6)=some (int i64 b.j):=by have:=l 6 dC;rw[g] at this;exact this
 have g7:w.cell? (bb,bo+i*13+7)=some (int i64 b.w):=by have:=l 7 dC;rw[g] at this;exact this
 have g8:w.cell? (bb,bo+i*13+8)=some (.bool b.h):=by have:=l 8 dC;rw[g] at this;exact this
 have g9:w.cell? (bb,bo+i*13+9)=some (int i64 b.x):=by have:=l 9 dC;rw[g] at this;exact this
 have S:w.cell? (bb,bo+i*13+10)=some (int i64 b.C):=by have:=l 10 dC;rw[g] at this;exact this
 have T:w.cell? (bb,bo+i*13+11)=some (int i64 b.y):=by have:=l 11 dC;rw[g] at this;exact this
 have U:w.cell? (bb,bo+i*13+12)=some (int i64 b.j2):=by have:=l 12 dC;rw[g] at this;exact this
 have V:Below _ w (w.alloc (.cells #[(B,x.i,I),(Q,x.l,R),(some (bb,bo),x.g,D)] 38)):=zd bZ _;have bO:=Qc V;have c0:=λo=>tR (zd (Ji _ w) o) g0 a
 have c1:=λo=>tR (zd (Ji _ w) o) g1 a
 have c2:=λo=>tR (zd (Ji _ w) o) g2 a
 have c3:=λo=>tR (zd (Ji _ w) o) g3 a
 have c4:=λo=>tR (zd (Ji _ w) o) g4 a
 have c5:=λo=>tR (zd (Ji _ w) o) g5 a
 have c6:=λo=>tR (zd (Ji _ w) o) g6 a
 have c7:=λo=>tR (zd (Ji _ w) o) g7 a
 have c8:=λo=>tR (zd (Ji _ w) o) g8 a
 have c9:=λo=>tR (zd (Ji _ w) o) g9 a
 have d0:=λo=>tR (zd (Ji _ w) o) S a
 have d1:=λo=>tR (zd (Ji _ w) o) T a
 have d2:=λo=>tR (zd (Ji _ w) o) U a
 clear l g X b6 hb g0 g1 g2 g3 g4 g5 g6 g7 g8 g9 S T U;have d5:IntKind.i64.wrap ((i:Int)+1)=(i:Int)+1:=by rw[Jk];omega
 have e6:=n0 i;have e7:(i:Int)<(x.g:Int):=oM;have f:Below _ w ((w.alloc _).alloc (.cells (b,A,E) 150)):=zd V _;have r:((w.alloc _).alloc (.cells (b,A,E) 150)).heap[w.heap.size]?=_:=zg bO _;have n:((w.alloc (.cells #[(B,x.i,I),(Q,x.l,R),(some (bb,bo),x.g,D)] 38)).alloc (.cells (b,A,E) 150)).heap[w.heap.size+1]?=some (.cells (b,A,E) 150 (0,0)):=by simpa using Jb (w.alloc _) _
 clear V bO
 by_cases n1:b.k=(i:Int)+1
 case neg =>
  have e1:(b.k != (i:Int)+1)=true:=by simpa using n1
  have u:Hid (¬ Qr x i):=λh=>n1 (by rw[s.out];exact h.1)
  clear n1;go_enter func85,ntmps85;go_wp2;go_ret;exact⟨zh u,f⟩
 have e1:(b.k != (i:Int)+1)=false:=by simpa using n1
 have a2:=hI n1;clear n1;go_enter func85,ntmps85;go_wp2_with fail;generalize (w.alloc _).alloc _=W at f r n ⊢;clear c0 c1 c2 c3 c4 c5 c6 c7 c8 c9 d0 d1 d2 e1 d5;obtain⟨y0,y1,y2,y3,y4,y5,y6,y7,y8,y9,F,G,H⟩:=Cl n;have z0:=bC r 0;have z2:=bC r 2;refine(Qt _ _).mono ?_;obtain⟨t0,Y⟩:=nM (decide (In b.e 1 9999));rw[← Y];have K:Hid (t0=true↔In b.e 1 9999):=by show _↔_;rw[Y,decide_eq_true_eq]
 clear Y;rintro e v ⟨rfl,y⟩;have y:=y.symm;subst y
 cases t0 with
 |false =>
  have u:Hid (¬ Qr x i):=λh=>by have h:=(show _ from h);unfold Qr at h;rw[← s.out] at h;have:=K.2 h.2.1;cases this
  go_wp2;go_ret;exact⟨zh u,f⟩
 |true =>
 have a3:=hI (K.1 rfl);clear K;go_wp2_with fail;refine(Zz _ _ (by have:=a9.1;omega)).mono ?_
 obtain⟨t1,Z⟩:=nM (decide (Z7 b.j1));rw[← Z];have L:Hid (t1=true↔Z7 b.j1):=by show _↔_;rw[Z,decide_eq_true_eq]
 clear Z;rintro e v ⟨rfl,y⟩;have y:=y.symm;subst y
 cases t1 with
 |false =>
  have u:Hid (¬ Qr x i):=λh=>by have h:=(show _ from h);unfold Qr at h;rw[← s.out] at h;have:=L.2 h.2.2.1;cases this
  go_wp2;go_ret;exact⟨zh u,f⟩
 |true =>
 have a4:=hI (L.1 rfl);clear L;go_wp2_with fail;refine(Np B A _ _ I E _ _ _ b1.1.1 a9.2 (b8.j0 f) (b7.j0 f)).mono ?_;rintro e v2 ⟨⟨t2,rfl,b4⟩,t⟩;have M:=hI b4;clear b4;replace r:=za r t;replace n:=za n t;replace f:=zb f t;clear y0 y1 y2 y3 y4 y5 y6 y7 y8 y9 F G H z0 z2 t;obtain⟨y0,y1,y2,y3,y4,y5,y6,y7,y8,y9,F,G,H⟩:=Cl n;have z0:=bC r 0;have z2:=bC r 2
 cases t2 with
 |false =>
  have u:Hid (¬ Qr x i):=λh=>by have h:=(show _ from h);unfold Qr at h;rw[← s.out] at h;have:=M.2 h.2.2.2.1;cases this
  go_wp2;go_ret;exact⟨zh u,f⟩
 |true =>
 have a5:=hI (M.1 rfl);clear M;go_wp2_with fail;refine(FP _ _ _ _ _ _ _).mono ?_;rintro e v3 ⟨⟨t3,rfl,b5⟩,t⟩;have N:Hid (_↔Zc b.p):=b5;clear b5;replace r:=za r t;replace n:=za n t;replace f:=zb f t;clear y0 y1 y2 y3 y4 y5 y6 y7 y8 y9 F G H z0 z2 t;obtain⟨y0,y1,y2,y3,y4,y5,y6,y7,y8,y9,F,G,H⟩:=Cl n;have z0:=bC r 0;have z2:=bC r 2
 cases t3 with
 |false =>
  have u:Hid (¬ Qr x i):=λh=>by have h:=(show _ from h);unfold Qr at h;rw[← s.out] at h;have:=N.2 h.2.2.2.2.1;cases this
  go_wp2;go_ret;exact⟨zh u,f⟩
 |true =>
 have a6:=hI (N.1 rfl);clear N;go_wp2_with fail;refine(zt _ _ _ _).mono ?_;obtain⟨t4,a0⟩:=nM (decide (In b.C 1 4));rw[← a0];have O:Hid (t4=true↔In b.C 1 4):=by show _↔_;rw[a0,decide_eq_true_eq]
 clear a0;rintro e v ⟨rfl,y⟩;have y:=y.symm;subst y
 cases t4 with
 |false =>
  have u:Hid (¬ Qr x i):=λh=>by have h:=(show _ from h);unfold Qr at h;rw[← s.out] at h;have:=O.2 h.2.2.2.2.2.1;cases this
  go_wp2;go_ret;exact⟨zh u,f⟩
 |true =>
 have a7:=hI (O.1 rfl);clear O;go_wp2_with fail;refine(zt _ _ _ _).mono ?_;obtain⟨t5,a1⟩:=nM (decide (In b.j2 0 1000000));rw[← a1];have P:Hid (t5=true↔In b.j2 0 1000000):=by show _↔_;rw[a1,decide_eq_true_eq]
 clear a1;rintro e v ⟨rfl,y⟩;have y:=y.symm;subst y
 cases t5 with
 |false =>
  have u:Hid (¬ Qr x i):=λh=>by have h:=(show _ from h);unfold Qr at h;rw[← s.out] at h;have:=P.2 h.2.2.2.2.2.2.1;cases this
  go_wp2;go_ret;exact⟨zh u,f⟩
 |true =>
 have a8:=hI (P.1 rfl);clear P;have d8:(x.g:Int)<=(D:Int):=oM;have e8:(i:Int)<=(D:Int):=oM;go_wp2;clear y0 y1 y2 y3 y4 y5 y6 y7 y8 y9 F G H z0 z2;go_loopw [7,61] (λ_ q wr=>∃ k,k<=i/\q=int i64 k/\(∀ j,j<k->(x.u j).e≠b.e)/\Below v3 v3 wr) (λ_ q _=>i - (intOf q).toNat)
 case atStart=>exact⟨0,Jq _,rfl,λj hj=>by omega,bZ⟩
 case round =>
  obtain⟨k,hk,rfl,J,m⟩:=hrel;have HA:=hI J;clear J
  by_cases hlt:k<i
  ·obtain⟨b2,o2,e2,l⟩:=HC k oM
   simp only[Option.some.injEq,Addr.mk.injEq,and_true] at e2;obtain⟨rfl,rfl⟩:=e2;obtain⟨b9,d3,g,_,_⟩:=HI k oM;obtain⟨d,hd⟩:=nM (x.u k);rw[← hd] at g;have HD:=hI hd;clear hd;have c:=zb f m;have g0:wr.cell? _=some (.int _ _):=(c.cell (p:=⟨bb,bo+_,_⟩) a).trans (rC g (l 0 dC));have g1:wr.cell? _=some (.int _ _):=(c.cell a).trans (rC g (l 1 dC));have g2:wr.cell? _=some (.string _):=(c.cell a).trans (rC g (l 2 dC));have g3:wr.cell? _=some (.slice b9 _ d3):=(c.cell a).trans (rC g (l 3 dC));have g4:wr.cell? _=some (.int _ _):=(c.cell a).trans (rC g (l 4 dC));have g5:wr.cell? _=some (.int _ _):=(c.cell a).trans (rC g (l 5 dC));have g6:wr.cell? _=some (.int _ _):=(c.cell a).trans (rC g (l 6 dC));have g7:wr.cell? _=some (.int _ _):=(c.cell a).trans (rC g (l 7 dC));have g8:wr.cell? _=some (.bool _):=(c.cell a).trans (rC g (l 8 dC));have g9:wr.cell? _=some (.int _ _):=(c.cell a).trans (rC g (l 9 dC));have S:wr.cell? _=some (.int _ _):=(c.cell a).trans (rC g (l 10 dC));have T:wr.cell? _=some (.int _ _):=(c.cell a).trans (rC g (l 11 dC));have U:wr.cell? _=some (.int _ _):=(c.cell a).trans (rC g (l 12 dC));have y1:=aC (za n m) 1;clear l g c
   by_cases e3:d.e=b.e
   ·have d4:(d.e == b.e)=true:=by simpa using e3
    have u:Hid (¬ Qr x i):=λh=>h.2.2.2.2.2.2.2.1 k hlt (by rw[← HD.out,← s.out];exact e3)
    clear e3;go_wp2;go_ret;exact⟨zh u,zd (zb f m) _⟩
   ·have d4:(d.e == b.e)=false:=by simpa using e3
    have u:Hid ((x.u k).e≠b.e):=by rw[← HD.out];exact e3
    clear e3;go_wp2;go_roundw
    case rel=>exact⟨k+1,by omega,by go_num,λj hj=>by
     by_cases e:j=k
     ·subst e;exact u
     ·exact HA j oM,zd m _⟩
    case measure=>simp[intOf];omega
  ·obtain rfl:k=i:=by omega
   have c:=zb f m;have F:=bC (za n m) 10;have G:=bC (za n m) 11;have HF:Hid (Qr x k↔Bw b):=by
    show _↔_
    unfold Qr;rw[← s.out];exact⟨λh=>h.2.2.2.2.2.2.2.2,λh=>⟨a2,a3,a4,a5,a6,a7,a8,HA,h⟩⟩
   clear a2 a3 a4 a5 a6 a7 a8 HA m
   by_cases s1:b.C=1
   ·have d6:(b.C == 1)=true:=by simpa using s1
    have HU:Hid (Bw b↔In b.y 0 10000):=by show _↔_;unfold Bw;rw[Jf (.inl s1)]
    clear s1;go_wp2_with (first|(go_at_call 148;refine bM (zt _ _ _ _) λw' z=>?_;have z:=z.symm;subst z))
    go_ret;exact⟨⟨_,rfl,by rw[decide_eq_true_eq,HF.out,HU.out]⟩,c⟩
   ·have d6:(b.C == 1)=false:=by simpa using s1
    by_cases s4:b.C=4
    ·have d7:(b.C == 4)=true:=by simpa using s4
     have HU:Hid (Bw b↔In b.y 0 10000):=by show _↔_;unfold Bw;rw[Jf (.inr s4)]
     clear s1 s4;go_wp2_with (first|(go_at_call 148;refine bM (zt _ _ _ _) λw' z=>?_;have z:=z.symm;subst z))
     go_ret;exact⟨⟨_,rfl,by rw[decide_eq_true_eq,HF.out,HU.out]⟩,c⟩
    ·have d7:(b.C == 4)=false:=by simpa using s4
     have HU:Hid (Bw b↔b.y=0):=by show _↔_;unfold Bw;rw[Je (λh=>by rcases h with h|h;exact s1 h;exact s4 h)]
     clear s1 s4;go_wp2;go_ret;exact⟨⟨_,rfl,by rw[beq_iff_eq,HF.out,HU.out]⟩,c⟩
section
def Rp (v1 v2 v3:Value)(a c d:Nat)(L C A B D E:Nat->Value)(b:Nat):Prop:=rf v1 a L C b∨v2.ownBlock=some b∨nj c A B D b∨rh v3 d E b
section
variable {w w' : World} {base : Nat} {v1 v2 v3 : Value} {n1 n2 n3 : Nat} {x : zY} {L C A B D E : Nat -> Value}
theorem zz.blk (h:zz w base v1 v2 v3 n1 n2 n3 x L C A B D E):∀ b,Rp v1 v2 v3 n1 n2 n3 L C A B D E b->base<=b/\b<w.heap.size:=by
 rintro b ((e|⟨i,a,e|e⟩)|e|⟨i,a,e|e|e⟩|e|⟨i,a,e⟩)
 ·exact h.G.row.lt b e
 ·exact(h.G.la i a).lt b e
 ·exact(h.G.M i a).lt b e
 ·exact h.F.row.lt b e
 ·exact(h.F.K i a).lt b e
 ·exact(h.F.I i a).lt b e
 ·exact(h.F.L i a).lt b e
 ·exact h.u.row.lt b e
 ·exact(h.u.j4 i a).lt b e
theorem zz.keep {T:Nat->Prop}(h:zz w base v1 v2 v3 n1 n2 n3 x L C A B D E)(d:zl w w' T)(c:∀ b,Rp v1 v2 v3 n1 n2 n3 L C A B D E b->¬ T b):zz w' base v1 v2 v3 n1 n2 n3 x L C A B D E :=
 ⟨⟨d.j1 h.G.row (λg e s=>c g (.inl (.inl e)) s),λi a=>d.j1 (h.G.la i a) (λg e s=>c g (.inl (.inr ⟨i,a,.inl e⟩)) s),λi a=>d.j1 (h.G.M i a) (λg e s=>c g (.inl (.inr ⟨i,a,.inr e⟩)) s),h.G.apart⟩,
  ⟨d.j1 h.F.row (λg e s=>c g (.inr (.inl e)) s),λi a=>d.j1 (h.F.K i a) (λg e s=>c g (.inr (.inr (.inl ⟨i,a,.inl e⟩))) s),λi a=>d.j1 (h.F.I i a) (λg e s=>c g (.inr (.inr (.inl ⟨i,a,.inr (.inl e)⟩))) s),λi a=>d.j1 (h.F.L i a) (λg e s=>c g (.inr (.inr (.inl ⟨i,a,.inr (.inr e)⟩))) s),h.F.Q⟩,
  ⟨d.j1 h.u.row (λg e s=>c g (.inr (.inr (.inr (.inl e)))) s),λi a=>d.j1 (h.u.j4 i a) (λg e s=>c g (.inr (.inr (.inr (.inr ⟨i,a,e⟩)))) s),h.u.apart⟩⟩
theorem zz.noRow {c t sz n:Nat}{u:Value}{r:List Value}(h:zz w base v1 v2 v3 n1 n2 n3 x L C A B D E)(hr:w.ownsRow c t sz u n r)(d:140≠t/\223≠t/\231≠t/\145≠t/\220≠t/\228≠t/\234≠t/\150≠t/\3≠t):∀ b,Rp v1 v2 v3 n1 n2 n3 L C A B D E b->u.ownBlock≠some b:=by
 obtain⟨f,g,j,k,l,m,o,p,q⟩:=d;rintro b ((e|⟨i,a,e|e⟩)|e|⟨i,a,e|e|e⟩|e|⟨i,a,e⟩)
 ·exact zE h.G.row hr f b e
 ·exact zE (h.G.la i a) hr g b e
 ·exact zE (h.G.M i a) hr j b e
 ·exact zE h.F.row hr k b e
 ·exact zE (h.F.K i a) hr l b e
 ·exact zE (h.F.I i a) hr m b e
 ·exact zE (h.F.L i a) hr o b e
 ·exact zE h.u.row hr p b e
 ·exact zE (h.u.j4 i a) hr q b e
end
def kO (x:zY):Nat:=kB x.u (kL x.F (kS x.G 1 x.i) x.l) x.g
def mO (x:zY):zY:={ x with G:=mS x.G 1,F:=mL x.F (kS x.G 1 x.i),u:=mB x.u (kL x.F (kS x.G 1 x.i) x.l) }
theorem jg {x:zY}(h1:x.i<=1000)(h2:x.l<=1000)(h3:x.g<=1000)(e:zY.Short x 1048576):kS x.G 1 x.i<=5000000000/\kL x.F (kS x.G 1 x.i) x.l<=20000000000/\kO x<=30000000000:=by
 have a:=Tz (k0:=1) (λi d=>⟨(e.1.2 i d).2.2.1,(e.1.2 i d).2.2.2⟩) _ (Jr _)
 have b:=TA (k0:=kS x.G 1 x.i) e.2.1.2 _ (Jr _);have c:=TB (k0:=kL x.F (kS x.G 1 x.i) x.l) (λi d=>(e.2.2.2 i d).2) _ (Jr _)
 refine⟨by omega,by omega,?_⟩
 unfold kO
 omega
theorem Kh (x:zY)(n g h:Option Addr)(c1 c2 c3 base:Nat)(L C A B D E:Nat->Value)(w:World)(h1:x.i<=1000)(h2:x.l<=1000)(h3:x.g<=1000)(O:zY.Short x 1048576)(N:zz w base (n,x.i,c1) (g,x.l,c2) (h,x.g,c3) x.i x.l x.g x L C A B D E) :
  Calls prog 15 #[.agg #[(n,x.i,c1),(g,x.l,c2),(h,x.g,c3)],int i64 1] w λe w'=>e=.returned ((kO x:Nat):Int)/\zz w' base (n,x.i,c1) (g,x.l,c2) (h,x.g,c3) x.i x.l x.g (mO x) L C A B D E/\zl w w' (Rp (n,x.i,c1) (g,x.l,c2) (h,x.g,c3) x.i x.l x.g L C A B D E):=by
 have Q:=hI (jg h1 h2 h3 O);have H:=hI O;have j:Below _ w (w.alloc (.cells #[(n,x.i,c1),(g,x.l,c2),(h,x.g,c3)] 38)):=zd bZ _;have M:=Qc j;have v:Hid (∀ b,_->b≠w.heap.size):=λb e=>by have:=(N.blk b e).2;omega
 have f:=hI (N.j0 j);have o:Hid (zl w _ (Rp (n,x.i,c1) (g,x.l,c2) (h,x.g,c3) x.i x.l x.g L C A B D E)):=zl.of_below j;clear O N j;go_enter func15,ntmps15;go_wp2_with fail;generalize w.alloc _=V at M f o ⊢;refine(MF n _ c1 _ 1 _ L C V oM dC (λi a=>⟨(H.1.2 i a).2.2.1,(H.1.2 i a).2.2.2⟩) f.G).mono ?_
 rintro e I ⟨rfl,z,k⟩;have r:zl V I (Rp _ (g,x.l,c2) (h,x.g,c3) _ x.l x.g L C A B D E):=k.mono (λb e=>.inl e)
 have p:=r.blk M (λe=>v _ e rfl)
 have c:Hid (zz I _ _ _ _ _ _ _ { x with G:=mS _ 1 } L C A B D E) :=
  ⟨z,f.F.j7 k (λb e=>by
    rcases e with e|⟨i,a,e|e⟩
    ·obtain⟨cs,q⟩:=zC f.G.row b e;exact⟨cs,_,q,by decide,by decide,by decide,by decide⟩
    ·obtain⟨cs,q⟩:=zC (f.G.la i a) b e;exact⟨cs,_,q,by decide,by decide,by decide,by decide⟩
    ·obtain⟨cs,q⟩:=zC (f.G.M i a) b e;exact⟨cs,_,q,by decide,by decide,by decide,by decide⟩),
   f.u.j7 k (λb e=>by
    rcases e with e|⟨i,a,e|e⟩
    ·obtain⟨cs,q⟩:=zC f.G.row b e;exact⟨cs,_,q,by decide,by decide⟩
    ·obtain⟨cs,q⟩:=zC (f.G.la i a) b e;exact⟨cs,_,q,by decide,by decide⟩
    ·obtain⟨cs,q⟩:=zC (f.G.M i a) b e;exact⟨cs,_,q,by decide,by decide⟩)⟩
 have t:=hI (o.trans r);clear z k r f o M;have S:=bC p 1;go_wp2_with fail;refine(Rl g _ c2 _ _ _ A B D I h2 (by have:=Q.1;omega) H.2.1.2 c.F).mono ?_
 rintro e P ⟨rfl,F,l⟩;have s:zl I P (Rp (n,x.i,c1) (g,x.l,c2) (h,x.g,c3) x.i _ x.g L C A B D E):=l.mono (λb e=>.inr (.inr (.inl e)))
 have y:=s.blk p (λe=>v _ e rfl)
 have d:Hid (zz P _ _ _ _ _ _ _ { x with G:=_,F:=mL _ _ } L C A B D E) :=
  ⟨c.G.j7 l (λb e=>by
    rcases e with⟨i,a,e|e|e⟩
    ·obtain⟨cs,q⟩:=zC (c.F.K i a) b e;exact⟨cs,_,q,by decide,by decide,by decide⟩
    ·obtain⟨cs,q⟩:=zC (c.F.I i a) b e;exact⟨cs,_,q,by decide,by decide,by decide⟩
    ·obtain⟨cs,q⟩:=zC (c.F.L i a) b e;exact⟨cs,_,q,by decide,by decide,by decide⟩),F,
   c.u.j7 l (λb e=>by
    rcases e with⟨i,a,e|e|e⟩
    ·obtain⟨cs,q⟩:=zC (c.F.K i a) b e;exact⟨cs,_,q,by decide,by decide⟩
    ·obtain⟨cs,q⟩:=zC (c.F.I i a) b e;exact⟨cs,_,q,by decide,by decide⟩
    ·obtain⟨cs,q⟩:=zC (c.F.L i a) b e;exact⟨cs,_,q,by decide,by decide⟩)⟩
 have u:=hI (t.trans s);clear F l s c t p S;have T:=bC y 2;go_wp2_with fail;refine(Rn h _ c3 _ _ _ E P oM (by have:=Q.2.1;omega) (λi a=>(H.2.2.2 i a).2) d.u).mono ?_
 rintro e R ⟨rfl,G,m⟩;have K:Hid (zz R _ _ _ _ _ _ _ (mO x) L C A B D E) :=
  ⟨d.G.j7 m (λb e=>by
    rcases e with e|⟨i,a,e⟩
    ·obtain⟨cs,q⟩:=zC d.u.row b e;exact⟨cs,_,q,by decide,by decide,by decide⟩
    ·obtain⟨cs,q⟩:=zC (d.u.j4 i a) b e;exact⟨cs,_,q,by decide,by decide,by decide⟩),
   d.F.j7 m (λb e=>by
    rcases e with e|⟨i,a,e⟩
    ·obtain⟨cs,q⟩:=zC d.u.row b e;exact⟨cs,_,q,by decide,by decide,by decide,by decide⟩
    ·obtain⟨cs,q⟩:=zC (d.u.j4 i a) b e;exact⟨cs,_,q,by decide,by decide,by decide,by decide⟩),G⟩
 have J:=hI (u.trans (m.mono (λb e=>.inr (.inr (.inr e)))))
 clear G m d u y T;go_wp2;go_ret;exact⟨rfl,K,J⟩
theorem EQ (x:zY)(b c d:Option Addr)(c1 c2 c3:Nat)(w:World)(h1:x.i<=1000)(h2:x.l<=1000)(h3:x.g<=1000)(l:zY.Short x 1048576)(o:qy w b x.i (mO x).G/\ZA w c x.l (mO x).F/\qL w d x.g (mO x).u) :
  Calls prog 18 #[.agg #[(b,x.i,c1),(c,x.l,c2),(d,x.g,c3)],int i64 1] w λe w'=>e=.returned ((kO x:Nat):Int)/\Below w w w':=by
 have n:=hI (jg h1 h2 h3 l);have h:=hI l;have k:Hid (qy w b _ (mS _ 1)/\ZA w c _ (mL _ _)/\qL w d _ (mB _ _)):=o;clear l o;have a:Below _ w (w.alloc (.cells #[(b,x.i,c1),(c,x.l,c2),(d,x.g,c3)] 38)):=zd bZ _;have f:=Qc a;go_enter func18,ntmps18;go_wp2_with fail;generalize w.alloc _=V at a f ⊢;refine bM (MG b _ c1 1 _ V oM dC (λi j=>⟨(h.1.2 i j).2.2.1,(h.1.2 i j).2.2.2⟩) (k.1.j0 a)) λp g=>?_
 replace f:=za f g;replace a:=zb a g;clear g;have y1:=bC f 1;have e0:decide (((kS x.G 1 x.i:Nat):Int)<0)=false:=dF;go_wp2_with fail;refine bM (Rm c _ c2 _ _ p h2 (by have:=n.1;omega) h.2.1.2 (k.2.1.j0 a)) λw2 m=>?_
 have m:=m.symm;subst m;have y2:=bC f 2;have e1:decide (((kL x.F (kS x.G 1 x.i) x.l:Nat):Int)<0)=false:=dF;go_wp2_with fail;refine bM (Ro d _ c3 _ _ _ oM (by have:=n.2.1;omega) (λi j=>(h.2.2.2 i j).2) (k.2.2.j0 a)) λw3 g=>?_
 replace a:=zb a g;have e2:decide (((kB x.u (kL x.F (kS x.G 1 x.i) x.l) x.g:Nat):Int)<0)=false:=dF;go_wp2;go_ret;exact⟨rfl,a⟩
end
end Go.Proofs.YtmdnjgihooflfaaGreatDoor
