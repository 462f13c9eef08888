import Derived.Test.YtmdnjgihooflfaaGreatDoorB18
import Derived.Test.YtmdnjgihooflfaaGreatDoorB19
import Derived.Test.YtmdnjgihooflfaaGreatDoorB12
namespace Go.Proofs.YtmdnjgihooflfaaGreatDoor
open Go.RowKit
open Go.Value (int)
open Go.IntKind (i64)
open _root_.Go.Proofs.Tryz
set_option maxHeartbeats 64000000
set_option maxRecDepth 1000000
variable{base m c N j d:Nat}{x:zY}{L C A B D:Nat->Value}{w u:World}{name price b a c' n p p':Int}{y:qD}
def Ou (w:World)(base:Nat)(b a:zA)(d:Option Addr)(c:Nat)(la:Option Addr)(e:Nat):Prop :=
 (Value.slice la a.c e=.slice d b.c c/\a.c=b.c/\a.J=b.J)∨w.ownsRow base 3 1 (.slice la a.c e) a.c (qp a.J a.c)
theorem PU (b:zA)(c:Option Addr)(a:Nat)(d:Int)(y:qD)(f:Option Addr)(g:Nat)(j:zA)(i:j=Zd b d y)(w:World)(hk:4<=y.d/\y.d<=8)(l:y.d=5->Zn w/\Zp w/\QO ⟨y.v,y.f,y.j,y.w,y.h,y.x⟩ y.c/\zS w f y.c y.J) :
  Calls prog 205 #[.agg (b,c,a),d,.agg (y,f,g)] w λe w'=>(∃ la lc,e=.returned (.agg (j,la,lc))/\Ou w' w.heap.size b j c a la lc)/\Below w w w':=by
 by_cases k4:y.d=4
 ·obtain rfl:j={ b with C:=2,y:=0 }:=by rw[i];unfold Zd;rw[Jf k4]
  exact(TW b c a d y f g w k4).mono λ_ _ ⟨e,h⟩=>⟨⟨c,a,e,.inl ⟨rfl,rfl,rfl⟩⟩,h⟩
 by_cases k5:y.d=5
 ·obtain⟨h1,h2,h3,k⟩:=l k5
  obtain rfl:j={ b with e:=d,c:=y.c,J:=y.J,v:=y.v,f:=y.f,j:=y.j,w:=y.w,h:=y.h,x:=y.x,j2:=_ }:=by rw[i];unfold Zd;rw[Je k4,Jf k5]
  exact(aa b c a d y f g w k5 h1 h2 h3 k).mono λ_ _ ⟨⟨la,lc,e,ho⟩,h⟩=>⟨⟨la,lc,e,.inr ho⟩,h⟩
 by_cases k6:y.d=6
 ·obtain rfl:j={ b with C:=3,y:=0 }:=by rw[i];unfold Zd;rw[Je k4,Je k5,Jf k6]
  exact(TX b c a d y f g w k6).mono λ_ _ ⟨e,h⟩=>⟨⟨c,a,e,.inl ⟨rfl,rfl,rfl⟩⟩,h⟩
 by_cases k7:y.d=7
 ·obtain rfl:j={ b with j1:=y.j1 }:=by rw[i];unfold Zd;rw[Je k4,Je k5,Je k6,Jf k7]
  exact(TY b c a d y f g w k7).mono λ_ _ ⟨e,h⟩=>⟨⟨c,a,e,.inl ⟨rfl,rfl,rfl⟩⟩,h⟩
 ·obtain rfl:j={ b with C:=4 }:=by rw[i];unfold Zd;rw[Je k4,Je k5,Je k6,Je k7]
  exact(TZ b c a d y f g w oM).mono λ_ _ ⟨e,h⟩=>⟨⟨c,a,e,.inl ⟨rfl,rfl,rfl⟩⟩,h⟩
theorem SO {d j:World}{u gb c1 c2 c3 f o:Nat}{p g la:Option Addr}{a:zA}{E:Nat->Value}(y:Below d d j)(l:zz d base (some (u,0),x.i,c1) (p,x.l,c2) (some (gb,0),x.g,c3) x.i x.l x.g x L C A B D E)(n:base<=d.heap.size)(t:m<x.g)(q:E m=.slice g (x.u m).c f)(r:Ou j d.heap.size (x.u m) a g f la o) :
  zz (KL j gb m (int i64 a.k) (int i64 a.e) (.string a.j1) (.slice la a.c o) (int i64 a.v) (int i64 a.f) (int i64 a.j) (int i64 a.w) (.bool a.h) (int i64 a.x) (int i64 a.C) (int i64 a.y) (int i64 a.j2)) base (.slice (some ⟨u,0,none⟩) x.i c1) (.slice p x.l c2) (.slice (some ⟨gb,0,none⟩) x.g c3) x.i x.l x.g { x with u:=Qq x.u m a } L C A B D (AP E m (.slice la a.c o)):=by
 have c:=l.j0 y;refine c.k4 (Gd j gb m _ _ _ _ _ _ _ _ _ _ _ _ _) (Bs (MU _ _ _ _ _ _ _ _ _ _ _ _ _ c.u.row rfl) dC (λi s=>?_)) ?_ ?_
 ·by_cases e:i=m
  ·subst e;rw[Jf rfl];unfold AM;rw[ZS,qg]
  ·rw[Je e];unfold AM;rw[Au _ _ _ e,zV _ _ _ _ e]
 ·rcases r with⟨k,v,w⟩|h
  ·rw[k,v,w,← q];exact c.u.j4 m t
  ·exact zo h n
 ·rcases r with⟨k,_⟩|h
  ·rw[k,← q];exact l.u.far_same t
  ·intro i s z b h1 h2
   have q1:=((l.u.j4 i s).lt b h1).2;have q2:=(h.lt b h2).1
   omega
theorem Ow (x:zY)(Q:Option Addr)(M gb c1 c2 c3 base m k0:Nat)(L C A B D E:Nat->Value)(a3:Int)(y:qD)(H:Option Addr)(R:Nat)(w:World)(hk:4<=y.d/\y.d<=8)(e0:y.k=(m:Int)+1)(J:m<x.g)(h0:x.g<=30)(g4:x.i<=1048576)(a8:0<(x.u m).c)(d6:zX x.G ((x.u m).J 0) x.i=k0)(h4:k0<x.i)
  (a6:In (x.G k0).O 0 1000000/\(y.d=6->In y.D 0 1000000)) (hT:∀ V,Below base w V->Zn V/\Zp V) (h5:y.d=5->QO ⟨y.v,y.f,y.j,y.w,y.h,y.x⟩ y.c/\zS w H y.c y.J) (a4:base<=w.heap.size) (p:zz w base (.slice (some ⟨M,0,none⟩) x.i c1) (.slice Q x.l c2) (.slice (some ⟨gb,0,none⟩) x.g c3) x.i x.l x.g x L C A B D E) :
  Calls prog 111 #[.agg #[.slice (some ⟨M,0,none⟩) x.i c1,.slice Q x.l c2,.slice (some ⟨gb,0,none⟩) x.g c3],int i64 a3,.agg #[int i64 y.d,.string y.j1,int i64 y.k,.slice H y.c R,int i64 y.v,int i64 y.f,int i64 y.j,int i64 y.w,.bool y.h,int i64 y.x,int i64 y.y,int i64 y.D]] w λe w'=>(∃ E2,e=.returned (.tuple #[.agg #[.slice (some ⟨M,0,none⟩) x.i c1,.slice Q x.l c2,.slice (some ⟨gb,0,none⟩) x.g c3],.agg #[int i64 0,int i64 ((m:Int)+1),int i64 (Pq (x.u m) (x.G k0).O y),.slice none 0 0]])/\zz w' base (.slice (some ⟨M,0,none⟩) x.i c1) (.slice Q x.l c2) (.slice (some ⟨gb,0,none⟩) x.g c3) x.i x.l x.g { x with u:=Qq x.u m (Zd (x.u m) a3 y) } L C A B D E2)/\zl w w' (λb=>b=gb):=by
 obtain⟨g9,s,eE,_,_,_⟩:=zn (p.u.j4 m J);obtain⟨lb,g0,_,d8⟩:=qr (by have h:=p.u.j4 m J;rw[eE] at h;exact h) a8
 subst g0;have d5:=(p.u.row.lt gb rfl).1;have g8:=(p.u.row.lt gb rfl).2;have X:Hid (∀ V G,_->_->Calls _ 205 _ V λe w'=>(∃ la lc,_/\Ou w' _ _ G (some ⟨lb,0,none⟩) s la lc)/\_):=λV G he hb=>PU (x.u m) _ s a3 y H R G he V hk (λh=>⟨(hT V (hb.mono a4)).1,(hT V (hb.mono a4)).2,(h5 h).1,(h5 h).2.j0 hb⟩)
 have a1:Hid (∀ V,_->Calls _ 206 #[.agg #[_,_,_,.slice (some ⟨lb,0,none⟩) _ s,_,_,_,_,_,_,_,_,_],_,_] V λe w'=>_):=λV hb=>fj (x.u m) _ s _ y H R V (hT V hb).1 (hT V hb).2 (λh=>(h5 h).1) a6
 have a0:=hI p;have e5:Hid (∀ z,_->qy z _ _ _):=λz hz=>(p.G.j0 hz).at
 have b3:=hI d6;obtain⟨td,b0⟩:=nM ((Pq (x.u m) (x.G k0).O y));have e6:=hI b0;rw[← b0] at a1;obtain⟨G,d4⟩:=nM (Zd (x.u m) a3 y);have b2:=hI d4;obtain⟨b,S⟩:=nM (x.u m);have b1:=hI S;rw[← S] at X a1 b3 a8;have b8:w.cell? ⟨lb,0,none⟩=some (int i64 (b.J 0)):=by
  have h:=p.u.j4 m J;rw[eE] at h;have:=Bo h 0 (by rw[← S];exact a8)
  obtain⟨q1,q2,q3,q4⟩:=this
  cases q3
  rw[S]
  simpa using q4
 have b4:Hid (∀ z,Below w w z->_):=λz hz=>tR hz b8 d8
 have b9:AM x.u E m=[int i64 b.k,int i64 b.e,.string b.j1,.slice (some ⟨lb,0,none⟩) b.c s,int i64 b.v,int i64 b.f,int i64 b.j,int i64 b.w,.bool b.h,int i64 b.x,int i64 b.C,int i64 b.y,int i64 b.j2]:=by unfold AM;rw[eE,← S]
 have e1:=hI b9;have e4:=hI eE;rw[e0] at X a1 ⊢;have d1:(y.d == 1)=false:=by simpa using(show y.d≠1 by omega)
 have d2:(y.d == 2)=false:=by simpa using(show y.d≠2 by omega)
 have d3:(y.d == 3)=false:=by simpa using(show y.d≠3 by omega)
 have d9:(y.d == 9)=false:=by simpa using(show y.d≠9 by omega)
 have h7:IntKind.i64.wrap ((m:Int)+1 - 1)=(m:Int):=by rw[Jk];omega
 have h6:IntKind.i64.wrap (m:Int)=(m:Int):=by rw[Jk];omega
 have i0:=n0 m;have i1:(m:Int)<(x.g:Int):=oM;have i2:(0:Int)<(b.c:Int):=oM;have d:=hI (Cp.start w (.slice (some ⟨M,0,none⟩) x.i c1) (.slice Q x.l c2) (.slice (some ⟨gb,0,none⟩) x.g c3) #[int i64 y.d,.string y.j1,int i64 ((m:Int)+1),.slice H y.c R,int i64 y.v,int i64 y.f,int i64 y.j,int i64 y.w,.bool y.h,int i64 y.x,int i64 y.y,int i64 y.D]);have g:Below w w ((((w.alloc (.cells #[(some (M,0),x.i,c1),(Q,x.l,c2),(some (gb,0),x.g,c3)] 38)).alloc (.cells #[y.d,y.j1,int i64 ((m:Int)+1),(H,y.c,R),y.v,y.f,y.j,y.w,y.h,y.x,y.y,y.D] 47)).alloc (.cells #[True,True,True] 38)).alloc (.cells #[(),(),(),True] 41)):=zd (zd (zd (zd bZ _) _) _) _;clear hk e0 d6 a6 hT h5 p eE S b0 d4 b8 b9;go_enter func111,ntmps111;go_upto_region 1 with fail;generalize (((w.alloc _).alloc _).alloc _).alloc _=U at d g ⊢;have hr:∀ r,r<13->U.cell? ⟨gb,m*13+r,_⟩=_:=λr hr=>by rw[zs (a0.j0 g).u.row _ oM rfl,zO 13 _ m r hr]
 rw[e1.out] at hr;have c0:U.cell? ⟨gb,m*13,_⟩=some (.int _ _):=hr 0 dC;have c1:U.cell? _=some (.int _ _):=hr 1 dC;have c2:U.cell? _=some (.string _):=hr 2 dC;have c3:U.cell? _=some (.slice _ _ s):=hr 3 dC;have c4:U.cell? _=some (.int _ _):=hr 4 dC;have c5:U.cell? _=some (.int _ _):=hr 5 dC;have c6:U.cell? _=some (.int _ _):=hr 6 dC;have c7:U.cell? _=some (.int _ _):=hr 7 dC;have c8:U.cell? _=some (.bool _):=hr 8 dC;have c9:U.cell? _=some (.int _ _):=hr 9 dC;have e7:U.cell? _=some (.int _ _):=hr 10 dC;have e8:U.cell? _=some (.int _ _):=hr 11 dC;have e9:U.cell? _=some (.int _ _):=hr 12 dC;have o0:=bC d.bp 0;have o2:=bC d.bp 2;have q2:=bC d.bo 2;have bX:=Jb U (.cells (b,some (lb,0),s) 150);have a9:=Kv bX;have d0:=zD d.ba;replace d:=hI (d.j0 a9);replace g:=zb g a9;go_upto_region 13 with fail;generalize U.alloc _=Y at bX d g ⊢;generalize U.heap.size=bx at bX d0 ⊢;clear hr a9 o0 o2 q2 c0 c1 c2 c3 c4 c5 c6 c7 c8 c9 e7 e8 e9;replace d:=hI (d.j0 (Ji _ Y).drew);have j:=hI (zK bX);replace g:=g.drew;clear bX;refine qt 12 12 (λu=>u.cell? _=some (.slice _ _ c1)/\u.cell? _=some (.slice _ _ s)/\u.cell? _=_) rfl kR ⟨bC d.bo 0,bC j.out 3,b4.out _ g⟩ (λW=>?_)
 simp only[List.replicate_succ,List.replicate_zero];generalize Y.drew=u0 at d j g W ⊢
 iterate 6 refine QD 0 ?_
 refine Ay 6 λK I=>?_
 go_simp;go_at_call 198;refine Jm (AY _ _ c1 _ _ u0 g4 (e5.out _ g)) ?_;rintro e u1 ⟨a5,k⟩;replace a5:e=.returned (.tuple #[int i64 (k0:Int),.bool true]):=by
  rw[b3.out] at a5
  rcases a5 with⟨_,q⟩|⟨q,_⟩
  ·exact q
  ·omega
 subst a5;dsimp only;replace d:=hI (d.j0 k);replace j:=hI (za j.out k);replace g:=zb g k;refine I.out _ _ ⟨bC d.bo 0,bC j.out 3,b4.out _ g⟩ (λW=>?_)
 clear I K k;simp only[sZ,sS]
 iterate 5 refine QD 7 ?_
 refine qh kR ?_ _;go_upto_region 14 with fail;replace d:=hI (d.j0 (Ji _ u1).drew);replace j:=hI (zK j.out);replace g:=g.drew;refine qt 11 11 (λu=>u.cell? _=some (.slice _ _ c3)/\u.cell? _=some (.int _ _)/\u.cell? _=some (.string _)/\u.cell? _=some (.int _ _)/\u.cell? _=some (.slice H _ R)/\u.cell? _=some (.int _ _)/\u.cell? _=some (.int _ _)/\u.cell? _=some (.int _ _)/\u.cell? _=some (.int _ _)/\u.cell? _=some (.bool _)/\u.cell? _=some (.int _ _)/\u.cell? _=some (.int _ _)/\u.cell? _=some (.int _ _)/\u.cell? _=some (.int _ _)/\u.cell? _=some (.int _ _)/\u.cell? _=some (.string _)/\u.cell? _=some (.slice _ _ s)/\u.cell? _=some (.int _ _)/\u.cell? _=some (.int _ _)/\u.cell? _=some (.int _ _)/\u.cell? _=some (.int _ _)/\u.cell? _=some (.bool _)/\u.cell? _=some (.int _ _)/\u.cell? _=some (.int _ _)/\u.cell? _=some (.int _ _)/\u.cell? _=some (.int _ _)) rfl kR (⟨bC d.bo 2,bC d.bp 0,bC d.bp 1,bC d.bp 2,bC d.bp 3,bC d.bp 4,bC d.bp 5,bC d.bp 6,bC d.bp 7,bC d.bp 8,bC d.bp 9,bC d.bp 10,bC d.bp 11,bC j.out 0,bC j.out 1,bC j.out 2,bC j.out 3,bC j.out 4,bC j.out 5,bC j.out 6,bC j.out 7,bC j.out 8,bC j.out 9,bC j.out 10,bC j.out 11,bC j.out 12⟩) (λW=>?_)
 simp only[List.replicate_succ,List.replicate_zero];generalize u1.drew=u2 at d j g W ⊢
 iterate 8 refine QD 0 ?_
 refine Ay 8 λK I=>?_
 go_simp;go_at_call 205;refine Jm (X.out u2 G (by rw[b1.out];exact b2.out) g) ?_
 rintro e u3 ⟨⟨la,lc,rfl,d7⟩,k⟩;dsimp only;have F:=hI (SO k (a0.j0 g) (Jp a4 g.size) J e4.out (by rw[← b1.out];exact d7))
 have f:Hid _:=((a0.j0 g).j0 k).u.row;replace d:=hI (d.j0 k);replace j:=hI (za j.out k);replace g:=zb g k;refine I.out _ _ (⟨bC d.bo 2,bC d.bp 0,bC d.bp 1,bC d.bp 2,bC d.bp 3,bC d.bp 4,bC d.bp 5,bC d.bp 6,bC d.bp 7,bC d.bp 8,bC d.bp 9,bC d.bp 10,bC d.bp 11,bC j.out 0,bC j.out 1,bC j.out 2,bC j.out 3,bC j.out 4,bC j.out 5,bC j.out 6,bC j.out 7,bC j.out 8,bC j.out 9,bC j.out 10,bC j.out 11,bC j.out 12⟩) (λW=>?_)
 clear I K k d7;simp only[sZ,sS];refine QD 9 ?_;have N:=hI (Gd u3 gb m (int i64 G.k) (int i64 G.e) (.string G.j1) (.slice la G.c lc) (int i64 G.v) (int i64 G.f) (int i64 G.j) (int i64 G.w) (.bool G.h) (int i64 G.x) (int i64 G.C) (int i64 G.y) (int i64 G.j2));have a:Hid (Cp w _ _ _ _ _):=⟨N.blk d.bo (by show _;omega),N.blk d.bp (by show _;omega),N.blk d.br (by show _;omega),N.blk d.ba (by show _;omega)⟩
 have c:Hid _:=N.blk j.out (show ¬ bx=gb by omega)
 have t:=hI ((zl.of_below g).trans N.out);obtain⟨v0,o0⟩:∃ v,u3.cell? ⟨gb,_+0,_⟩=some v:=⟨_,zT f.out J dC⟩;have f0:=Jn f.out (m*13);obtain⟨v1,o1⟩:∃ v,u3.cell? ⟨gb,_+1,_⟩=some v:=⟨_,zT f.out J dC⟩;have f1:=Jn f.out (m*13+1);obtain⟨v2,o2⟩:∃ v,u3.cell? ⟨gb,_+2,_⟩=some v:=⟨_,zT f.out J dC⟩;have f2:=Jn f.out (m*13+2);obtain⟨v3,o3⟩:∃ v,u3.cell? ⟨gb,_+3,_⟩=some v:=⟨_,zT f.out J dC⟩;have f3:=Jn f.out (m*13+3);obtain⟨v4,o4⟩:∃ v,u3.cell? ⟨gb,_+4,_⟩=some v:=⟨_,zT f.out J dC⟩;have f4:=Jn f.out (m*13+4);obtain⟨v5,o5⟩:∃ v,u3.cell? ⟨gb,_+5,_⟩=some v:=⟨_,zT f.out J dC⟩;have f5:=Jn f.out (m*13+5);obtain⟨v6,o6⟩:∃ v,u3.cell? ⟨gb,_+6,_⟩=some v:=⟨_,zT f.out J dC⟩;have f6:=Jn f.out (m*13+6);obtain⟨v7,o7⟩:∃ v,u3.cell? ⟨gb,_+7,_⟩=some v:=⟨_,zT f.out J dC⟩;have f7:=Jn f.out (m*13+7);obtain⟨v8,o8⟩:∃ v,u3.cell? ⟨gb,_+8,_⟩=some v:=⟨_,zT f.out J dC⟩;have f8:=Jn f.out (m*13+8);obtain⟨v9,o9⟩:∃ v,u3.cell? ⟨gb,_+9,_⟩=some v:=⟨_,zT f.out J dC⟩;have f9:=Jn f.out (m*13+9);obtain⟨i3,g5⟩:∃ v,u3.cell? ⟨gb,_+10,_⟩=some v:=⟨_,zT f.out J dC⟩;have g1:=Jn f.out (m*13+10);obtain⟨i4,g6⟩:∃ v,u3.cell? ⟨gb,_+11,_⟩=some v:=⟨_,zT f.out J dC⟩;have g2:=Jn f.out (m*13+11);obtain⟨i5,g7⟩:∃ v,u3.cell? ⟨gb,_+12,_⟩=some v:=⟨_,zT f.out J dC⟩;have g3:=Jn f.out (m*13+12);rw[Nat.add_zero] at o0;refine Ay 10 λK I=>?_
 go_simp;have O:=a.out;have P:=c.out;unfold KL at O P;refine I.out _ _ (⟨bC O.bo 2,bC O.bp 0,bC O.bp 1,bC O.bp 2,bC O.bp 3,bC O.bp 4,bC O.bp 5,bC O.bp 6,bC O.bp 7,bC O.bp 8,bC O.bp 9,bC O.bp 10,bC O.bp 11,bC P 0,bC P 1,bC P 2,bC P 3,bC P 4,bC P 5,bC P 6,bC P 7,bC P 8,bC P 9,bC P 10,bC P 11,bC P 12⟩) (λW=>?_)
 clear I K O P o0 f0 o1 f1 o2 f2 o3 f3 o4 f4 o5 f5 o6 f6 o7 f7 o8 f8 o9 f9 g5 g1 g6 g2 g7 g3;simp only[sZ,sS];refine qh kR ?_ _;unfold KL at F a c t;generalize ((((((((((((u3.setCell _ _).setCell _ _).setCell _ _).setCell _ _).setCell _ _).setCell _ _).setCell _ _).setCell _ _).setCell _ _).setCell _ _).setCell _ _).setCell _ _).setCell _ _=U4 at F a c t ⊢;clear d j g N f a0 X;go_upto_region 15 with fail;replace a:=hI (a.j0 (Ji _ U4).drew);replace F:=hI (F.j0 (Ji _ U4).drew);replace c:=hI (zK c.out);replace t:=hI (t.trans (zl.of_below (Ji _ U4).drew));have T:Hid (∀ z,Below _ _ z->z.cell? _=some (.int _ (x.G k0).O)):=λz hz=>by
  have h:=zs (F.j0 hz).G.row (k0*8+3) oM rfl;rw[h];unfold qz;rw[Je oM,Je oM,Je oM,Jf oM,show(k0*8+3) / 8=k0 by omega]
 refine qt 15 15 (λu=>u.cell? _=some (.slice _ _ c1)/\u.cell? _=some (.slice Q _ c2)/\u.cell? _=some (.slice _ _ c3)/\u.cell? _=some (.int _ _)/\u.cell? _=some (.string _)/\u.cell? _=some (.int _ _)/\u.cell? _=some (.slice H _ R)/\u.cell? _=some (.int _ _)/\u.cell? _=some (.int _ _)/\u.cell? _=some (.int _ _)/\u.cell? _=some (.int _ _)/\u.cell? _=some (.bool _)/\u.cell? _=some (.int _ _)/\u.cell? _=some (.int _ _)/\u.cell? _=some (.int _ _)/\u.cell? _=some (.int _ _)/\u.cell? _=some (.int _ _)/\u.cell? _=some (.string _)/\u.cell? _=some (.slice _ _ s)/\u.cell? _=some (.int _ _)/\u.cell? _=some (.int _ _)/\u.cell? _=some (.int _ _)/\u.cell? _=some (.int _ _)/\u.cell? _=some (.bool _)/\u.cell? _=some (.int _ _)/\u.cell? _=some (.int _ _)/\u.cell? _=some (.int _ _)/\u.cell? _=some (.int _ _)/\u.cell? _=_) rfl kR (⟨bC a.bo 0,bC a.bo 1,bC a.bo 2,bC a.bp 0,bC a.bp 1,bC a.bp 2,bC a.bp 3,bC a.bp 4,bC a.bp 5,bC a.bp 6,bC a.bp 7,bC a.bp 8,bC a.bp 9,bC a.bp 10,bC a.bp 11,bC c.out 0,bC c.out 1,bC c.out 2,bC c.out 3,bC c.out 4,bC c.out 5,bC c.out 6,bC c.out 7,bC c.out 8,bC c.out 9,bC c.out 10,bC c.out 11,bC c.out 12,T.out _ bZ⟩) (λW=>?_)
 simp only[List.replicate_succ,List.replicate_zero];generalize U4.drew=u5 at a c F t T W ⊢
 iterate 11 refine QD 0 ?_
 refine Ay 11 λK I=>?_
 go_simp;go_at_call 206;refine Jm (a1.out u5 (zl.j0 bZ a4 t.out (λb e=>by rw[show _ from e];exact d5))) ?_
 rintro e u6 ⟨rfl,k⟩;dsimp only;replace a:=hI (a.j0 k);replace F:=hI (F.j0 k);replace c:=hI (za c.out k);replace t:=hI (t.trans (zl.of_below k));replace T:=hI (T.out u6 k);refine I.out _ _ (⟨bC a.bo 0,bC a.bo 1,bC a.bo 2,bC a.bp 0,bC a.bp 1,bC a.bp 2,bC a.bp 3,bC a.bp 4,bC a.bp 5,bC a.bp 6,bC a.bp 7,bC a.bp 8,bC a.bp 9,bC a.bp 10,bC a.bp 11,bC c.out 0,bC c.out 1,bC c.out 2,bC c.out 3,bC c.out 4,bC c.out 5,bC c.out 6,bC c.out 7,bC c.out 8,bC c.out 9,bC c.out 10,bC c.out 11,bC c.out 12,T.out⟩) (λW=>?_)
 clear I K k;simp only[sZ,sS];refine QD 12 ?_;have d:=a;have n:Hid _:=(QZ u6 (w.heap.size+1+1) (.slice (some ⟨M,0,none⟩) x.i c1) (.slice Q x.l c2) (.slice (some ⟨gb,0,none⟩) x.g c3)).blk c.out (show ¬ bx=w.heap.size+1+1 by omega)
 have o:Hid _:=(Q0 (zW u6 (w.heap.size+1+1) (.slice (some ⟨M,0,none⟩) x.i c1) (.slice Q x.l c2) (.slice (some ⟨gb,0,none⟩) x.g c3)) (w.heap.size+1+1+1) (int i64 0) (int i64 ((m:Int)+1)) (int i64 td) (.slice none 0 0)).blk n.out (show ¬ bx=w.heap.size+1+1+1 by omega)
 have b6:=hI (F.box (QZ u6 _ (.slice (some ⟨M,0,none⟩) x.i c1) (.slice Q x.l c2) (.slice (some ⟨gb,0,none⟩) x.g c3)) d.br dC);have b7:=hI (b6.box (Q0 _ _ (int i64 0) (int i64 ((m:Int)+1)) (int i64 td) (.slice none 0 0)) (d.fin _ _ _ (int i64 0) (int i64 ((m:Int)+1)) (int i64 td) (.slice none 0 0)).2.2.2.2.1 dC);have e2:Hid ((zW u6 (w.heap.size+1+1) (.slice (some ⟨M,0,none⟩) x.i c1) (.slice Q x.l c2) (.slice (some ⟨gb,0,none⟩) x.g c3)).cell? ⟨M,k0*8+3,none⟩=some (int i64 (x.G k0).O)):=by
  have h:=zs b6.G.row (k0*8+3) oM rfl;refine h.trans ?_;unfold qz;rw[Je oM,Je oM,Je oM,Jf oM,show(k0*8+3) / 8=k0 by omega]
 have e3:Hid ((Zg (zW u6 (w.heap.size+1+1) (.slice (some ⟨M,0,none⟩) x.i c1) (.slice Q x.l c2) (.slice (some ⟨gb,0,none⟩) x.g c3)) (w.heap.size+1+1+1) (int i64 0) (int i64 ((m:Int)+1)) (int i64 td) (.slice none 0 0)).cell? ⟨M,k0*8+3,none⟩=some (int i64 (x.G k0).O)):=by
  have h:=zs b7.G.row (k0*8+3) oM rfl;refine h.trans ?_;unfold qz;rw[Je oM,Je oM,Je oM,Jf oM,show(k0*8+3) / 8=k0 by omega]
 have Z:=hI (d.fin (.slice (some ⟨M,0,none⟩) x.i c1) (.slice Q x.l c2) (.slice (some ⟨gb,0,none⟩) x.g c3) (int i64 0) (int i64 ((m:Int)+1)) (int i64 td) (.slice none 0 0));obtain⟨r0,r1,r2⟩:=ZE d.br;obtain⟨f0,f1,f2⟩:=FM d.br;refine Ay 13 λK I=>?_
 go_simp;have i:=Z.2.2;unfold zW at i;refine I.out _ _ (⟨bC i.1 0,bC i.1 1,bC i.1 2,bC i.2.1 0,bC i.2.1 1,bC i.2.1 2,bC i.2.1 3,bC i.2.1 4,bC i.2.1 5,bC i.2.1 6,bC i.2.1 7,bC i.2.1 8,bC i.2.1 9,bC i.2.1 10,bC i.2.1 11,bC (by have h:=n.out;unfold zW at h;exact h) 0,bC (by have h:=n.out;unfold zW at h;exact h) 1,bC (by have h:=n.out;unfold zW at h;exact h) 2,bC (by have h:=n.out;unfold zW at h;exact h) 3,bC (by have h:=n.out;unfold zW at h;exact h) 4,bC (by have h:=n.out;unfold zW at h;exact h) 5,bC (by have h:=n.out;unfold zW at h;exact h) 6,bC (by have h:=n.out;unfold zW at h;exact h) 7,bC (by have h:=n.out;unfold zW at h;exact h) 8,bC (by have h:=n.out;unfold zW at h;exact h) 9,bC (by have h:=n.out;unfold zW at h;exact h) 10,bC (by have h:=n.out;unfold zW at h;exact h) 11,bC (by have h:=n.out;unfold zW at h;exact h) 12,(by have h:=e2.out;unfold zW at h;exact h)⟩) (λW=>?_)
 clear I K r0 f0 r1 f1 r2 f2;simp only[sZ,sS];obtain⟨r0,r1,r2,r3⟩:=Qk i.2.2.1;obtain⟨f0,f1,f2,f3⟩:=EV i.2.2.1;refine Ay 14 λK I=>?_
 go_simp;have l:=Z.2.2.2.2.2;unfold Zg zW at l;refine I.out _ _ (⟨bC l.1 0,bC l.1 1,bC l.1 2,bC l.2.1 0,bC l.2.1 1,bC l.2.1 2,bC l.2.1 3,bC l.2.1 4,bC l.2.1 5,bC l.2.1 6,bC l.2.1 7,bC l.2.1 8,bC l.2.1 9,bC l.2.1 10,bC l.2.1 11,bC (by have h:=o.out;unfold Zg zW at h;exact h) 0,bC (by have h:=o.out;unfold Zg zW at h;exact h) 1,bC (by have h:=o.out;unfold Zg zW at h;exact h) 2,bC (by have h:=o.out;unfold Zg zW at h;exact h) 3,bC (by have h:=o.out;unfold Zg zW at h;exact h) 4,bC (by have h:=o.out;unfold Zg zW at h;exact h) 5,bC (by have h:=o.out;unfold Zg zW at h;exact h) 6,bC (by have h:=o.out;unfold Zg zW at h;exact h) 7,bC (by have h:=o.out;unfold Zg zW at h;exact h) 8,bC (by have h:=o.out;unfold Zg zW at h;exact h) 9,bC (by have h:=o.out;unfold Zg zW at h;exact h) 10,bC (by have h:=o.out;unfold Zg zW at h;exact h) 11,bC (by have h:=o.out;unfold Zg zW at h;exact h) 12,(by have h:=e3.out;unfold Zg zW at h;exact h)⟩) (λW=>?_)
 clear I K r0 f0 r1 f1 r2 f2 r3 f3 i l;simp only[sZ,sS];refine qh kR ?_ _;go_wp2;have Z3:=Z.1;have Z4:=Z.2.1;unfold Zg zW at Z3 Z4;obtain⟨z0,z1,z2⟩:=ZE Z3;obtain⟨t0,t1,t2,t3⟩:=Qk Z4;have b5:=kt t.out (.slice (some ⟨M,0,none⟩) x.i c1) (.slice Q x.l c2) (.slice (some ⟨gb,0,none⟩) x.g c3) (int i64 0) (int i64 ((m:Int)+1)) (int i64 td) (.slice none 0 0);have a7:=b7.out;rw[b2.out] at a7;unfold Zg zW at b5 a7;exact Jj (v:=.tuple #[.agg #[.slice (some ⟨M,0,none⟩) x.i c1,.slice Q x.l c2,.slice (some ⟨gb,0,none⟩) x.g c3],.agg #[int i64 0,int i64 ((m:Int)+1),int i64 td,.slice none 0 0]]) (by simp[results,results111,go_sem,z0,z1,z2,t0,t1,t2,t3]) rfl ⟨⟨_,by rw[e6.out],a7⟩,b5⟩
/-- The operation is good, and its legs don't fit. -/
theorem Ht (x:qD)(j:Option Addr)(l:Nat)(a:Option Addr)(n c:Nat)(S:Nat->qe)(k:Nat)(w:World)(N:qD.Is w [x.d,x.j1,x.k,(j,x.c,l),x.v,x.f,x.j,x.w,x.h,x.x,x.y,x.D] x)(hs:x.j1.size<=1000000000000000)(H:Ze w)(pe:Nat->Addr)(J:qI w pe)(q:QE x)(K:x.d=(k:Int))(B:k<10)(L:ZL k≠0)(hn:n<=1048576)(hm:x.c<=1048576)(I:Qz n S 1048576)(r:qy w a n S)(p:zS w j x.c x.J)(i:¬ (At n S/\Q6 n S x.c x.J)) :
  Calls prog 106 #[(a,n,c),.agg (x,j,l)] w λe w'=>e=.panicked [{ v:=.iface 96 (.agg #[.iface 391 (.pointer (some (pe 2)))]),recovered:=false }]/\Below w w w':=by
 have d:Below _ w (w.alloc (.cells (x,j,l) 47)):=zd bZ _;have b:=Jb w (.cells (x,j,l) 47);have HX:Hid (∀ w',_->qD.Is w' _ x):=λ_ h=>N.j0 h
 have F:Hid (∀ w',_->Ze w'):=λ_ h=>H.j0 h
 have s:=qI.j0 J d;have Z:=hI (Jd q);have Y:=hI K;have u:=hI i;have z:Hid (∀ w',_->qy w' a n S):=λ_ h=>r.j0 h
 have y:Hid (∀ w',_->zS w' j _ _):=λ_ h=>p.j0 h
 have A:=hI I;have e0:(ZL k == 0)=false:=by simpa using L
 clear N H J q K i r p I L;go_enter func106,ntmps106;go_upto_region 1 with fail;generalize w.alloc _=W at d b s ⊢;have a0:=zD b;have m:=F W d;have U:=gC b 0;have z1:=gC b 1;have z2:=gC b 2;have X:=gC b 3;have z4:=gC b 4;have z5:=gC b 5;have z6:=gC b 6;have z7:=gC b 7;have z8:=gC b 8;have z9:=gC b 9;have D:=gC b 10;have E:=gC b 11;have g1:∀ g:zy W,_:=λg=>(qI.j0 s g.o).c1
 have G:∀ g:zy W,_:=λg=>(qI.j0 s g.o).c2
 have T:∀ g:zy W,_:=λg=>((m.j0 g.o) k B).2.2.1
 have a1:=n0 k;have a2:(k:Int)<10:=oM;clear s m;refine ze kR kR ?_
 repeat(go_big_quiet_step ((rename_i g;first|(go_at_call 194;refine zr (v:=.bool true) ((EC _ x _ hs (HX _ (zb d g.o)) (F _ (zb d g.o))).mono ?_);rw[Z.out];exact λ_ _ h=>h)|(go_at_call 193;refine gE (v:=.tuple #[]) (ZO _ _) rfl))))
 refine Jl ?_;rintro _ ⟨g,rfl⟩;have b1:=za b g.o;have f:=zb d g.o;have u0:∀ h:zy _,h.val.cell? _=some (.int _ (k:Int)):=λh=>by rw[← Y.out];exact U ⟨_,zb g.o h.o⟩
 have u2:∀ h:zy _,h.val.cell? _=_:=λh=>T ⟨_,zb g.o h.o⟩
 have v2:∀ h:zy _,h.val.cell? _=_:=λh=>G ⟨_,zb g.o h.o⟩
 have u3:∀ h:zy _,h.val.cell? _=_:=λh=>X ⟨_,zb g.o h.o⟩
 clear U z1 z2 X z4 z5 z6 z7 z8 z9 D E T g1 G;have O:=u0 ⟨_,bZ⟩;have Q:=u2 ⟨_,bZ⟩;have R:=u3 ⟨_,bZ⟩;have t:=v2 ⟨_,bZ⟩;dsimp only at O Q R t;clear u0 u2 u3 v2;go_upto_region 2 with fail;generalize g.val=V at O Q R t f ⊢;have C:2<V.heap.size:=Ja _ _ t;go_region_with (first|(go_at_call 195;refine(Q9 a j n _ c l S _ _ hn hm A (z _ f.drew) (y _ f.drew)).mono ?_;rintro e w2 ⟨⟨v,rfl,M⟩,o⟩;obtain rfl:=Bool.eq_false_iff.2 (λh=>u (M.1 h));clear M;have g5:=(o.cell C).trans t)|(go_at_call 193;refine(AK _ _ _).mono ?_;rintro e w3 ⟨rfl,rfl⟩;refine Hs (P:=prog) (a:=⟨#[],[]⟩) (w:=w) ?_))
 all_goals exact⟨rfl,rfl,zb f.drew o⟩
/-- The operation is good, and its legs fit. -/
theorem Kf (x:qD)(i:Option Addr)(l:Nat)(a:Option Addr)(n c:Nat)(S:Nat->qe)(k:Nat)(w:World)(K:qD.Is w [x.d,x.j1,x.k,(i,x.c,l),x.v,x.f,x.j,x.w,x.h,x.x,x.y,x.D] x)(Z:x.j1.size<=1000000000000000)(F:Ze w)(pe:Nat->Addr)(H:qI w pe)(p:QE x)(I:x.d=(k:Int))(A:k<10)(J:ZL k≠0)(Y:n<=1048576)(X:x.c<=1048576)(G:Qz n S 1048576)(q:qy w a n S)(o:zS w i x.c x.J)(f:At n S/\Q6 n S x.c x.J) :
  Calls prog 106 #[(a,n,c),.agg (x,i,l)] w λe w'=>e=.returned (.tuple #[])/\Below w w w':=by
 have d:Below _ w (w.alloc (.cells (x,i,l) 47)):=zd bZ _;have b:=Jb w (.cells (x,i,l) 47);have Q:Hid (∀ w',_->qD.Is w' _ x):=λ_ h=>K.j0 h
 have D:Hid (∀ w',_->Ze w'):=λ_ h=>F.j0 h
 have r:=qI.j0 H d;have P:=hI (Jd p);have O:=hI I;have s:=hI f;have u:Hid (∀ w',_->qy w' a n S):=λ_ h=>q.j0 h
 have t:Hid (∀ w',_->zS w' i _ _):=λ_ h=>o.j0 h
 have y:=hI G;have e0:(ZL k == 0)=false:=by simpa using J
 clear K F H p I f q o G J;go_enter func106,ntmps106;go_upto_region 1 with fail;generalize w.alloc _=W at d b r ⊢;have T:=zD b;have m:=D W d;have M:=gC b 0;have z1:=gC b 1;have z2:=gC b 2;have N:=gC b 3;have z4:=gC b 4;have z5:=gC b 5;have z6:=gC b 6;have z7:=gC b 7;have z8:=gC b 8;have z9:=gC b 9;have B:=gC b 10;have C:=gC b 11;have R:∀ g:zy W,_:=λg=>(qI.j0 r g.o).c1
 have E:∀ g:zy W,_:=λg=>(qI.j0 r g.o).c2
 have L:∀ g:zy W,_:=λg=>((m.j0 g.o) k A).2.2.1
 have U:=n0 k;have V:(k:Int)<10:=oM;clear r m;refine ze kR kR ?_
 repeat(go_big_quiet_step ((rename_i g;first|(go_at_call 194;refine zr (v:=.bool true) ((EC _ x _ Z (Q _ (zb d g.o)) (D _ (zb d g.o))).mono ?_);rw[P.out];exact λ_ _ h=>h)|(go_at_call 193;refine gE (v:=.tuple #[]) (ZO _ _) rfl))))
 refine Jl ?_;rintro _ ⟨g,rfl⟩;have b1:=za b g.o;have j:=zb d g.o;have u0:∀ h:zy _,h.val.cell? _=some (.int _ (k:Int)):=λh=>by rw[← O.out];exact M ⟨_,zb g.o h.o⟩
 have u2:∀ h:zy _,h.val.cell? _=_:=λh=>L ⟨_,zb g.o h.o⟩
 have v2:∀ h:zy _,h.val.cell? _=_:=λh=>E ⟨_,zb g.o h.o⟩
 have u3:∀ h:zy _,h.val.cell? _=_:=λh=>N ⟨_,zb g.o h.o⟩
 clear M z1 z2 N z4 z5 z6 z7 z8 z9 B C L R E;go_upto_region 2 with fail;refine ze kR kR ?_
 repeat(first|go_big_quiet_skip|(go_big_quiet_want;go_big_quiet_op;first|go_big_quiet_on|(apply Jg;refine⟨λh=>?_,?_⟩;(focus(go_at_call 195;refine zr (v:=.bool true) ((Q9 a i n _ c l S _ _ Y X y (u _ (zb j h.o)) (t _ (zb j h.o))).mono ?_);rintro e w2 ⟨⟨v,rfl,hv⟩,z⟩;exact⟨by rw[hv.2 s.out],z⟩));go_big_quiet_on)|(apply Jg;refine⟨λg=>?_,?_⟩;(focus(go_at_call 193;refine gE (v:=.tuple #[]) (ZO _ _) rfl));go_big_quiet_on)))
 refine Jl ?_;rintro _ ⟨h,rfl⟩;go_end0;exact⟨rfl,zb j h.o⟩
theorem EE {e sz n:Nat}{f:Option Addr}{a:List Value}(h:w.ownsRow base e sz (f,n,c) n a):Cb w f a:=by
 intro ad k j u d;subst k;have i:j<a.length:=by
  rcases Nat.lt_or_ge j a.length with h1|h1
  ·exact h1
  ·rw[List.getElem?_eq_none h1] at d;cases d
 have l:0<n:=by
  rcases Nat.eq_zero_or_pos n with b|b
  ·rw[h.1,b,Nat.zero_mul] at i;omega
  ·exact b
 obtain⟨g,e,_,_⟩:=qr h l
 cases e
 rw[Addr.add_lit,Nat.zero_add,h.cellAt j (by rw[← h.1];exact i),d]
def mx (x:zY)(y:qD)(m:Nat):List Wk:=if QH y.d then Za true (x.u m).e ⟨(x.u m).v,(x.u m).f,(x.u m).j,(x.u m).w,(x.u m).h,(x.u m).x⟩ (x.u m).J (x.u m).c else []
theorem kv (x:zY)(y:qD)(m:Nat)(h:QH y.d->(x.u m).c<=3):(mx x y m).length<=9:=by
 unfold mx
 split
 ·rename_i c
  have:=QL true (x.u m).e ⟨(x.u m).v,(x.u m).f,(x.u m).j,(x.u m).w,(x.u m).h,(x.u m).x⟩ (x.u m).J (x.u m).c;have:=h c
  omega
 ·exact Jq _
theorem Mv (x:zY)(O:Option Addr)(a6:Nat)(c:Int)(y:qD)(o:Option Addr)(u k m:Nat)(w:World)(hF:Ze w)(hk:y.d=(k:Int))(Y:k<10)(Q:qL w O x.g x.u)
  (I:QH y.d->y.k=(m:Int)+1/\m<x.g/\(x.u m).c<=3/\ge ⟨(x.u m).v,(x.u m).f,(x.u m).j,(x.u m).w,(x.u m).h,(x.u m).x⟩) (X:zM y.d->y.c<=3/\ge ⟨y.v,y.f,y.j,y.w,y.h,y.x⟩) (hl:zS w o y.c y.J) (a9:x.g<=1048576) :
  Calls prog 109 #[(O,x.g,a6),c,.agg (y,o,u)] w λe w'=>(∃ v,e=.returned v/\w'.ownsRow w 268 10 v (qB x c y m).length (DM (qB x c y m)))/\Below w w w':=by
 have HF:=hI hF;have HK:=hI hk;have HB:=hI Q;have A:Hid (Dp k=true->_/\_):=λh=>by
  have h2:=by simpa [Dp] using h
  have h3:QH y.d:=by unfold QH;omega
  exact⟨h3,I h3⟩
 have B:Hid (Dp k=false->¬ QH y.d):=λh h3=>by
  have h2:¬ (k=5∨k=6∨k=8):=by simpa [Dp] using h
  unfold QH at h3
  omega
 have E:Hid (QI k=true->_/\_):=λh=>by
  have h2:=by simpa [QI] using h
  have h3:zM y.d:=by unfold zM;omega
  exact⟨h3,X h3⟩
 have C:Hid (QI k=false->¬ zM y.d):=λh h3=>by
  have h2:¬ (k=1∨k=2∨k=3∨k=5):=by simpa [QI] using h
  unfold zM at h3
  omega
 have N:=hI (kv x y m (λh=>(I h).2.2.1))
 have HI:=hI hl;clear hF hk Q I X hl;have b0:=n0 k;have b1:(k:Int)<10:=oM;have a:Below _ w (w.alloc (.cells (y,o,u) 47)):=zd bZ _;have K:=Qc a;go_enter func109,ntmps109;go_upto_region 2 with fail;generalize w.alloc _=V at a K ⊢;have y0:V.cell? (w.heap.size,0)=some (k:Int):=by rw[← HK.out];exact bC K 0
 have t6:=((HF.j0 a) k Y).2.2.2.2.2.2;go_upto_if 13 with fail;clear y0 t6;go_cut [7] (λs7 wx=>wx.ownsRow w 268 10 s7 (mx x y m).length (DM (mx x y m))/\wx.heap[w.heap.size]?=some (.cells (y,o,u) 47 (0,0))/\Below w w wx)
 case first =>
  obtain⟨fb,S⟩:=nM (Dp k);rw[← S] at A B ⊢;clear S
  cases fb with
  |false =>
   have HG:Hid (mx x y m=[]):=Je (B rfl);go_wp2;go_meet;exact⟨by rw[HG.out];exact World.ownsRow_nil _ _ _ _,K,a⟩
  |true =>
   obtain⟨h1,h2,h3,h4,h5⟩:=A rfl;have HG:Hid (mx x y m=_):=Jf h1;obtain⟨D,hD,hJ⟩:=HB;obtain⟨bb,bo,rfl,j⟩:=hD m h3;obtain⟨b,H⟩:=nM (x.u m);obtain⟨r,q,i,J,a1⟩:=hJ m h3;rw[← H] at i J a1 HG h4 h5;have a8:=hI H;have a2:=hI J;have z:=hI h5;have d:bb<w.heap.size:=Ja w _ (j 0 dC);have y2:V.cell? (w.heap.size,2)=some (int i64 ((m:Int)+1)):=by rw[← h2];exact bC K 2
   clear h2;have b4:IntKind.i64.wrap ((m:Int)+1 - 1)=(m:Int):=by rw[Jk];omega
   have i0:=n0 m;have i1:(m:Int)<(x.g:Int):=oM;have c0:V.cell? _=some (.int _ _):=(a.cell (p:=⟨bb,bo+_,_⟩) d).trans (rC i (j 0 dC));have c1:V.cell? _=some (.int _ _):=(a.cell d).trans (rC i (j 1 dC));have c2:V.cell? _=some (.string _):=(a.cell d).trans (rC i (j 2 dC));have c3:V.cell? _=some (.slice r _ q):=(a.cell d).trans (rC i (j 3 dC));have c4:V.cell? _=some (.int _ _):=(a.cell d).trans (rC i (j 4 dC));have c5:V.cell? _=some (.int _ _):=(a.cell d).trans (rC i (j 5 dC));have c6:V.cell? _=some (.int _ _):=(a.cell d).trans (rC i (j 6 dC));have c7:V.cell? _=some (.int _ _):=(a.cell d).trans (rC i (j 7 dC));have c8:V.cell? _=some (.bool _):=(a.cell d).trans (rC i (j 8 dC));have c9:V.cell? _=some (.int _ _):=(a.cell d).trans (rC i (j 9 dC));have a3:V.cell? _=some (.int _ _):=(a.cell d).trans (rC i (j 10 dC));have a4:V.cell? _=some (.int _ _):=(a.cell d).trans (rC i (j 11 dC));have a5:V.cell? _=some (.int _ _):=(a.cell d).trans (rC i (j 12 dC));clear hD hJ j i H J a1 h5;have t:=Jb V (.cells (b,r,q) 150);have g:=zd a (.cells (b,r,q) 150);have f:=zg K (.cells (b,r,q) 150);go_upto_region 4 with fail;generalize V.alloc _=V1 at t g f ⊢;generalize V.heap.size=bx at t ⊢;clear c0 c1 c2 c3 c4 c5 c6 c7 c8 c9 a3 a4 a5 y2;have e1:=bC t 1;have e3:=bC t 3;have e4:=bC t 4;have e5:=bC t 5;have e6:=bC t 6;have e7:=bC t 7;have e8:=bC t 8;have e9:=bC t 9;go_wp2_with fail;clear e1 e3 e4 e5 e6 e7 e8 e9;refine(Ix r _ q _ _ _ _ _ h4 z (a2.j0 g)).mono ?_;rintro e W ⟨⟨v,rfl,L⟩,n⟩;go_wp2;go_meet;rw[HG.out];exact⟨zo L g.size,za f n,zb g n⟩
 case rest =>
 obtain⟨s,f,g⟩:=hcut;clear K a A B HB;obtain⟨L1,F⟩:=nM (mx x y m);have M:Hid (qB x c y m=L1++(if zM y.d then Za false c ⟨y.v,y.f,y.j,y.w,y.h,y.x⟩ y.J y.c else [])):=by show _=_;rw[F];rfl
 rw[← F] at s N;clear F;have y0:wc.cell? (w.heap.size,0)=some (k:Int):=by rw[← HK.out];exact bC f 0
 have t3:=((HF.j0 g) k Y).2.2.2.1;obtain⟨ra,rc,rfl,s1,_,s3⟩:=zn s;go_upto_if 32 with fail;clear y0 t3;obtain⟨fp,T⟩:=nM (QI k);rw[← T] at E C ⊢;clear T
 cases fp with
 |false =>
  have HN:Hid (qB x c y m=L1):=by show _=_;rw[M.out,Je (C.out rfl),List.append_nil]
  go_wp2;go_ret;exact⟨⟨_,rfl,by rw[HN.out];exact s⟩,g⟩
 |true =>
  obtain⟨h1,h2,h3⟩:=E rfl;have z:=hI h3;have HN:Hid (qB x c y m=L1++Za false c ⟨y.v,y.f,y.j,y.w,y.h,y.x⟩ y.J y.c):=by show _=_;rw[M.out,Jf h1]
  clear h1 h3 E C;have e3:=bC f 3;have e4:=bC f 4;have e5:=bC f 5;have e6:=bC f 6;have e7:=bC f 7;have e8:=bC f 8;have e9:=bC f 9;go_wp2_with fail;clear e3 e4 e5 e6 e7 e8 e9;refine(Ix o _ u _ c _ _ _ h2 z (HI.j0 g)).mono ?_;rintro e W ⟨⟨v,rfl,L⟩,n⟩;obtain⟨L2,G⟩:=nM (Za false c ⟨y.v,y.f,y.j,y.w,y.h,y.x⟩ y.J y.c);have b3:L2.length<=9:=by rw[G];have:=QL false c ⟨y.v,y.f,y.j,y.w,y.h,y.x⟩ y.J y.c;omega
  rw[← G] at L HN;clear G;obtain⟨qa,qc,rfl,q1,_,q3⟩:=zn L;have b2:=N.out;have Z:=zm n s;have P:=zb g n;have l:Below _ W (W.alloc (.cells #[.slice ra L1.length rc,.slice qa L2.length qc] 175)):=zd bZ _;have bS:=Qc l;go_wp2_with fail;refine(SU _ ra qa _ _ rc qc _ _ _ oM oM (PF _) (PF _) (PG _) (PG _) bS ((EE Z).j0 l) ((EE L).j0 l) s3 q3).mono ?_;rintro e U ⟨⟨v,rfl,a0⟩,R⟩;have a7:=zb (zb P l) R;have HU:Hid (U.ownsRow w 268 10 v (qB x c y m).length (DM (qB x c y m))):=by show U.ownsRow _ _ _ _ _ _;rw[HN.out,fz,List.length_append];exact zo a0 (zb P l).size
  clear L s Z a0 bS l R n;go_wp2;go_ret;exact⟨⟨_,rfl,HU⟩,a7⟩
section
theorem PY:∀ (l:List Wk)(j:Nat)(v:Wk),l[j]?=some v->∀ r,r<10->(DM l)[j*10+r]?=(og v)[r]?
 |[],j,v,h,_,_=>by simp at h
 |u :: l,0,v,h,r,hr=>by
  have e:=by simpa using h
  subst e
  show(_++DM l)[_]?=_
  rw[List.getElem?_append_left (by show _<10;omega),Nat.zero_mul,Nat.zero_add]
 |u :: l,j+1,v,h,r,hr=>by
  have h2:=by simpa using h
  show(_++DM l)[_]?=_
  rw[List.getElem?_append_right (by show 10<=_;omega),show(j+1)*10+r - (og u).length=j*10+r by show _ - 10=_;omega]
  exact PY l j v h2 r hr
theorem bq {A B D:Nat->Value}{N:Nat}(h:∀ i,i<N->∃ a e c1 b f c2 c g c3,A i=.slice a e c1/\B i=.slice b f c2/\D i=.slice c g c3):∀ u ∈ Dz A B D N,u.oneCell'=true:=by
 intro u d;unfold Dz at d;obtain⟨j,n,rfl⟩:=List.mem_map.1 d;have o:=by simpa using n
 obtain⟨a,e,c1,b,f,c2,c,g,c3,k,l,m⟩:=h (j / 3) oM;unfold qd MV;rw[k,l,m];have:j % 3=0∨j % 3=1∨j % 3=2:=oM
 rcases this with q|q|q <;> rw[q] <;> rfl
theorem qw.forms {w:World}{base N:Nat}{v:Value}{S:Nat->zw}{A B D:Nat->Value}(h:qw w base v N S A B D){i:Nat}(d:i<N):∃ a c1 b c2 c c3,A i=.slice a (S i).r c1/\B i=.slice b (S i).m c2/\D i=.slice c (S i).t c3:=by
 obtain⟨a,c1,e,_⟩:=zn (h.K i d);obtain⟨b,c2,f,_⟩:=zn (h.I i d);obtain⟨c,c3,g,_⟩:=zn (h.L i d);exact⟨a,c1,b,c2,c,c3,e,f,g⟩
section
variable {w : World} {base g c k N lim : Nat} {S : Nat -> zw} {A B D : Nat -> Value}
theorem qw.put3 {m:zw}{x s u H I J:Option Addr}{C y z K L M:Nat}(h:qw w base (some (g,0),N,c) N S A B D)(hk:k<N)(P:A k=.slice x (S k).r C)(Q:B k=.slice s (S k).m y)(R:D k=.slice u (S k).t z)
  (l:∀ i,i<N->(∀ b,(A i).ownBlock=some b->b<lim)/\(∀ b,(B i).ownBlock=some b->b<lim)/\(∀ b,(D i).ownBlock=some b->b<lim)) (p:base<=lim) (r:AS w lim (S k) m x s u C y z H K I L J M) :
  qw (((w.setCell (g,k*3) (H,m.r,K)).setCell (g,k*3+1) (I,m.m,L)).setCell (g,k*3+2) (J,m.t,M)) base (some (g,0),N,c) N (Ew S k m) (AP A k (H,m.r,K)) (AP B k (I,m.m,L)) (AP D k (J,m.t,M)):=by
 have O:zl w (((w.setCell _ (H,m.r,K)).setCell _ (I,m.m,L)).setCell _ (J,m.t,M)) _:=(((zl.refl w (λb=>b=g)).set (a:=(g,k*3)) rfl _).set (a:=(g,k*3+1)) rfl _).set (a:=(g,k*3+2)) rfl _
 have far:∀ {t sz n:Nat} {v} {xs},_->145≠t->(((w.setCell _ _).setCell _ _).setCell _ _).ownsRow base t sz v n xs:=λT U=>O.j1 T (λq h1 h2=>zE h.row T U q (by rw[show _ from h2];rfl) h1)
 have o:∀ (F),AP F k (F k)=F:=λF=>by
  funext i
  by_cases e:i=k
  ·subst e;exact qg _ _ _
  ·exact zV _ _ _ _ e
 refine⟨Bs (PW _ _ _ h.row (by unfold MV;rfl)) dC (λi f=>?_),λi f=>?_,λi f=>?_,λi f=>?_,?_,?_,?_⟩
 ·by_cases e:i=k
  ·subst e;rw[Jf rfl];unfold MV;rw[qg,qg,qg]
  ·rw[Je e];unfold MV;rw[zV _ _ _ _ e,zV _ _ _ _ e,zV _ _ _ _ e]
 ·by_cases e:i=k
  ·subst e
   rw[qg,AV]
   rcases r.1 with⟨d,E,G⟩|d
   ·refine far ?_ dC
    rw[d,E,G,← P];exact h.K i f
   ·exact far (zo d p) dC
  ·rw[zV _ _ _ _ e,AW _ _ _ e];exact far (h.K i f) dC
 ·by_cases e:i=k
  ·subst e
   rw[qg,AV]
   rcases r.2.1 with⟨d,E,G⟩|d
   ·refine far ?_ dC
    rw[d,E,G,← Q];exact h.I i f
   ·exact far (zo d p) dC
  ·rw[zV _ _ _ _ e,AW _ _ _ e];exact far (h.I i f) dC
 ·by_cases e:i=k
  ·subst e
   rw[qg,AV]
   rcases r.2.2 with⟨d,E,G⟩|d
   ·refine far ?_ dC
    rw[d,E,G,← R];exact h.L i f
   ·exact far (zo d p) dC
  ·rw[zV _ _ _ _ e,AW _ _ _ e];exact far (h.L i f) dC
 ·rcases r.1 with⟨d,_,_⟩|d
  ·rw[d,← P,o];exact h.Q.1
  ·exact h.Q.1.put (λi f b j=>(l i f).1 b j) (λb j=>(d.lt b j).1)
 ·rcases r.2.1 with⟨d,_,_⟩|d
  ·rw[d,← Q,o];exact h.Q.2.1
  ·exact h.Q.2.1.put (λi f b j=>(l i f).2.1 b j) (λb j=>(d.lt b j).1)
 ·rcases r.2.2 with⟨d,_,_⟩|d
  ·rw[d,← R,o];exact h.Q.2.2
  ·exact h.Q.2.2.put (λi f b j=>(l i f).2.2 b j) (λb j=>(d.lt b j).1)
end
def bs (pe:Nat->Addr)(x:zY)(a:List Wk)(base:Nat)(e:Ending)(w:World):Prop :=
 (∃ (M:Nat->zw) (b:Option Addr) (d:Nat) (A B D:Nat->Value),e=.returned (b,x.l,d)/\Q2 x a a.length M/\qw w base (b,x.l,d) x.l M A B D) ∨
 (∃ (j:Nat) (M:Nat->zw) (v:Wk) (k c:Nat),e=GK pe c/\1<=c/\c<=8/\Q2 x a j M/\a[j]?=some v/\zX x.G v.j5 x.i=k/\k<x.i/\qE (x.G k) v (M k) (c:Int) (M k))
theorem SV (x:zY)(a1 a2 a3:Option Addr)(c1 c2 c3:Nat)(L C A B D E:Nat->Value)(F:List Wk)(aw:Option Addr)(cw base wb:Nat)(pe:Nat->Addr)(w:World)(hO:qS x)(hs:zY.Short x 1048576)(hd:F.Pairwise DN)(e5:∀ v ∈ F,ex x x.F v/\SG x v)(he:qI w pe)
  (X:zz w base (a1,x.i,c1) (a2,x.l,c2) (a3,x.g,c3) x.i x.l x.g x L C A B D E) (d7:base<=w.heap.size) (e4:w.ownsRow wb 268 10 (aw,F.length,cw) F.length (DM F)) (j1:F.length<=18) :
  Calls prog 108 #[.agg #[(a1,x.i,c1),(a2,x.l,c2),(a3,x.g,c3)],(aw,F.length,cw)] w λe w'=>bs pe x F base e w'/\Below w w w':=by
 have HS:=hI hs;have HD:=hI hd;have d4:=hI e5;have g0:=hI hO;have HE:=hI he;have t:=hI X;have d0:=hI e4;have n7:=hs.2.1.1;have n8:=hs.1.1;have e0:=hO.2.1;have f8:=hI e0;obtain⟨o1,o2,oe,q1,q2,q3⟩:=zn X.F.row;simp only[Value.slice.injEq,true_and] at oe;obtain⟨rfl,rfl⟩:=oe;have g1:=hI q3;clear hs hd e5 hO he X e4 q1 q2 q3 e0;have J:Below _ w (w.alloc (.cells #[(a1,x.i,c1),(a2,x.l,c2),(a3,x.g,c3)] 38)):=zd bZ _;have bO:=Jb w (.cells #[(a1,x.i,c1),(a2,x.l,c2),(a3,x.g,c3)] 38);go_enter func108,ntmps108;go_wp2_with fail;generalize w.alloc _=V at J bO ⊢;refine(bj a2 _ c2 _ V n7 (by unfold Dz;simp) (bq (λi T=>by obtain⟨a1,c1,a2,c2,a3,c3,e1,e2,e3⟩:=t.F.forms T;exact⟨a1,_,c1,a2,_,c2,a3,_,c3,e1,e2,e3⟩)) ((EE t.F.row).j0 J) g1).mono ?_
 rintro e V1 ⟨⟨gv,rfl,ho⟩,a8⟩;obtain⟨ga,gc,rfl,_,_,_⟩:=zn ho;have h:=zb J a8;have I:=za bO a8;have G:Hid (qw V1 _ _ _ _ A B D):=⟨zo ho (Jp d7 J.size),λi T=>zm h (t.F.K i T),λi T=>zm h (t.F.I i T),λi T=>zm h (t.F.L i T),t.F.Q⟩
 have m:=hI (Q2.start g0 (λv hv=>(d4 v hv).1))
 have b7:=hI ho;have i8:=J.size;clear ho a8 J bO;go_wp2;have b9:Hid (∀ z,_->qy z a1 _ _):=λz d=>(t.G.j0 d).at
 have e7:Hid (∀ b,_->w.heap.size<=b):=λb e=>by have h1:=b7.lt b e;omega
 go_loopw [7,8,9,15] (λ_ _ _ q wr=>∃ (j:Nat) (M:_) (A B D:_),j<=F.length/\q=int i64 j/\Hid (Q2 x F j M)/\Hid (qw wr base (ga,x.l,gc) x.l M A B D)/\wr.heap[w.heap.size]?=some (.cells #[(a1,x.i,c1),(a2,x.l,c2),(a3,x.g,c3)] 38 (0,0))/\Below w w wr) (λ_ _ _ q _=>F.length - (intOf q).toNat)
 case atStart=>exact⟨0,_,A,B,D,Jq _,rfl,m,G,I,h⟩
 case round =>
  clear m G t I h b7 A B D;obtain⟨j,M,A,B,D,hj,rfl,m,G,I,h⟩:=hrel
  by_cases hlt:j<F.length
  ·obtain⟨v,hv⟩:∃ v,_=some v:=⟨_,List.getElem?_eq_getElem hlt⟩
   have HV:=hI hv;have Q:=hI (d4 v (List.mem_of_getElem? hv)).2;obtain⟨k,b4⟩:=nM (zX x.G v.j5 x.i);have HK:=hI b4.symm;have hk:k<x.i:=by rw[b4];exact Q.2.1
   clear b4;obtain⟨gw,i4,i6,d8⟩:=qr d0 oM;subst i4;have f:∀ r,r<10->wr.cell? ⟨gw,j*10+r,_⟩=_:=λr hr=>by
    rw[h.cell d8,d0.cellAt _ oM,PY F j v hv r hr]
   have c0:wr.cell? ⟨gw,j*10,_⟩=some _:=f 0 dC;have c1:_=some _:=f 1 dC;have c2:_=some _:=f 2 dC;have c3:_=some _:=f 3 dC;have c4:_=some _:=f 4 dC;have c5:_=some _:=f 5 dC;have c6:_=some _:=f 6 dC;have c7:_=some _:=f 7 dC;have c8:_=some _:=f 8 dC;have c9:_=some _:=f 9 dC;clear f hv;have bX:=Jb wr (.cells #[v.j5,(v.j3:Int),v.e,v.p.v,v.p.f,v.p.j,v.p.w,v.p.h,v.p.x,v.E] 268);have n:=zd h (.cells #[v.j5,(v.j3:Int),v.e,v.p.v,v.p.f,v.p.j,v.p.w,v.p.h,v.p.x,v.E] 268);have u:=zg I (.cells #[v.j5,(v.j3:Int),v.e,v.p.v,v.p.f,v.p.j,v.p.w,v.p.h,v.p.x,v.E] 268);have c:Hid (qw (wr.alloc (.cells #[v.j5,(v.j3:Int),v.e,v.p.v,v.p.f,v.p.j,v.p.w,v.p.h,v.p.x,v.E] 268)) _ _ _ M A B D):=G.j0 (zd bZ _);go_upto_region 5 with fail;generalize wr.alloc _=Y at bX n u c ⊢;generalize hwx:wr.heap.size=wx at bX ⊢;have i7:w.heap.size<wx:=by have:=zD I;omega
   clear c0 c1 c2 c3 c4 c5 c6 c7 c8 c9 h I G hwx wr;have y0:=bC u 0;have y1:=bC bX 0;go_wp2_with fail;clear y0 y1;refine(AY a1 _ c1 _ _ Y n8 (b9 Y n)).mono ?_;rintro e Z ⟨a0,S⟩;replace a0:e=.returned (.tuple #[(k:Int),.bool true]):=by
    rw[HK.out] at a0
    rcases a0 with⟨_,q⟩|⟨q,_⟩
    ·exact q
    ·omega
   subst a0;replace bX:=za bX S;replace n:=zb n S;replace u:=za u S;replace c:=hI (c.j0 S);clear S Y;have b5:k<x.l:=by have:=f8.out;omega
   obtain⟨g,i5,i9,j0⟩:=qr c.row oM;subst i5;have b0:=e7 g rfl;obtain⟨sb,so,g4,h0,g3,g9,rfl,f0,f1,f2,f3,f4,f5,f6,f7,b6,a9,_,_⟩:=b9 Z n k hk;obtain⟨s,a4⟩:=nM (x.G k);rw[← a4] at f0 f1 f2 f3 f4 f5 f6 f7 b6 a9;have a6:=hI a4;have e9:=hI b6;have e6:=hI a9;have g2:Hid (s.la.n<=1048576/\s.M.n<=1048576):=by rw[a4];exact⟨(HS.1.2 k hk).2.2.1,(HS.1.2 k hk).2.2.2⟩
   obtain⟨l,P⟩:=nM (M k);have o:=hI P;obtain⟨g7,h6,g5,h4,g6,h5,e1,e2,e3⟩:=c.forms b5;have W:=c.is b5;have l0:=zs c.row (k*3+0) oM rfl;have l1:=zs c.row (k*3+1) oM rfl;have y:=zs c.row (k*3+2) oM rfl;rw[zO 3 _ k _ dC] at l0 l1 y;unfold MV at l0 l1 y W;rw[e1,e2,e3] at W;replace l0:Z.cell? ⟨g,k*3,_⟩=some (A k):=l0;replace l1:_=some (B k):=l1;replace y:_=some (D k):=y;rw[e1,← P] at l0;rw[e2,← P] at l1;rw[e3,← P] at y;rw[← P] at W e1 e2 e3;have e8:=hI W;have a5:Hid (_/\_/\_):=⟨e1,e2,e3⟩;clear a4 P W e1 e2 e3 b6 a9;have i0:=n0 k;have i1:(k:Int)<(x.i:Int):=oM;have i2:(k:Int)<(x.l:Int):=oM;have y0:=bC u 0;obtain⟨x0,x1,x2,x3,x4,x5,x6,x7,x8,x9⟩:=mf bX;have a7:Hid (∀ z,Below _ Z z->z.cell? _=some (.int _ _)/\z.cell? _=some (.int _ _)/\z.cell? _=some (.int _ _)/\z.cell? _=some (.int _ _)/\z.cell? _=some (.int _ _)/\z.cell? _=some (.int _ _)/\z.cell? _=some (.int _ _)/\z.cell? _=some (.bool _)/\z.cell? _=some (.int _ _)/\z.cell? _=some (.bool _)/\z.cell? _=some (.slice _ _ c1)/\_/\_/\_/\_/\_/\_/\_/\_/\_/\_/\_):=λz d=>⟨(d.cell (Ja Z _ x0)).trans x0,(d.cell (Ja Z _ x1)).trans x1,(d.cell (Ja Z _ x2)).trans x2,(d.cell (Ja Z _ x3)).trans x3,(d.cell (Ja Z _ x4)).trans x4,(d.cell (Ja Z _ x5)).trans x5,(d.cell (Ja Z _ x6)).trans x6,(d.cell (Ja Z _ x7)).trans x7,(d.cell (Ja Z _ x8)).trans x8,(d.cell (Ja Z _ x9)).trans x9,(d.cell (Ja Z _ y0)).trans y0,(d.cell (Ja Z _ f0)).trans f0,(d.cell (Ja Z _ f1)).trans f1,(d.cell (Ja Z _ f2)).trans f2,(d.cell (Ja Z _ f3)).trans f3,(d.cell (Ja Z _ f4)).trans f4,(d.cell (Ja Z _ f5)).trans f5,(d.cell (Ja Z _ f6)).trans f6,(d.cell (Ja Z _ f7)).trans f7,(d.cell (Ja Z _ l0)).trans l0,(d.cell (Ja Z _ l1)).trans l1,(d.cell (Ja Z _ y)).trans y⟩
   clear y0 x0 x1 x2 x3 x4 x5 x6 x7 x8 x9 f0 f1 f2 f3 f4 f5 f6 f7 l0 l1 y;go_upto_region 6 with fail;refine qt 14 15 (λw'=>w'.cell? _=_/\w'.cell? _=_/\w'.cell? _=_/\w'.cell? _=_/\w'.cell? _=_/\w'.cell? _=_/\w'.cell? _=_/\w'.cell? _=_/\w'.cell? _=_/\w'.cell? _=_/\w'.cell? _=_/\w'.cell? _=_/\w'.cell? _=_/\w'.cell? _=_/\w'.cell? _=_/\w'.cell? _=_/\w'.cell? _=_/\w'.cell? _=_/\w'.cell? _=_/\w'.cell? _=_/\w'.cell? _=_/\w'.cell? _=_) rfl kR (a7 _ bZ.drew) (λhS=>?_)
   simp only[List.replicate_succ,List.replicate_zero]
   iterate 12 refine Ax 0 ?_
   refine Ay 12 λK hK=>?_
   go_simp;go_at_call 199;have O:Below Z Z _:=bZ.drew;refine Jm (gz s v l g4 g3 g7 g5 g6 h0 g9 h6 h4 h5 pe _ (HE.j0 (zb n O)) (by rw[a6.out,o.out];exact m.good k hk) Q.1 Q.2.2 ?_ g2 (e9.j0 O) (e6.j0 O) (e8.j0 O)) ?_
   ·rw[o.out]
    split
    ·rename_i hg;exact m.there HV HK hk hg
    ·rename_i hg;exact(m.comes HV HK hk Q (by simpa using hg)).2.2.2
   rintro e U ⟨d6,i3⟩;have N:=zb O i3
   rcases d6 with⟨y,b1,d1,b2,d2,b3,d3,rfl,hW,d5⟩|⟨cd,h1,h8,rfl,hW⟩
   ·dsimp only
    have H:=hI (c.j0 N);have b8:=hI (H.put3 b5 (by rw[← o.out];exact a5.1) (by rw[← o.out];exact a5.2.1) (by rw[← o.out];exact a5.2.2) (λi T=>⟨λb e=>((c.K i T).lt b e).2,λb e=>((c.I i T).lt b e).2,λb e=>((c.L i T).lt b e).2⟩) (Jp d7 (zb n O).size) (by rw[← o.out];exact d5))
    have f9:=hI (m.next HD HV HK hk Q (by rw[← a6.out,← o.out];exact hW))
    have d9:zl U (((U.setCell _ (b1,y.r,d1)).setCell _ (b2,y.m,d2)).setCell _ (b3,y.t,d3)) _:=(((zl.refl U (λb=>b=g)).set (a:=(g,k*3)) rfl _).set (a:=(g,k*3+1)) rfl _).set (a:=(g,k*3+2)) rfl _
    have g8:=d9.blk (za u N) (show _ from λe=>by obtain⟨cs,e2⟩:=zC H.row g rfl;rw[← e,za u N] at e2;simp at e2)
    have h7:Below _ w (((U.setCell _ (b1,y.r,d1)).setCell _ (b2,y.m,d2)).setCell _ (b3,y.t,d3)):=(((zb n N).setCell (p:=(g,k*3)) b0 _).setCell (p:=(g,k*3+1)) b0 _).setCell (p:=(g,k*3+2)) b0 _;have R:=a7 U N;have z0:=R.2.2.2.2.2.2.2.2.2.2.2.2.2.2.2.2.2.2.2.1;have z1:=R.2.2.2.2.2.2.2.2.2.2.2.2.2.2.2.2.2.2.2.2.1;have z2:=R.2.2.2.2.2.2.2.2.2.2.2.2.2.2.2.2.2.2.2.2.2;have q0:=H.row.frozenAt (k*3);have q1:=H.row.frozenAt (k*3+1);have q2:=H.row.frozenAt (k*3+2);refine hK _ _ R (λhS=>?_)
    clear hK K R;refine Ax 13 ?_;refine kc λK hK=>?_
    go_simp;refine hK _ _ ?_;clear hK K d9 c H a7 hS z0 z1 z2 q0 q1 q2 hW d5;refine qh kR ?_ _;go_wp2;go_roundw
    case rel=>exact⟨_,_,_,_,_,by omega,by go_num,f9,b8,g8,h7⟩
    case measure=>simp[intOf];omega
   ·unfold GK
    dsimp only;exact⟨rfl,.inr ⟨j,M,v,k,cd,rfl,h1,h8,m,HV,HK,hk,by rw[← a6.out,← o.out];exact hW⟩,zb n N⟩
  ·obtain rfl:j=F.length:=by omega
   go_wp2;go_ret;exact⟨.inl ⟨M,ga,gc,A,B,D,rfl,m,G⟩,h⟩
end
def Dq (x:zY)(b:zA)(y:qD):Int :=
 if y.d=4 then b.j2
 else if y.d=5 then zP ⟨y.v,y.f,y.j,y.w,y.h,y.x⟩ y.c
 else if y.d=6 then Z9 b.j2 ((x.G (zX x.G (b.J 0) x.i)).O - y.D)
 else 0
def Eg (x:zY)(b:Int)(y:qD)(m:Nat)(c:zY)(a name price:Int):Prop :=
 (y.d=1/\c=x/\a=0/\name=0/\price=zP ⟨y.v,y.f,y.j,y.w,y.h,y.x⟩ y.c) ∨
 (y.d=9/\c=x/\a=0/\name=0/\price=0) ∨
 ((y.d=2∨y.d=3)/\x.g=30/\c=x/\a=8/\name=0/\price=0) ∨
 ((y.d=2∨y.d=3)/\x.g<30/\c={ x with g:=x.g+1,u:=Qq x.u x.g (Aw x.g b y) }/\a=0/\name=(x.g:Int)+1/\price=zP ⟨y.v,y.f,y.j,y.w,y.h,y.x⟩ y.c) ∨
 (In y.d 4 8/\m<x.g/\c={ x with u:=Qq x.u m (Zd (x.u m) b y) }/\a=0/\name=y.k/\price=Dq x (x.u m) y)
def EF (x:zY)(y:qD)(base:Nat)(z:World)(v:Value):Prop :=
 (y.d=9->∃ k,zX x.G (y.J 0) x.i=k/\k<x.i/\z.ownsRow base 203 5 v (ZU (x.F k) x.u (y.J 0) x.g).length (Zh (BS (ZU (x.F k) x.u (y.J 0) x.g)) (ZU (x.F k) x.u (y.J 0) x.g).length))/\(y.d≠9->v=.slice none 0 0)
theorem Ct.mono {g l:Nat}{k j:Option Addr}{T o:Nat->Prop}{p:zY}{f:Int}{n i:World->Value->Prop}{e:Ending}{w':World}(h:Ct g base N m l k j T p f name price n L C A B D w e w')(t:∀ b,T b->o b)(s:∀ v,n w' v->i w' v):Ct g base N m l k j o p f name price i L C A B D w e w':=by
 obtain⟨a,b,c,d,h1,h2,h3,q,r⟩:=h;exact⟨a,b,c,d,h1,s _ h2,h3,q,r.mono t⟩
theorem Kn (h:QE y):In y.v 0 20/\y.c<=3:=by
 have h1:=h.2.2.2.2.1;have h2:=h.2.2.2.1;unfold Zr at h1;unfold Zj at h2
 by_cases c:zM y.d
 ·rw[Jf c] at h1 h2
  have:In y.v 1 20:=h1.1;unfold In at this ⊢
  omega
 ·rw[Je c] at h1 h2
  have:y.v=0:=h1.1;refine⟨by rw[this];unfold In;omega,?_⟩
  split at h2 <;> omega
theorem ch (g base N R k j o r m:Nat)(f d l n:Option Addr)(q:Int)(y:qD)(x:zY)(L C A B D E:Nat->Value)(w:World)(M:w.heap[g]?=some (.cells #[(f,N,k),(d,N,j),(l,R,o)] 38 (0,0)))(K:zz w base (f,N,k) (d,N,j) (l,R,o) N N R x L C A B D E)(p:x.g=R)(I:x.i=N)(Z:x.l=N)(s:base<=w.heap.size)(t:zS w n y.c y.J)(H:qm n y.c r)(F:0<y.c->∀ a,n=some a->a.block<base)
  (T:Qf x y m) (hT:At x.i x.G) (hR:R<=30) (hs:zY.Short x 1048576) (X:∀ i,i<R->Q6 x.i x.G (x.u i).c (x.u i).J) :
  Calls prog 93 #[.pointer (some (g,0)),q,.agg (y,n,r)] w λe w'=>∃ x2 code name price,Eg x q y m x2 code name price/\Ct g base N k j f d (λb=>b=g∨(Value.slice l R o).ownBlock=some b) x2 code name price (EF x y w.heap.size) L C A B D w e w':=by
 obtain⟨G,u⟩:=Kn T.1;have hN:N<=6:=by rw[← I];exact hT.1
 have hk:=T.1.1;have nil:∀ z v,y.d≠9->_->EF x y w.heap.size z v:=λz v h e=>⟨λV=>absurd V h,λ_=>e⟩
 by_cases hnamed:In y.d 4 8
 ·obtain⟨J,O,_⟩:=T.2.2 hnamed
  rw[p] at O;have n9:y.d≠9:=by unfold In at hnamed;omega
  have fin:∀ {e w' price},_->Ct g _ N k j f d _ _ 0 _ price (λ_ v=>v=_) L C A B D w e w' ->
    ∃ x2 code name price,Eg x q y m x2 code name price/\Ct g base N k j f d (λb=>b=g∨(Value.slice l R o).ownBlock=some b) x2 code name price _ L C A B D w e w':=λhp h =>
   ⟨_,_,_,_,.inr (.inr (.inr (.inr ⟨hnamed,by rw[p];exact O,rfl,rfl,rfl,hp⟩))),h.mono (λ_ h=>h) (λv h=>nil _ v n9 h)⟩
  have c:y.d=4∨y.d=5∨y.d=6∨y.d=7∨y.d=8:=by unfold In at hnamed;omega
  rcases c with c|c|c|c|c
  ·refine(kw g _ N R k j o r m f d l n q y x L C A B D E w M K p s c G u t H F J O oM).mono (λe w' h=>fin ?_ h)
   unfold Dq;rw[Jf c]
  ·refine(kx g _ N R k j o r m f d l n q y x L C A B D E w M K p s c G u t H F J O oM).mono (λe w' h=>fin ?_ h)
   unfold Dq;rw[Je oM,Jf c]
  ·have W:=X m O
   have P:=(W.2.2 0 (by have:=W.1;omega)).1
   have S:=(hT.2 _ P).1;have U:=T.1.2.2.2.2.2.2;refine(ky g _ N R k j o r m f d l n q y x L C A B D E w M K p s c G u t H F J O oM (zX _ _ x.i) (by have:=W.1;omega) (by rw[I]) (by rw[I] at P ⊢;exact P) ?_ oM).mono (λe w' h=>fin ?_ h)
   ·have h1:=S.2.2.2.2.1
    have h2:=S.2.2.2.2.2.1;have h3:=S.2.2.2.2.2.2.1;unfold DZ In at U
    omega
   ·unfold Dq;rw[Je oM,Je oM,Jf c]
  ·refine(kz g _ N R k j o r m f d l n q y x L C A B D E w M K p s c G u t H F J O oM).mono (λe w' h=>fin ?_ h)
   unfold Dq;rw[Je oM,Je oM,Je oM]
  ·refine(le g _ N R k j o r m f d l n q y x L C A B D E w M K p s c G u t H F J O oM).mono (λe w' h=>fin ?_ h)
   unfold Dq;rw[Je oM,Je oM,Je oM]
 ·have c:y.d=1∨y.d=2∨y.d=3∨y.d=9:=by unfold In at hnamed hk;omega
  rcases c with c|c|c|c
  ·refine(lf g _ N R k j o r f d l n q y x L C A B D E w M K p s c G u t H F).mono (λe w' h=>?_)
   exact⟨_,_,_,_,.inl ⟨c,rfl,rfl,rfl,rfl⟩,h.mono (λ_ h=>h.elim) (λv h=>nil _ v oM h)⟩
  ·by_cases h30:R=30
   ·refine(iq g _ N R k j o r f d l n q y x L C A B D E w M K p s c G u t H F h30).mono (λe w' h=>?_)
    exact⟨_,_,_,_,.inr (.inr (.inl ⟨.inl c,by omega,rfl,rfl,rfl,rfl⟩)),h.mono (λ_ h=>h.elim) (λv h=>nil _ v oM h)⟩
   ·refine(Ra g _ N R k j o r f d l n q y x L C A B D E w M K p s (.inl c) G u t H F oM).mono (λe w' h=>?_)
    subst p;exact⟨_,_,_,_,.inr (.inr (.inr (.inl ⟨.inl c,by omega,rfl,rfl,rfl,rfl⟩))),h.mono (λ_ h=>h) (λv h=>nil _ v oM h)⟩
  ·by_cases h30:R=30
   ·refine(ir g _ N R k j o r f d l n q y x L C A B D E w M K p s c G u t H F h30).mono (λe w' h=>?_)
    exact⟨_,_,_,_,.inr (.inr (.inl ⟨.inr c,by omega,rfl,rfl,rfl,rfl⟩)),h.mono (λ_ h=>h.elim) (λv h=>nil _ v oM h)⟩
   ·refine(Ra g _ N R k j o r f d l n q y x L C A B D E w M K p s (.inr c) G u t H F oM).mono (λe w' h=>?_)
    subst p;exact⟨_,_,_,_,.inr (.inr (.inr (.inl ⟨.inr c,by omega,rfl,rfl,rfl,rfl⟩))),h.mono (λ_ h=>h) (λv h=>nil _ v oM h)⟩
  ·have Y:0<y.c:=by
    have:=T.1.2.2.2.1;unfold Zj at this;rw[Je (by unfold zM;omega),Jf c] at this
    omega
   have Q:zX x.G (y.J 0) x.i<x.i:=by
    have h1:=CM x.G (y.J 0) x.i
    rcases Nat.lt_or_eq_of_le h1 with h|h
    ·exact h
    ·exact absurd (.inr ⟨c,h⟩) T.2.1
   refine(lk g _ N R k j o r f d l n q y x L C A B D E w M K p s c G u t H F (zX _ _ x.i) Y (by rw[I]) (by rw[I] at Q ⊢;exact Q) hs I Z oM).mono (λe w' h=>?_)
   exact⟨_,_,_,_,.inr (.inl ⟨c,rfl,rfl,rfl,rfl⟩),h.mono (λ_ h=>h.elim) (λv h=>⟨λ_=>⟨_,rfl,Q,h⟩,λV=>absurd c V⟩)⟩
theorem iw (g base N R k h f d:Nat)(c b a:Option Addr)(v:Wk)(x:zY)(L C A B D E:Nat->Value)(w:World)(o:w.heap[g]?=some (.cells #[(c,N,h),(b,N,f),(a,R,d)] 38 (0,0)))(n:zz w base (c,N,h) (b,N,f) (a,R,d) N N R x L C A B D E)(l:N<=1048576)(m:zX x.G v.j5 N=k)(j:k<N)(i:qf (x.G k) (x.F k))(hr:v.j3<3)(s:v.E=true->Eb (x.F k) v.j3 v.e)(t:v.E=false->In v.p.v 0 20) :
  Calls prog 92 #[.pointer (some (g,0)),.agg #[v.j5,(v.j3:Int),v.E,v.e,v.p.v,v.p.f,v.p.j,v.p.w,v.p.h,v.p.x]] w λe w'=>IS g base N R k h f d c b a v x L C E w e w':=by
 obtain⟨leg,res,goes,who,p⟩:=v;have hr:res<3:=hr
 cases goes with
 |true =>
  have q:=s rfl;obtain rfl|rfl|rfl:res=0∨res=1∨res=2:=by omega
  ·obtain⟨r,h1,h2,h3⟩:=CO i.stays_one q
   exact Lv g _ N R k h f d c b a leg who 0 0 true p x L C A B D E w o n l m j i (.inl ⟨rfl,rfl,rfl,r,h1,h2,h3⟩)
  ·obtain⟨r,h1,h2,h3⟩:=CO i.rooms_one q
   exact Lv g _ N R k h f d c b a leg who 1 1 true p x L C A B D E w o n l m j i (.inr (.inl ⟨rfl,rfl,rfl,r,h1,h2,h3⟩))
  ·obtain⟨r,h1,h2,h3⟩:=CO i.seats_one q
   exact Lv g _ N R k h f d c b a leg who 2 2 true p x L C A B D E w o n l m j i (.inr (.inr (.inl ⟨rfl,rfl,rfl,r,h1,h2,h3⟩)))
 |false =>
  obtain rfl|rfl|rfl:res=0∨res=1∨res=2:=by omega
  ·exact Lv g _ N R k h f d c b a leg who 0 0 false p x L C A B D E w o n l m j i (.inr (.inr (.inr (.inl ⟨rfl,rfl,rfl⟩))))
  ·obtain⟨pe,len,hei,cl,all,be⟩:=p
   cases all with
   |true=>exact mz g _ N R k h f d c b a leg who pe len hei cl be x L C A B D E w o n l m j i
   |false=>exact na g _ N R k h f d c b a leg who pe len hei cl be x L C A B D E w o n l m j i
  ·exact Lv g _ N R k h f d c b a leg who 2 2 false p x L C A B D E w o n l m j i (.inr (.inr (.inr (.inr ⟨rfl,rfl,rfl,t rfl⟩))))
theorem SY (h:ZT x.i x.g m x y 0)(f:QE y->In y.d 4 8->y.k=(m:Int)+1):Qf x y m:=by
 obtain⟨h1,h2,h3,h4⟩:=h;have a:QE y:=by
  by_cases c:QE y
  ·exact c
  ·have:=h1 c;omega
 have d:¬ _:=λc=>by have:=h2 a c;omega
 refine⟨a,d,λe=>?_⟩
 obtain⟨g,i,n3⟩:=h3 a d e;have b:m<x.g:=by
  by_cases c:x.g<=m
  ·have:=g c;omega
  ·omega
 exact⟨f a e,b,λc=>by have:=i b c;omega⟩
def EU (x:zY)(b:Int)(y:qD)(m:Nat)(c:zY)(a name price:Int):Prop :=
 (a≠0/\c=x/\name=0/\price=0/\ZT x.i x.g m x y a) ∨
 (Qf x y m/\a≠0/\c=x/\name=0/\price=0/\∃ j M v k,Q2 x (qB x b y m) j M/\(qB x b y m)[j]?=some v/\zX x.G v.j5 x.i=k/\k<x.i/\qE (x.G k) v (M k) a (M k)) ∨
 (Qf x y m/\∃ M x3,Q2 x (qB x b y m) (qB x b y m).length M/\Eg { x with F:=M } b y m x3 a name price/\((a≠0∨y.d=1)->c=x)/\(¬ (a≠0∨y.d=1)->c=x3))
def ix (x:zY)(a:Int)(y:qD)(m:Nat)(c:Int)(w':World)(d:Value):Prop :=
 (d=.slice none 0 0/\(y.d=9->c≠0))∨∃ M b,Qf x y m/\Q2 x (qB x a y m) (qB x a y m).length M/\EF { x with F:=M } y b w' d
def pj (x:zY)(a:Int)(y:qD)(m base:Nat)(e:Ending)(w':World):Prop :=
 ∃ x2 a1 c1 a2 c2 a3 c3 code name price rv L C A B D E,e=.returned (.tuple #[.agg #[.slice a1 x2.i c1,.slice a2 x2.l c2,.slice a3 x2.g c3],.agg #[int i64 code,int i64 name,int i64 price,rv]]) /\
  zz w' base (.slice a1 x2.i c1) (.slice a2 x2.l c2) (.slice a3 x2.g c3) x2.i x2.l x2.g x2 L C A B D E/\EU x a y m x2 code name price/\ix x a y m code w' rv
theorem Nr:∀ (l:List Wk)(j:Nat)(v:Wk),l[j]?=some v->∀ r,r<10->(Lb l)[j*10+r]?=(pv v)[r]?
 |[],j,v,h,_,_=>by simp at h
 |u :: l,0,v,h,r,hr=>by
  have e:=by simpa using h
  subst e
  show(_++Lb l)[_]?=_
  rw[List.getElem?_append_left (by show _<10;omega),Nat.zero_mul,Nat.zero_add]
 |u :: l,j+1,v,h,r,hr=>by
  have h2:=by simpa using h
  show(_++Lb l)[_]?=_
  rw[List.getElem?_append_right (by show 10<=_;omega)]
  have e:(j+1)*10+r - (pv u).length=j*10+r:=by show _ - 10=_;omega
  rw[e];exact Nr l j v h2 r hr
theorem Eg.size {c:zY}(h:Eg x b y m c a name price):c.i=x.i/\c.l=x.l:=by
 rcases h with⟨_,rfl,_⟩|⟨_,rfl,_⟩|⟨_,_,rfl,_⟩|⟨_,_,rfl,_⟩|⟨_,_,rfl,_⟩ <;> exact⟨rfl,rfl⟩
theorem Eg.nine {c:zY}(h:Eg x b y m c a name price)(hc:a≠0∨y.d=1):y.d≠9:=by
 rcases h with⟨h1,_,h2,_⟩|⟨h1,_,h2,_⟩|⟨h1,_,_,h2,_⟩|⟨h1,_,_,h2,_⟩|⟨h1,_,_,h2,_⟩ <;> first|omega|(unfold In at h1;omega)
theorem Hw {Z:World}{a o p q:Nat}{v1 v2 v3 s t u u0 u1 u2 u3:Value}{E:Nat->Value}(m:Below w w Z)(j:zz Z base v1 v2 v3 o p q x L C A B D E)(g:Z.heap[a]?=some (.cells #[s,t,u] 38 (0,0)))(f:Z.heap[c]?=some (.cells #[u0,u1,u2,u3] 41 (0,0)))(h1:w.heap.size<=a)(h2:w.heap.size<=c)(i c1 c2 c3:Value){F:World}
  (r:F=((((((Z.setCell (a,0) v1).setCell (a,1) v2).setCell (a,2) v3).setCell (c,0) i).setCell (c,1) c1).setCell (c,2) c2).setCell (c,3) c3) :
  zz F base v1 v2 v3 o p q x L C A B D E/\F.heap[a]?=some (.cells #[v1,v2,v3] 38 (0,0))/\F.heap[c]?=some (.cells #[i,c1,c2,c3] 41 (0,0))/\Below w w F/\zl Z F (λb=>b=a∨b=c):=by
 subst r;have h:a≠c:=λe=>by subst e;rw[g] at f;simp at f
 have k:=IP Z a v1 v2 v3;have d:=k.blk f (λe=>h e.symm)
 have l:=AR (((Z.setCell (a,0) v1).setCell (a,1) v2).setCell (a,2) v3) c i c1 c2 c3;have n:=(k.mono (λb e=>.inl e)).trans (l.mono (T:=λb=>_∨_) (λb e=>.inr e))
 exact⟨(j.box k g dC).box l d dC,l.blk (Fp g v1 v2 v3) h,Cy d _ _ _ _,zl.j0 m m.size n (λb e=>by rcases e with e|e <;> omega),n⟩
theorem FG {b:Nat}{z a:World}{v:Value}{T:Nat->Prop}(h:EF x y b z v)(i:zl z a T)(e:∀ g,T g->∃ cs t,z.heap[g]?=some (.cells cs t (0,0))/\203≠t):EF x y b a v:=by
 refine⟨λh9=>?_,h.2⟩
 obtain⟨k,h1,h2,h3⟩:=h.1 h9;exact⟨k,h1,h2,i.j1 h3 (λg f s=>by obtain⟨cs,t,c,d⟩:=e g s;exact zQ h3 c d g f rfl)⟩
theorem Lw (h:QE y):∃ k:Nat,y.d=(k:Int)/\k<10/\1<=k:=⟨y.d.toNat,by have:=h.1.1;omega,by have:=h.1.2;omega,by have:=h.1.1;omega⟩
theorem cj {k:Nat}(f:qS x)(h:QE y)(hk:y.d=(k:Int)):QR x.i x y↔(ZL k≠0/\¬ (At x.i x.G/\Q6 x.i x.G y.c y.J)):=by
 have e:=h.2.2.2.1;have hf:=CM x.G (y.J 0) x.i;unfold QR;unfold Zj at e
 by_cases c:zM y.d
 ·have b:ZL k≠0:=by unfold ZL;unfold zM at c;rw[Jf oM];decide
  constructor
  ·rintro(⟨_,h2⟩|⟨h2,_⟩)
   ·exact⟨b,λq=>h2 q.2⟩
   ·unfold zM at c;omega
  ·rintro⟨_,h2⟩;exact .inl ⟨c,λq=>h2 ⟨f.1,q⟩⟩
 ·rw[Je c] at e
  by_cases c9:y.d=9
  ·rw[Jf c9] at e
   have b:ZL k≠0:=by unfold ZL;rw[Je oM,Jf oM];decide
   have a:Q6 x.i x.G y.c y.J↔zX x.G (y.J 0) x.i<x.i:=by
    unfold Q6 KZ;rw[e];exact⟨λq=>(q.2.2 0 dC).1,λq=>⟨by decide,by decide,λi hi=>by
     obtain rfl:i=0:=by omega
     exact⟨q,λz=>absurd z dC⟩⟩⟩
   constructor
   ·rintro(⟨q,_⟩|⟨_,q⟩)
    ·exact absurd q c
    ·exact⟨b,λz=>by have:=a.1 z.2;omega⟩
   ·rintro⟨_,q⟩
    refine .inr ⟨c9,?_⟩
    by_cases d:zX x.G (y.J 0) x.i<x.i
    ·exact absurd ⟨f.1,a.2 d⟩ q
    ·omega
  ·have b:ZL k=0:=by unfold ZL;unfold zM at c;rw[Je oM,Je oM]
   constructor
   ·rintro(⟨q,_⟩|⟨q,_⟩)
    ·exact absurd q c
    ·exact absurd q c9
   ·rintro⟨q,_⟩;exact absurd b q
theorem SZ (b:zA)(y:qD):Fm y.d b y.D↔¬ CH b y:=by
 unfold CH Fm CB
 by_cases k4:y.d=4
 ·rw[Jf k4];omega
 ·rw[Je k4]
  by_cases k8:y.d=8
  ·rw[Jf k8];omega
  ·rw[Je k8];omega
theorem cq (x:zY)(y:qD)(g a:Option Addr)(c1 b m:Nat)(pe:Nat->Addr)(w:World)(r:qS x)(o:zY.Short x 1048576)(j:Ze w)(l:qI w pe)(d:qD.Is w [y.d,y.j1,y.k,(a,y.c,b),y.v,y.f,y.j,y.w,y.h,y.x,y.y,y.D] y)(ho:y.j1.size<=1048576)(p:y.c<=1048576)(h:zS w a y.c y.J)(i:qy w g x.i x.G) :
  Calls prog 106 #[(g,x.i,c1),.agg (y,a,b)] w λe w'=>((e=.returned (.tuple #[])/\QE y/\¬ QR x.i x y)∨(∃ c:Nat,1<=c/\c<=8/\e=GK pe c/\ZT x.i x.g m x y (c:Int)))/\Below w w w':=by
 by_cases hok:QE y
 ·obtain⟨k,n,f,_⟩:=Lw hok
  have hr:=cj r hok n
  by_cases h0:ZL k=0
  ·exact(Hu y a b g _ c1 k w d oM j pe l hok n f h0).mono λ_ _ ⟨e,hb⟩=>⟨.inl ⟨e,hok,λq=>(hr.1 q).1 h0⟩,hb⟩
  ·by_cases hfit:At x.i x.G/\Q6 x.i x.G y.c y.J
   ·exact(Kf y a b g _ c1 _ k w d oM j pe l hok n f h0 o.1.1 p o.1.2 i h hfit).mono λ_ _ ⟨e,hb⟩=>⟨.inl ⟨e,hok,λq=>(hr.1 q).2 hfit⟩,hb⟩
   ·exact(Ht y a b g _ c1 _ k w d oM j pe l hok n f h0 o.1.1 p o.1.2 i h hfit).mono λ_ _ ⟨e,hb⟩=>⟨.inr ⟨2,by decide,by decide,e,λq=>absurd hok q,λ_ _=>rfl,λ_ q=>absurd (hr.2 ⟨h0,hfit⟩) q,λ_ q=>absurd (hr.2 ⟨h0,hfit⟩) q⟩,hb⟩
 ·exact(Ke y a b g _ c1 w d oM j pe l hok).mono λ_ _ ⟨e,hb⟩=>⟨.inr ⟨1,by decide,by decide,e,λ_=>rfl,λq=>absurd q hok,λq=>absurd q hok,λq=>absurd q hok⟩,hb⟩
theorem ct (x:zY)(y:qD)(h b:Option Addr)(c3 d m:Nat)(pe:Nat->Addr)(w:World)(s:x.g<=30)(n:Ze w)(r:qI w pe)(a:QE y)(o:¬ QR x.i x y)(u:QE y->In y.d 4 8->y.k=(m:Int)+1)(j:qL w h x.g x.u) :
  Calls prog 107 #[(h,x.g,c3),.agg (y,b,d)] w λe w'=>((e=.returned (.tuple #[])/\Qf x y m)∨(∃ c:Nat,1<=c/\c<=8/\e=GK pe c/\ZT x.i x.g m x y (c:Int)))/\Below w w w':=by
 obtain⟨k,p,f,t⟩:=Lw a
 by_cases hn:In y.d 4 8
 ·have i:Q8 k=true:=by unfold Q8;unfold In at hn;exact dT
  have g:=u a hn
  by_cases hlt:m<x.g
  ·have l:=SZ (x.u m) y
   by_cases hb:CH (x.u m) y
   ·exact(Lu y b d h _ c3 k w n p f i pe r _ j oM m g hlt (λq=>l.1 q hb)).mono λ_ _ ⟨e,hbl⟩=>⟨.inr ⟨4,by decide,by decide,e,λq=>absurd a q,λ_ q=>absurd q o,λ_ _ _=>⟨λq=>by omega,λ_ _=>rfl,λ_ q=>absurd hb q⟩,λ_ _ q=>absurd hn q⟩,hbl⟩
   ·exact(Mt y b d h _ c3 k w n p f i pe r _ j oM m g hlt (l.2 hb)).mono λ_ _ ⟨e,hbl⟩=>⟨.inl ⟨e,a,o,λ_=>⟨g,hlt,hb⟩⟩,hbl⟩
  ·exact(Lt y b d h _ c3 k w n p f i pe r oM).mono λ_ _ ⟨e,hbl⟩=>⟨.inr ⟨3,by decide,by decide,e,λq=>absurd a q,λ_ q=>absurd q o,λ_ _ _=>⟨λ_=>rfl,λq=>absurd q hlt,λq=>absurd q hlt⟩,λ_ _ q=>absurd hn q⟩,hbl⟩
 ·have i:Q8 k=false:=by unfold Q8;unfold In at hn;exact dF
  exact(Kd y b d h _ c3 k w n p f i).mono λ_ _ ⟨e,hbl⟩=>⟨.inl ⟨e,a,o,λq=>absurd q hn⟩,hbl⟩
theorem Qf.j2 (h:Qf x y m)(a:zM y.d):QO ⟨y.v,y.f,y.j,y.w,y.h,y.x⟩ y.c:=⟨h.party a,by have:=(h.j4 a).1;have:=(h.j4 a).2.1;unfold In;omega⟩
def nc (x:zY)(b c:Option Addr)(c1 c2:Nat)(L C A B D:Nat->Value)(a:Int)(y:qD)(m base h:Nat)(e:Ending)(w':World):Prop :=
 ∃ (z:zY) (d:Option Addr) (f:Nat) (name price:Int) (g:Value) (E:Nat->Value),e=.returned (.tuple #[.agg #[(b,x.i,c1),(c,x.l,c2),(d,z.g,f)],.agg #[(),name,price,g]]) /\
  zz w' base (b,x.i,c1) (c,x.l,c2) (d,z.g,f) x.i x.l z.g z L C A B D E/\Eg x a y m z 0 name price/\EF x y h w' g
theorem Lx (x:zY)(I t s:Option Addr)(c1 c2 c3 base:Nat)(L C A B D E:Nat->Value)(j:Int)(y:qD)(f:Option Addr)(n m:Nat)(w:World)(hT:At x.i x.G)(M:x.g<=30)(W:x.l=x.i)(S:∀ i,i<x.g->Q6 x.i x.G (x.u i).c (x.u i).J)(d:Qf x y m)(o:y.d=2∨y.d=3->x.g<30)
  (J:∀ V,Below base w V->Zn V/\Zp V) (G:zS w f y.c y.J) (h9:y.d=9->zY.Short x 1048576/\∀ k,k<x.i->qf (x.G k) (x.F k)) (K:base<=w.heap.size) (a:zz w base (I,x.i,c1) (t,x.l,c2) (s,x.g,c3) x.i x.l x.g x L C A B D E) :
  Calls prog 111 #[.agg #[(I,x.i,c1),(t,x.l,c2),(s,x.g,c3)],j,.agg (y,f,n)] w λe w'=>nc x I t c1 c2 L C A B D j y m base w.heap.size e w'/\zl w w' (λb=>(Value.slice s x.g c3).ownBlock=some b):=by
 have N:=d.1.1;unfold In at N;have p:=J w bZ
 by_cases k1:y.d=1
 ·refine bM (ik x I t s c1 c2 c3 j y f n w k1 p.1 p.2 (d.j2 (.inl k1))) λw' r=>?_
  exact⟨⟨x,s,c3,_,_,_,E,rfl,a.j0 r,.inl ⟨k1,rfl,rfl,rfl,rfl⟩,λq=>by omega,λ_=>rfl⟩,zl.of_below r⟩
 by_cases k9:y.d=9
 ·obtain⟨hs,a0⟩:=h9 k9
  have a5:=by have:=d.1.2.2.2.1;unfold Zj at this;rw[Je (by unfold zM;omega),Jf k9] at this;exact this
  obtain⟨k,U⟩:∃ k,zX x.G (y.J 0) x.i=k:=⟨_,rfl⟩;have l:=by
   have:=CM x.G (y.J 0) x.i
   by_cases c:k<x.i
   ·exact c
   ·exact absurd (.inr ⟨k9,by omega⟩) d.2.1
  have T:(x.G k).S=y.J 0:=by rw[← U];exact CN _ _ _ oM
  refine(il x I t s c1 c2 c3 k j y f n w k9 hs a.G.at a.F.at a.u.at M W oM G U l (a0 k l)).mono ?_;rintro e w' ⟨⟨v,rfl,hr⟩,r⟩;rw[T] at hr;exact⟨⟨x,s,c3,_,_,v,E,rfl,a.j0 r,.inr (.inl ⟨k9,rfl,rfl,rfl,rfl⟩),λ_=>⟨k,U,l,hr⟩,λq=>absurd k9 q⟩,zl.of_below r⟩
 by_cases k23:y.d=2∨y.d=3
 ·have hu:y.d=3->y.y=0:=λh3=>by have:=d.1.2.2.2.2.2.1;unfold AT at this;omega
  have F:zM y.d:=by unfold zM;omega
  obtain⟨st,a4⟩:∃ st:Int,(y.d=2/\st=1)∨(y.d=3/\st=2):=by
   rcases k23 with h|h
   ·exact⟨1,.inl ⟨h,rfl⟩⟩
   ·exact⟨2,.inr ⟨h,rfl⟩⟩
  refine(SN x I t s c1 c2 c3 _ L C A B D E j st y f n w a4 p.1 p.2 (d.j2 F) G hu (o k23) K a).mono ?_;rintro e w' ⟨⟨g,R,Q,rfl,Z⟩,r⟩;exact⟨⟨_,g,R,_,_,_,Q,rfl,Z,.inr (.inr (.inr (.inl ⟨k23,o k23,rfl,rfl,rfl,rfl⟩))),λq=>by omega,λ_=>rfl⟩,r⟩
 ·have Y:In y.d 4 8:=by unfold In;omega
  obtain⟨O,X,_⟩:=d.2.2 Y;have u:=S m X;obtain⟨k0,z⟩:∃ k,zX x.G ((x.u m).J 0) x.i=k:=⟨_,rfl⟩;have l:k0<x.i:=by rw[← z];exact(u.2.2 0 u.1).1
  obtain⟨sb,e1,_,_⟩:=qr a.G.row oM;obtain⟨gb,e3,_,_⟩:=qr a.u.row oM;subst e1;subst e3;have H:=(hT.2 k0 l).1;have P:y.d=6->In y.D 0 1000000:=λ_=>by have:=d.1.2.2.2.2.2.2;unfold DZ In at this;unfold In;omega
  refine(Ow x t sb gb c1 c2 c3 _ m k0 L C A B D E j y f n w Y O X M (by have:=hT.1;omega) u.1 z l ⟨⟨H.2.2.2.2.1,by have:=H.2.2.2.2.2.1;have:=H.2.2.2.2.2.2.1;omega⟩,P⟩ J (λh5=>⟨d.j2 (.inr (.inr (.inr h5))),G⟩) K a).mono ?_
  rintro e w' ⟨⟨Q,rfl,Z⟩,r⟩;refine⟨⟨{ x with u:=Qq _ m _ },_,c3,_,_,_,Q,rfl,Z,.inr (.inr (.inr (.inr ⟨Y,X,rfl,rfl,O.symm,?_⟩))),λq=>absurd q k9,λ_=>rfl⟩,r.mono (λb e=>by rw[show _ from e];rfl)⟩
  unfold Pq Dq;rw[z]
theorem Hx {F:Nat->Int}{n:Nat}{x:Int}(h:∀ i,i<n->¬ Qh F i (F i)){r a:Nat}(hr:r<n)(e:F r=x)(b:a<n)(d:F a=x):r=a:=by
 rcases Nat.lt_trichotomy r a with c|c|c
 ·exact absurd ⟨r,c,by rw[e,d]⟩ (h a b)
 ·exact c
 ·exact absurd ⟨a,c,by rw[e,d]⟩ (h r hr)
theorem qE.one {s:qe}{w:Wk}{x y f:zw}{c:Int}(h:qE s w x c y)(b:qE s w x c' f)(d:qf s x):c=c'/\y=f:=by
 cases h with
 |noStay r e g h q =>
  cases b with
  |noStay r' e' g' b q' =>
   obtain rfl:=Hx d.stays_one h q b q';exact⟨rfl,rfl⟩
  |_=>first | (exfalso;omega) | (exfalso;simp_all)
 |noRoom r e g h q =>
  cases b with
  |noRoom r' e' g' b q' =>
   obtain rfl:=Hx d.rooms_one h q b q';exact⟨rfl,rfl⟩
  |_=>first | (exfalso;omega) | (exfalso;simp_all)
 |noSeat r e g h q =>
  cases b with
  |noSeat r' e' g' b q' =>
   obtain rfl:=Hx d.seats_one h q b q';exact⟨rfl,rfl⟩
  |_=>first | (exfalso;omega) | (exfalso;simp_all)
 |addStay k e g h =>
  cases b with
  |addStay k' e' g' b =>
   have q:=DF h b;obtain rfl:k=k':=by omega
   exact⟨rfl,rfl⟩
  |deck e' g' b=>have q:=DF h b;exfalso;omega
  |_=>first | (exfalso;omega) | (exfalso;simp_all)
 |deck e g h =>
  cases b with
  |addStay k' e' g' b=>have q:=DF h b;exfalso;omega
  |deck=>exact⟨rfl,rfl⟩
  |_=>first | (exfalso;omega) | (exfalso;simp_all)
 |addWhole k e g a h =>
  cases b with
  |addWhole k' e' g' a' b =>
   have q:=CF h b;obtain rfl:k=k':=by omega
   exact⟨rfl,rfl⟩
  |allof e' g' a' b=>have q:=CF h b;exfalso;omega
  |_=>first | (exfalso;omega) | (exfalso;simp_all)
 |allof e g a h =>
  cases b with
  |addWhole k' e' g' a' b=>have q:=CF h b;exfalso;omega
  |allof=>exact⟨rfl,rfl⟩
  |_=>first | (exfalso;omega) | (exfalso;simp_all)
 |addBerth k e g a h =>
  cases b with
  |addBerth k' e' g' a' b =>
   have q:=CF h b;obtain rfl:k=k':=by omega
   exact⟨rfl,rfl⟩
  |berth e' g' a' b=>have q:=CF h b;exfalso;omega
  |_=>first | (exfalso;omega) | (exfalso;simp_all)
 |berth e g a h =>
  cases b with
  |addBerth k' e' g' a' b=>have q:=CF h b;exfalso;omega
  |berth=>exact⟨rfl,rfl⟩
  |_=>first | (exfalso;omega) | (exfalso;simp_all)
 |addSeat e g hn hs =>
  cases b with
  |addSeat=>exact⟨rfl,rfl⟩
  |seats e' g' b=>exfalso;omega
  |_=>first | (exfalso;omega) | (exfalso;simp_all)
 |seats e g h =>
  cases b with
  |addSeat e' g' hn hs=>exfalso;omega
  |seats=>exact⟨rfl,rfl⟩
  |_=>first | (exfalso;omega) | (exfalso;simp_all)
theorem ET.last {l:List Wk}{L M:Nat->zw}(h:ET x l L M):∀ {a:List Wk}{v:Wk},l=a++[v]->∃ M1 k z,ET x a L M1/\zX x.G v.j5 x.i=k/\k<x.i/\qE (x.G k) v (M1 k) 0 z/\M=Ew M1 k z:=by
 cases h with
 |nil=>intro a v e;simp at e
 |snoc l1 _ M1 v1 k z h hk hl hw =>
  intro a v e;obtain⟨b,c⟩:=List.append_inj' e rfl;have d:=by simpa using c
  subst b d;exact⟨M1,k,z,h,hk,hl,hw,rfl⟩
theorem ET.none {l:List Wk}{L M:Nat->zw}(h:ET x l L M)(e:l=[]):M=L:=by
 cases h with
 |nil=>rfl
 |snoc=>simp at e
theorem FH {l:List Wk}{v:Wk}(h:l[j]?=some v):l.take (j+1)=l.take j++[v]:=by
 rw[List.take_add_one,h];rfl
theorem FI {l:List Wk}(n:qS x)(o:l.Pairwise DN)(f:∀ v ∈ l,ex x x.F v/\SG x v):∀ j M M',j<=l.length->ET x (l.take j) x.F M->ET x (l.take j) x.F M'->M=M'/\Q2 x l j M
 |0,M,M',_,h,h'=>by
  obtain rfl:=h.none (List.take_zero);obtain rfl:=h'.none (List.take_zero);exact⟨rfl,Q2.start n (λv a=>(f v a).1)⟩
 |j+1,M,M',hj,h,h'=>by
  obtain⟨v,a⟩:∃ v,l[j]?=_:=⟨_,List.getElem?_eq_getElem oM⟩;obtain⟨q,k,z,r,g,i,m,rfl⟩:=h.last (FH a);obtain⟨b,k',z',c,d,s,e,rfl⟩:=h'.last (FH a);obtain⟨rfl,p⟩:=FI n o f j q b oM r c;obtain rfl:=g.symm.trans d;obtain⟨_,rfl⟩:=m.one e (p.good k i);exact⟨rfl,p.next o a g i (f v (List.mem_of_getElem? a)).2 m⟩
theorem ET.back {l:List Wk}{L:Nat->zw}(j:Nat):∀ d M,j+d<=l.length->ET x (l.take (j+d)) L M->∃ a,ET x (l.take j) L a
 |0,M,_,h=>⟨M,h⟩
 |d+1,M,hj,h=>by
  obtain⟨v,c⟩:∃ v,l[j+d]?=_:=⟨_,List.getElem?_eq_getElem oM⟩;obtain⟨a,k,z,b,_⟩:=ET.last h (FH c);exact ET.back j d a oM b
theorem cx {l:List Wk}(o:qS x)(q:l.Pairwise DN)(p:∀ v ∈ l,ex x x.F v/\SG x v){b k:Nat}{M e:Nat->zw}{v:Wk}(s:Q2 x l j M)(c:Q2 x l b e)(hj:j<b)(hl:b<=l.length)(t:l[j]?=some v)(r:zX x.G v.j5 x.i=k)(u:qE (x.G k) v (M k) a (M k)):a=0:=by
 obtain⟨M1,g⟩:=ET.back (l:=l) (j+1) (b - (j+1)) e oM (by rw[show j+1+(b - (j+1))=b by omega];exact c.done)
 obtain⟨f,k2,z,h,i,m,n,_⟩:=g.last (FH t);obtain⟨rfl,d⟩:=FI o q p j M f oM s.done h;obtain rfl:=r.symm.trans i;exact(u.one n (d.good k m)).1
theorem DI.one {R:Nat}{c:Int}(h:DI R m x y c)(a:DI R m x y c'):c=c':=by
 by_cases q:R<=m
 ·rw[h.1 q,a.1 q]
 ·by_cases p:CH (x.u m) y
  ·rw[h.2.1 oM p,a.2.1 oM p]
  ·rw[h.2.2 oM p,a.2.2 oM p]
theorem ZT.one {R:Nat}{c:Int}(h:ZT N R m x y c)(a:ZT N R m x y c'):c=c':=by
 by_cases q:QE y
 ·by_cases p:QR N x y
  ·rw[h.2.1 q p,a.2.1 q p]
  ·by_cases r:In y.d 4 8
   ·exact(h.2.2.1 q p r).one (a.2.2.1 q p r)
   ·rw[h.2.2.2 q p r,a.2.2.2 q p r]
 ·rw[h.1 q,a.1 q]
theorem Qf.zero {c:Int}(h:Qf x y m)(a:ZT x.i x.g m x y c):c=0:=by
 by_cases r:In y.d 4 8
 ·obtain⟨_,b,d⟩:=h.2.2 r
  exact(a.2.2.1 h.1 h.2.1 r).2.2 b d
 ·exact a.2.2.2 h.1 h.2.1 r
theorem Eg.one {a e:zY}{c f:Int}(h:Eg x b y m a c n p)(i:Eg x b y m e c' f p'):a=e/\c=c'/\n=f/\p=p':=by
 rcases h with⟨k,rfl,rfl,rfl,rfl⟩|⟨k,rfl,rfl,rfl,rfl⟩|⟨k,q,rfl,rfl,rfl,rfl⟩|⟨k,q,rfl,rfl,rfl,rfl⟩|⟨k,q,rfl,rfl,rfl,rfl⟩ <;>
  rcases i with⟨d,rfl,rfl,rfl,rfl⟩|⟨d,rfl,rfl,rfl,rfl⟩|⟨d,g,rfl,rfl,rfl,rfl⟩|⟨d,g,rfl,rfl,rfl,rfl⟩|⟨d,g,rfl,rfl,rfl,rfl⟩ <;>
  first|exact⟨rfl,rfl,rfl,rfl⟩|(exfalso;(try unfold In at k);(try unfold In at d);omega)
theorem EU.one {l:Int}{a K:zY}{c N:Int}(D:qS x)(L:Cq x.g x.u l)(h:EU x l y m a c n p)(Q:EU x l y m K c' N p'):a=K/\c=c'/\n=N/\p=p':=by
 have w:Qf x y m->_:=λd=>FE D d L.1 L.2
 have i:∀ {c c':Int} {j J M z v k},_->c≠0->Q2 x _ j M->_->_->qE _ v _ c (M k)->Q2 x _ J z->_->¬ _:=λd R g t B C b I T=>R (cx D (w d).1 (w d).2 g b T I t B C)
 rcases h with⟨A,rfl,rfl,rfl,G⟩|⟨d,A,rfl,rfl,rfl,j,M,v,k,g,t,B,I,C⟩|⟨d,M,x3,g,S,O,P⟩ <;>
  rcases Q with⟨f,rfl,rfl,rfl,o⟩|⟨s,f,rfl,rfl,rfl,J,z,v',k',b,e,r,U,u⟩|⟨s,z,V,b,H,E,F⟩
 ·exact⟨rfl,G.one o,rfl,rfl⟩
 ·exact absurd (s.zero G) A
 ·exact absurd (s.zero G) A
 ·exact absurd (d.zero o) f
 ·have q:=(List.getElem?_eq_some_iff.1 t).1
  have q':=(List.getElem?_eq_some_iff.1 e).1;have n1:=i (c':=c) d A g t B C b oM;have n2:=i (c':=c) d f b e r u g oM;obtain rfl:j=J:=by omega
  obtain rfl:=by rw[t] at e;exact Option.some.inj e
  obtain rfl:=B.symm.trans r;obtain⟨rfl,_⟩:=FI D (w d).1 (w d).2 j M z oM g.done b.done;exact⟨rfl,(C.one u (g.good k I)).1,rfl,rfl⟩
 ·exact absurd (List.getElem?_eq_some_iff.1 t).1 (i (c':=c) d A g t B C b (Jr _))
 ·exact absurd (d.zero o) f
 ·exact absurd (List.getElem?_eq_some_iff.1 e).1 (i (c':=c) d f b e r u g (Jr _))
 ·obtain⟨rfl,_⟩:=FI D (w d).1 (w d).2 _ M z (Jr _) g.done b.done
  obtain⟨rfl,rfl,rfl,rfl⟩:=S.one H;refine⟨?_,rfl,rfl,rfl⟩
  by_cases q:c≠0∨y.d=1
  ·rw[O q,E q]
  ·rw[P q,F q]
theorem Ly (h:y.d=9):qB x a y m=[]:=by
 unfold qB;rw[Je (by unfold QH;omega),Je (by unfold zM;omega)]
 rfl
theorem Q2.nine {M:Nat->zw}(h:Q2 x (qB x a y m) (qB x a y m).length M)(h9:y.d=9):M=x.F:=by
 have b:∀ l K,ET x l x.F K->l=[]->K=x.F:=λl K h e=>by
  cases h with
  |nil=>rfl
  |_=>simp at e
 exact b _ _ h.done (by rw[Ly h9];rfl)
theorem Ns {l:zY}(h:EU x b y m l a name price)(i:Qf x y m)(h9:y.d=9):a=0:=by
 rcases h with⟨d,_,_,_,f⟩|⟨_,d,_,_,_,j,M,v,k,_,c,_⟩|⟨_,M,x3,_,g,_⟩
 ·exact i.zero f
 ·rw[Ly h9] at c;simp at c
 ·rcases g with⟨k,_,e,_⟩|⟨k,_,e,_⟩|⟨k,_⟩|⟨k,_⟩|⟨k,_⟩
  ·exact e
  ·exact e
  all_goals (exfalso;(try unfold In at k);omega)
def iy (x:zY)(y:qD)(m:Nat)(a:Int)(N:Nat)(T:Nat->Ao):Prop :=
 (N=0/\(y.d=9->a≠0)) ∨
 (y.d=9/\Qf x y m/\N=(ZU (x.F (zX x.G (y.J 0) x.i)) x.u (y.J 0) x.g).length/\T=BS (ZU (x.F (zX x.G (y.J 0) x.i)) x.u (y.J 0) x.g))
def iz (x:zY):zY:={ x with i:=0,l:=0,g:=0 }
def ja (x:zY)(b:Int)(y:qD)(m:Nat)(c:zY)(a name price:Int)(N:Nat)(T:Nat->Ao)(ok:Bool):Prop :=
 ((qS x/\Cq x.g x.u b)/\ok=true/\EU x b y m c a name price/\iy x y m a N T) ∨
 (¬ (qS x/\Cq x.g x.u b)/\ok=false/\c=iz x/\a=0/\name=0/\price=0/\N=0)
theorem ja.one {a s:zY}{c u:Int}{T l:Nat->Ao}{o v:Bool}(h:ja x b y m a c n p N T o)(A:ja x b y m s c' u p' j l v):a=s/\c=c'/\n=u/\p=p'/\N=j/\(N=0∨T=l)/\o=v:=by
 rcases h with⟨⟨w,z⟩,rfl,h1,h2⟩|⟨q,rfl,rfl,rfl,rfl,rfl,rfl⟩ <;> rcases A with⟨⟨f,g⟩,rfl,d,e⟩|⟨B,rfl,rfl,rfl,rfl,rfl,rfl⟩
 ·obtain⟨rfl,rfl,rfl,rfl⟩:=h1.one w z d
  refine⟨rfl,rfl,rfl,rfl,?_⟩
  rcases h2 with⟨rfl,r⟩|⟨k,r,rfl,rfl⟩ <;> rcases e with⟨rfl,i⟩|⟨t,i,rfl,rfl⟩
  ·exact⟨rfl,.inl rfl,rfl⟩
  ·exact absurd (Ns h1 i t) (r t)
  ·exact absurd (Ns h1 r k) (i k)
  ·exact⟨rfl,.inr rfl,rfl⟩
 ·exact absurd ⟨w,z⟩ B
 ·exact absurd ⟨f,g⟩ q
 ·exact⟨rfl,rfl,rfl,rfl,rfl,.inl rfl,rfl⟩
def GQ (base c:Nat)(a:zY)(b name price:Int)(N:Nat)(T:Nat->Ao)(ok:Bool)(e:Ending)(w':World):Prop :=
 ∃ a1 c1 a2 c2 a3 c3 ar cr L C A B D E,e=.returned (.tuple #[.agg #[(a1,a.i,c1),(a2,a.l,c2),(a3,a.g,c3)],.agg #[b,name,price,(ar,N,cr)],ok]) /\
  zz w' base (.slice a1 a.i c1) (.slice a2 a.l c2) (.slice a3 a.g c3) a.i a.l a.g a L C A B D E/\w'.ownsRow c 203 5 (.slice ar N cr) N (Zh T N)
theorem Ta (T a:Nat->Ao)(h:N=0∨T=a):Zh T N=Zh a N:=by
 rcases h with rfl|rfl <;> rfl
theorem Cj (w:World)(base e size:Nat):w.ownsRow base e size True 0 []:=⟨by simp,.inl ⟨rfl,rfl⟩⟩
theorem Rc (w:World)(base:Nat)(x:zY):zz w base True True True 0 0 0 x (λ_=>.nilFunc) (λ_=>.nilFunc) (λ_=>.nilFunc) (λ_=>.nilFunc) (λ_=>.nilFunc) (λ_=>.nilFunc) :=
 ⟨⟨Cj w base _ _,λi h=>absurd h oM,λi h=>absurd h oM,λi j _ h=>absurd h oM⟩,
  ⟨Cj w base _ _,λi h=>absurd h oM,λi h=>absurd h oM,λi h=>absurd h oM,⟨λi j h=>absurd h oM,λi j h=>absurd h oM,λi j h=>absurd h oM⟩⟩,
  ⟨Cj w base _ _,λi h=>absurd h oM,λi j _ h=>absurd h oM⟩⟩
theorem GQ.no (x:zY)(base a:Nat)(T:Nat->Ao)(w':World):GQ base a (iz x) 0 0 0 0 T false (.returned (.tuple #[.agg #[.slice none 0 0,.slice none 0 0,.slice none 0 0],.agg #[int i64 0,int i64 0,int i64 0,.slice none 0 0],.bool false])) w' :=
 ⟨none,0,none,0,none,0,none,0,_,_,_,_,_,_,rfl,Rc w' base (iz x),Cj w' a _ _⟩
theorem GQ.rows {d:zY}{T b:Nat->Ao}{ok:Bool}{e:Ending}{w':World}(h:GQ base c d a name price N T ok e w')(q:N=0∨T=b):GQ base c d a name price N b ok e w':=by
 unfold GQ at h ⊢;rw[Ta T b q] at h;exact h
theorem cy (d:qS x)(b:Qf x y m):(qB x a y m).length<=18:=by
 unfold qB;have q1:=Kn b.1;have q2:=QL true (x.u m).e ⟨(x.u m).v,(x.u m).f,(x.u m).j,(x.u m).w,(x.u m).h,(x.u m).x⟩ (x.u m).J (x.u m).c;have q3:=QL false a ⟨y.v,y.f,y.j,y.w,y.h,y.x⟩ y.J y.c;have f:=λe=>(d.2.2.2.2.1 m (b.2.2 (Bn e)).2.1).2.2.2.1.2.1
 rw[List.length_append];have p1:(if QH y.d then Za true (x.u m).e ⟨(x.u m).v,(x.u m).f,(x.u m).j,(x.u m).w,(x.u m).h,(x.u m).x⟩ (x.u m).J (x.u m).c else []).length<=9:=by
  by_cases c:QH y.d
  ·rw[Jf c];have:=f c;omega
  ·rw[Je c];decide
 have p2:(if zM y.d then Za false a ⟨y.v,y.f,y.j,y.w,y.h,y.x⟩ y.J y.c else []).length<=9:=by
  by_cases c:zM y.d
  ·rw[Jf c];omega
  ·rw[Je c];decide
 omega
def ll (pe:Nat->Addr)(x:zY)(b:Int)(y:qD)(m base l:Nat)(e:Ending)(w':World):Prop :=
 (∃ (a:zY) (d:Option Addr) (h:Nat) (f:Option Addr) (i:Nat) (g:Option Addr) (j:Nat) (name price:Int) (k:Value) (L C A B D E:Nat->Value) (M:Nat->zw),e=.returned (.tuple #[.agg #[(d,a.i,h),(f,a.l,i),(g,a.g,j)],.agg #[(),name,price,k]]) /\
  zz w' base (d,a.i,h) (f,a.l,i) (g,a.g,j) a.i a.l a.g a L C A B D E/\EU x b y m a 0 name price/\Q2 x (qB x b y m) (qB x b y m).length M/\EF { x with F:=M } y l w' k) ∨
 (∃ c:Nat,1<=c/\c<=8/\e=GK pe c/\EU x b y m x (c:Int) 0 0)
theorem Cp.putL {a c b:Value}{os:Array Value}(h:Cp w u a c b os)(q:Value):Cp w (u.setCell (w.heap.size,1) q) a q b os :=
 ⟨by simpa using zk h.bo 1 q,zG (b':=w.heap.size) h.bp 1 q oM,zG (b':=w.heap.size) h.br 1 q oM,zG (b':=w.heap.size) h.ba 1 q oM⟩
theorem Rd (x:zY)(H a2 S:Option Addr)(c1 c2 c3 base:Nat)(L C A B D E:Nat->Value)(Q:Int)(y:qD)(o:Option Addr)(s m:Nat)(pe:Nat->Addr)(w:World)(hO:qS x)(hs:zY.Short x 1048576)(e8:Cq x.g x.u Q)(hF:Ze w)(e6:∀ V,Below base w V->Zn V/\Zp V)(he:qI w pe)
  (f4:zS w o y.c y.J) (f8:qm o y.c s) (ho:y.j1.size<=1048576) (hl:y.c<=1048576) (hm:QE y->In y.d 4 8->y.k=(m:Int)+1) (b1:base<=w.heap.size) (c9:zz w base (H,x.i,c1) (a2,x.l,c2) (S,x.g,c3) x.i x.l x.g x L C A B D E) :
  Calls prog 53 #[.agg #[(H,x.i,c1),(a2,x.l,c2),(S,x.g,c3)],Q,.agg (y,o,s)] w λe w'=>ll pe x Q y m base w.heap.size e w'/\zl w w' (λb=>(Value.slice S x.g c3).ownBlock=some b):=by
 have F:=hI hO;have HS:=hI hs;have b6:=hI e8;have HF:=hI hF;have e5:=hI e6;have HE:=hI he;have X:Hid (_/\_):=⟨f4,f8⟩;have f9:=hI hm;have P:=hI c9;have d9:=hO.2.2.1;have e4:=hI hO.2.1;have h:=hI (Cp.start w (H,x.i,c1) (a2,x.l,c2) (S,x.g,c3) (y,o,s));have f:Below w w ((((w.alloc (.cells #[(H,x.i,c1),(a2,x.l,c2),(S,x.g,c3)] 38)).alloc (.cells (y,o,s) 47)).alloc (.cells #[True,True,True] 38)).alloc (.cells #[(),(),(),True] 41)):=zd (zd (zd (zd bZ _) _) _) _;clear hO hs e8 hF e6 he f4 f8 hm c9;go_enter func53,ntmps53;go_upto_region 1 with fail;generalize (((w.alloc _).alloc _).alloc _).alloc _=U at h f ⊢;obtain⟨f0,f1,f2⟩:=ZE h.bo;obtain⟨g0,g1,g2,g3,g4,g5,g6,g7,g8,g9,I,J⟩:=DQ h.bp;go_wp2_with fail;clear f0 f1 f2 g0 g1 g2 g3 g4 g5 g6 g7 g8 g9 I J;refine(cq x y H o c1 s m pe U F HS (HF.j0 f) (HE.j0 f) ⟨o,s,rfl,X.1.j0 f,X.2⟩ ho hl (X.1.j0 f) (P.j0 f).G.at).mono ?_;rintro e U1 ⟨hA|⟨c,h1,h8,rfl,e0⟩,n⟩
 case inr =>
  have b2:(c:Int)≠0:=oM;unfold GK;dsimp only;exact⟨rfl,.inr ⟨c,h1,h8,rfl,.inl ⟨b2,rfl,rfl,rfl,e0⟩⟩,zl.of_below (zb f n)⟩
 obtain⟨rfl,f6,hR⟩:=hA;replace h:=hI (h.j0 n);replace f:=zb f n;clear n U;have d4:Hid (_/\_):=⟨f6,hR⟩;clear f6 hR;obtain⟨f0,f1,f2⟩:=ZE h.bo;obtain⟨g0,g1,g2,g3,g4,g5,g6,g7,g8,g9,I,J⟩:=DQ h.bp;go_wp2_with fail;clear f0 f1 f2 g0 g1 g2 g3 g4 g5 g6 g7 g8 g9 I J;refine(ct x y S o c3 s m pe U1 d9 (HF.j0 f) (HE.j0 f) d4.1 d4.2 f9 (P.j0 f).u.at).mono ?_;rintro e U2 ⟨hA|⟨c,h1,h8,rfl,e0⟩,n⟩
 case inr =>
  have b2:(c:Int)≠0:=oM;unfold GK;dsimp only;exact⟨rfl,.inr ⟨c,h1,h8,rfl,.inl ⟨b2,rfl,rfl,rfl,e0⟩⟩,zl.of_below (zb f n)⟩
 obtain⟨rfl,f5⟩:=hA;have r:=hI f5;replace h:=hI (h.j0 n);replace f:=zb f n;clear n U1 f5 d4;go_upto_region 3 with fail;replace h:=hI (h.j0 (Ji _ U2).drew);replace f:=f.drew;refine qt 8 8 (λu=>u.cell? (w.heap.size,0)=some (H,x.i,c1)/\u.cell? (w.heap.size,1)=some (a2,x.l,c2)/\u.cell? (w.heap.size,2)=some (S,x.g,c3)/\u.cell? (w.heap.size+1,0)=some (int i64 y.d)/\u.cell? (w.heap.size+1,1)=some (.string y.j1)/\u.cell? (w.heap.size+1,2)=some (int i64 y.k)/\u.cell? (w.heap.size+1,3)=some (o,y.c,s)/\u.cell? (w.heap.size+1,4)=some (int i64 y.v)/\u.cell? (w.heap.size+1,5)=some (int i64 y.f)/\u.cell? (w.heap.size+1,6)=some (int i64 y.j)/\u.cell? (w.heap.size+1,7)=some (int i64 y.w)/\u.cell? (w.heap.size+1,8)=some (.bool y.h)/\u.cell? (w.heap.size+1,9)=some (int i64 y.x)/\u.cell? (w.heap.size+1,10)=some (int i64 y.y)/\u.cell? (w.heap.size+1,11)=some (int i64 y.D)) rfl kR (⟨bC h.bo 0,bC h.bo 1,bC h.bo 2,bC h.bp 0,bC h.bp 1,bC h.bp 2,bC h.bp 3,bC h.bp 4,bC h.bp 5,bC h.bp 6,bC h.bp 7,bC h.bp 8,bC h.bp 9,bC h.bp 10,bC h.bp 11⟩) (λhS=>?_)
 simp only[List.replicate_succ,List.replicate_zero];generalize U2.drew=u0 at h f hS ⊢
 iterate 5 refine QD 0 ?_
 refine Ay 5 λK hK=>?_
 go_simp;go_at_call 109;obtain⟨k,hk,e9,h4⟩:=Lw r.1;refine Jm (Mv x S c3 Q y o s k m u0 (HF.j0 f) hk e9 (P.j0 f).u.at (λhf=>by obtain⟨q1,q2,_⟩:=r.2.2 (Bn hf);have e7:=F.2.2.2.2.1 m q2;exact⟨q1,q2,e7.2.2.2.1.2.1,Nb e7.2.2.2.2.1⟩) (λhh=>⟨(r.j4 hh).2.1,Nb (r.party hh)⟩) (X.1.j0 f) oM) ?_
 rintro e u1 ⟨⟨v,rfl,b9⟩,n⟩;clear hk e9 h4 k;obtain⟨l,b8⟩:=nM (qB x Q y m);have d6:Hid (l.Pairwise DN/\(∀ v ∈ l,ex x x.F v/\SG x v)/\l.length<=18):=by
  rw[b8];exact⟨(FE F r b6.1 b6.2).1,(FE F r b6.1 b6.2).2,cy F r⟩
 rw[← b8] at b9;have HL:=hI b8;obtain⟨aw,cw,rfl,_⟩:=zn b9;have h0:Hid _:=b9;dsimp only;replace h:=hI (h.j0 n);replace f:=zb f n;refine hK _ _ (⟨bC h.bo 0,bC h.bo 1,bC h.bo 2,bC h.bp 0,bC h.bp 1,bC h.bp 2,bC h.bp 3,bC h.bp 4,bC h.bp 5,bC h.bp 6,bC h.bp 7,bC h.bp 8,bC h.bp 9,bC h.bp 10,bC h.bp 11⟩) (λhS=>?_)
 clear hK K n b9 b8;refine Ay 6 λK hK=>?_
 go_simp;go_at_call 108;refine Jm (SV x H a2 S c1 c2 c3 L C A B D E l aw cw _ _ pe u1 F HS d6.1 d6.2.1 (HE.j0 f) (P.j0 f) (Jp b1 f.size) h0 d6.2.2) ?_;rintro e u2 ⟨hA|⟨j,M,v,k,c,rfl,h1,h8,c0,hv,hk,h5,h7⟩,n⟩
 case inr =>
  have b2:(c:Int)≠0:=oM;unfold GK;dsimp only;exact⟨rfl,.inr ⟨c,h1,h8,rfl,.inr (.inl ⟨r,b2,rfl,rfl,rfl,j,M,v,k,by rw[← HL.out];exact c0,by rw[← HL.out];exact hv,hk,h5,h7⟩)⟩,zl.of_below (zb f n)⟩
 obtain⟨M,ga,gc,A2,B2,D2,rfl,c0,f7⟩:=hA;have Z:=hI c0;have b7:=hI f7;dsimp only;replace h:=hI (h.j0 n);replace f:=zb f n;refine hK _ _ (⟨bC h.bo 0,bC h.bo 1,bC h.bo 2,bC h.bp 0,bC h.bp 1,bC h.bp 2,bC h.bp 3,bC h.bp 4,bC h.bp 5,bC h.bp 6,bC h.bp 7,bC h.bp 8,bC h.bp 9,bC h.bp 10,bC h.bp 11⟩) (λhS=>?_)
 clear hK K n c0 f7;refine QD 7 ?_;refine qh kR ?_ _;clear hS;obtain⟨f0,f1,f2⟩:=ZE h.bo;obtain⟨g0,g1,g2,g3,g4,g5,g6,g7,g8,g9,I,J⟩:=DQ h.bp;go_wp2_with fail;clear f0 f1 f2 g0 g1 g2 g3 g4 g5 g6 g7 g8 g9 I J
 by_cases hf:(y.d=2∨y.d=3)/\30<=x.g
 case pos =>
  refine bM (Mq y o s S _ c3 pe u2 (HE.j0 f) hf.1 hf.2) λU3 n=>?_
  dsimp only;refine⟨rfl,.inr ⟨8,by decide,by decide,rfl,.inr (.inr ⟨r,M,_,by rw[← HL.out];exact Z,.inr (.inr (.inl ⟨hf.1,?_,rfl,rfl,rfl,rfl⟩)),λ_=>rfl,λq=>absurd (.inl dC) q⟩)⟩,zl.of_below (zb f n)⟩
  show x.g=30
  have:=hf.2
  omega
 have a6:=hI (λq=>by
  by_cases d:x.g<30
  ·exact d
  ·exact absurd ⟨q,by omega⟩ hf)
 refine bM (Om y o s S _ c3 pe u2 (HE.j0 f) (by by_cases q:y.d=2∨y.d=3;exact .inr (a6 q);exact .inl q)) λU3 n=>?_
 replace h:=hI (h.j0 n);replace b7:=hI (b7.j0 n);replace f:=zb f n;clear n hf
 by_cases k1:y.d=1
 ·have d1:(y.d != 1)=false:=by simpa using k1
  have d2:(y.d == 1)=true:=by simpa using k1
  have W:=hI k1;clear k1;have HO:=hI (P.j0 f);obtain⟨f0,f1,f2⟩:=ZE h.bo;obtain⟨g0,g1,g2,g3,g4,g5,g6,g7,g8,g9,I,J⟩:=DQ h.bp;go_wp2_with fail;refine(Lx x H a2 S c1 c2 c3 _ L C A B D E Q y o s m U3 F.1 d9 e4 (λi hi=>(F.2.2.2.2.1 i hi).2.2.2.1) r a6 (λV hV=>e5 V ((f.mono b1).trans (hV.mono (Jr _)))) (X.1.j0 f) (λq=>⟨HS,F.2.2.2.1⟩) (Jp b1 f.size) HO).mono ?_
  rintro e ws ⟨⟨z,b3,d3,name,price,rv,Ez,rfl,b5,b4,O⟩,N⟩;have a7:=hI b5;have a0:=hI b4;have a9:Hid _:=O;have t:=N.blk h.br (λe=>zQ HO.u.row h.br dC _ e rfl)
  have G:=N.blk h.ba (λe=>zQ HO.u.row h.ba dC _ e rfl)
  have a4:=hI ((zl.of_below f).trans N);obtain⟨ra,rn,rc,rfl⟩:∃ ra rn rc,rv=_:=by
   by_cases h9:y.d=9
   ·obtain⟨_,_,_,h3⟩:=O.1 h9
    obtain⟨ao,c,e,_⟩:=zn h3;exact⟨ao,_,c,e⟩
   ·exact⟨_,0,0,O.2 h9⟩
  clear b5 b4 O N;clear f0 f1 f2 g0 g1 g2 g3 g4 g5 g6 g7 g8 g9 I J;obtain⟨r0,r1,r2⟩:=ZE t;obtain⟨i0,e3,i3⟩:=FM t;obtain⟨t0,t1,t2,t3⟩:=Qk G;obtain⟨i4,i5,i6,i7⟩:=EV G;have k3:=QZ ws (w.heap.size+1+1) (H,x.i,c1) (a2,x.l,c2) (b3,z.g,d3);have k4:=Q0 (zW ws (w.heap.size+1+1) (H,x.i,c1) (a2,x.l,c2) (b3,z.g,d3)) (w.heap.size+1+1+1) () name price (ra,rn,rc);have R:=k3.blk G (show ¬ w.heap.size+1+1+1=w.heap.size+1+1 by omega)
  have a8:=hI ((a7.box k3 t dC).box k4 R dC);have b0:Hid _:=k4.blk (BN t (H,x.i,c1) (a2,x.l,c2) (b3,z.g,d3)) (show ¬ w.heap.size+1+1=w.heap.size+1+1+1 by omega)
  have d7:=hI (Cy R () name price (ra,rn,rc));have a5:=hI (kt a4 (H,x.i,c1) (a2,x.l,c2) (b3,z.g,d3) () name price (ra,rn,rc));have Y:Hid _:=FG a9 ((k3.mono (T:=λb=>_∨_) (λb e=>.inl e)).trans (k4.mono (λb e=>.inr e))) (λg e=>by rcases e with e|e;exact⟨_,_,by rw[e];exact t,by decide⟩;exact⟨_,_,by rw[e];exact G,by decide⟩)
  unfold Zg zW at a8 b0 a5 Y;clear k3 k4 R a7 a9 a4 G t;go_wp2;have Z3:=b0;have Z4:=d7;unfold zW at Z4;obtain⟨z0,z1,z2⟩:=ZE Z3;obtain⟨t0,t1,t2,t3⟩:=Qk Z4;refine Jj (v:=.tuple #[.agg #[(H,x.i,c1),(a2,x.l,c2),(b3,z.g,d3)],.agg #[(),name,price,(ra,rn,rc)]]) (by simp[results,results53,go_sem,z0,z1,z2,t0,t1,t2,t3]) rfl ?_
  obtain⟨e1,e2⟩:=a0.size;have hz:z=x/\name=0/\price=zP ⟨y.v,y.f,y.j,y.w,y.h,y.x⟩ y.c:=by
   rcases a0 with⟨_,q1,_,q2,q3⟩|⟨q,_⟩|⟨q,_⟩|⟨q,_⟩|⟨q,_⟩
   ·exact⟨q1,q2,q3⟩
   all_goals (have:=W.out;first|omega|(unfold In at q;omega))
  have h6:=Y;refine⟨.inl ⟨z,H,c1,a2,c2,b3,d3,_,_,_,L,C,A,B,D,Ez,M,by rw[e1,e2],by rw[e1,e2];exact a8.out,.inr (.inr ⟨r.out,M,_,by rw[← HL.out];exact Z.out,.inl ⟨W.out,rfl,rfl,hz.2.1,hz.2.2⟩,λ_=>hz.1,λq=>absurd (.inr W.out) q⟩),by rw[← HL.out];exact Z.out,λq=>by have:=W.out;omega,h6.2⟩,a5.out⟩
 ·have d1:(y.d != 1)=true:=by simpa using k1
  have d2:(y.d == 1)=false:=by simpa using k1
  have W:Hid (y.d≠1):=k1;clear k1;have HO:Hid (zz U3 _ _ _ _ _ _ _ { x with F:=M } L C A2 B2 D2 E):=⟨(P.j0 f).G,b7,(P.j0 f).u⟩;have r1:=bC h.bo 1;have e3:=zc h.bo 1;have g0:=bC h.bp 0;have d5:=hI (h.putL (ga,x.l,gc));have d0:=hI (HO.box ((zl.refl U3 (λb=>b=w.heap.size)).set (a:=(w.heap.size,1)) rfl (ga,x.l,gc)) h.bo dC)
  have d8:Below w w (U3.setCell _ (ga,x.l,gc)):=f.setCell (p:=(w.heap.size,1)) (Jr _) _;go_upto_region 7 with fail;generalize U3.setCell _ _=U4 at d5 d0 d8 ⊢;clear r1 e3 g0 h HO f b7;have h:=d5;have HO:=d0;have f:=d8;clear d5 d0 d8;obtain⟨f0,f1,f2⟩:=ZE h.bo;obtain⟨g0,g1,g2,g3,g4,g5,g6,g7,g8,g9,I,J⟩:=DQ h.bp;go_wp2_with fail;refine(Lx { x with F:=M } H ga S c1 gc c3 _ L C A2 B2 D2 E Q y o s m U4 F.1 d9 e4 (λi hi=>(F.2.2.2.2.1 i hi).2.2.2.1) r a6 (λV hV=>e5 V ((f.mono b1).trans (hV.mono (Jr _)))) (X.1.j0 f) (λq=>by have hM:=Q2.nine (by rw[← HL.out];exact Z) q;subst hM;exact⟨HS,F.2.2.2.1⟩) (Jp b1 f.size) HO).mono ?_
  rintro e ws ⟨⟨z,b3,d3,name,price,rv,Ez,rfl,b5,b4,O⟩,N⟩;have a7:=hI b5;have a0:=hI b4;have a9:Hid _:=O;have t:=N.blk h.br (λe=>zQ HO.u.row h.br dC _ e rfl)
  have G:=N.blk h.ba (λe=>zQ HO.u.row h.ba dC _ e rfl)
  have a4:Hid (zl w ws (λb=>(Value.slice S x.g c3).ownBlock=_)):=(zl.of_below f).trans N
  obtain⟨ra,rn,rc,rfl⟩:∃ ra rn rc,rv=_:=by
   by_cases h9:y.d=9
   ·obtain⟨_,_,_,h3⟩:=O.1 h9
    obtain⟨ao,c,e,_⟩:=zn h3;exact⟨ao,_,c,e⟩
   ·exact⟨_,0,0,O.2 h9⟩
  clear b5 b4 O N;clear f0 f1 f2 g0 g1 g2 g3 g4 g5 g6 g7 g8 g9 I J;obtain⟨r0,r1,r2⟩:=ZE t;obtain⟨i0,e3,i3⟩:=FM t;obtain⟨t0,t1,t2,t3⟩:=Qk G;obtain⟨i4,i5,i6,i7⟩:=EV G;have k3:=QZ ws (w.heap.size+1+1) (H,x.i,c1) (ga,x.l,gc) (b3,z.g,d3);have k4:=Q0 (zW ws (w.heap.size+1+1) (H,x.i,c1) (ga,x.l,gc) (b3,z.g,d3)) (w.heap.size+1+1+1) () name price (ra,rn,rc);have R:=k3.blk G (show ¬ w.heap.size+1+1+1=w.heap.size+1+1 by omega)
  have a8:=hI ((a7.box k3 t dC).box k4 R dC);have b0:Hid _:=k4.blk (BN t (H,x.i,c1) (ga,x.l,gc) (b3,z.g,d3)) (show ¬ w.heap.size+1+1=w.heap.size+1+1+1 by omega)
  have d7:=hI (Cy R () name price (ra,rn,rc));have a5:=hI (kt a4 (H,x.i,c1) (ga,x.l,gc) (b3,z.g,d3) () name price (ra,rn,rc));have Y:Hid _:=FG a9 ((k3.mono (T:=λb=>_∨_) (λb e=>.inl e)).trans (k4.mono (λb e=>.inr e))) (λg e=>by rcases e with e|e;exact⟨_,_,by rw[e];exact t,by decide⟩;exact⟨_,_,by rw[e];exact G,by decide⟩)
  unfold Zg zW at a8 b0 a5 Y;clear k3 k4 R a7 a9 a4 G t;go_wp2;have Z3:=b0;have Z4:=d7;unfold zW at Z4;obtain⟨z0,z1,z2⟩:=ZE Z3;obtain⟨t0,t1,t2,t3⟩:=Qk Z4;refine Jj (v:=.tuple #[.agg #[(H,x.i,c1),(ga,x.l,gc),(b3,z.g,d3)],.agg #[(),name,price,(ra,rn,rc)]]) (by simp[results,results53,go_sem,z0,z1,z2,t0,t1,t2,t3]) rfl ?_
  obtain⟨e1,e2⟩:=a0.size;dsimp only at e1 e2;refine⟨.inl ⟨z,H,c1,ga,gc,b3,d3,_,_,_,L,C,A2,B2,D2,Ez,M,by rw[e1,e2],by rw[e1,e2];exact a8,.inr (.inr ⟨r,M,z,by rw[← HL.out];exact Z,a0,λq=>by rcases q with q|q;exact absurd rfl q;exact absurd q W,λ_=>rfl⟩),by rw[← HL.out];exact Z,λq=>by obtain⟨k,q1,q2,q3⟩:=Y.1 q;exact⟨k,q1,q2,zo q3 f.size⟩,Y.2⟩,a5⟩
structure Re (u:World)(b c d:Nat)(e f g:Value)(a:Int)(os:Array Value):Prop where
 bo:u.heap[b]?=some (.cells #[e,f,g] 38 (0,0))
 bb:u.heap[c]?=some (.cells #[a] 3 (0,0))
 bp:u.heap[d]?=some (.cells os 47 (0,0))
theorem Re.j0 {u j:World}{c d e:Nat}{f g i:Value}{a:Int}{os:Array Value}(h:Re u c d e f g i a os)(b:Below u u j):Re j c d e f g i a os:=⟨za h.bo b,za h.bb b,za h.bp b⟩
theorem Re.box {u n:World}{c d f g:Nat}{k l m:Value}{a:Int}{os:Array Value}(h:Re u c d f k l m a os)(j:zl u n (λb=>b=g))(i:g≠c/\g≠d/\g≠f):Re n c d f k l m a os:=⟨j.blk h.bo (λe=>i.1 e.symm),j.blk h.bb (λe=>i.2.1 e.symm),j.blk h.bp (λe=>i.2.2 e.symm)⟩
def me (x:zY)(b:Int)(y:qD)(m base k l:Nat)(w':World):Prop :=
 ∃ (a:zY) (c:Option Addr) (f:Nat) (d:Option Addr) (g:Nat) (e:Option Addr) (h:Nat) (name price:Int) (i:Option Addr) (N j:Nat) (T:Nat->Ao) (L C A B D E:Nat->Value),w'.heap[k]?=some (.cells #[(c,a.i,f),(d,a.l,g),(e,a.g,h)] 38 (0,0))/\w'.heap[l]?=some (.cells #[(),name,price,(i,N,j)] 41 (0,0)) /\
  zz w' base (c,a.i,f) (d,a.l,g) (e,a.g,h) a.i a.l a.g a L C A B D E/\EU x b y m a 0 name price/\iy x y m 0 N T/\w'.ownsRow base 203 5 (i,N,j) N (Zh T N)
theorem jb (x:zY)(a1 a2 a3 n:Option Addr)(c1 c2 c3 G m g0 g1 g2 J g4:Nat)(j:Int)(y:qD)(pe:Nat->Addr)(w:World)(hO:qS x)(hs:zY.Short x 1048576)(b6:Cq x.g x.u j)(hF:Ze w)(hT:Zn w/\Zp w)(he:qI w pe)
  (c9:zY.Is w [(a1,x.i,c1),(a2,x.l,c2),(a3,x.g,c3)] x) (b8:zS w n y.c y.J) (d5:qm n y.c G) (ho:y.j1.size<=1048576) (hl:y.c<=1048576) (hm:QE y->In y.d 4 8->y.k=(m:Int)+1) (O:Re w g0 g1 g2 (a1,x.i,c1) (a2,x.l,c2) (a3,x.g,c3) j (y,n,G)) (h3:w.heap[J]?=some (.cells #[True,True,True] 38 (0,0))) (X:w.heap[g4]?=some (.cells #[(),(),(),True] 41 (0,0))) (b9:J≠g0) :
  Calls prog 52 #[.pointer (some (g0,0)),.pointer (some (g1,0)),.pointer (some (g2,0)),.pointer (some (J,0)),.pointer (some (g4,0))] w λe w'=>((e=.returned (.tuple #[])/\me x j y m w.heap.size J g4 w')∨(∃ c:Nat,1<=c/\c<=8/\e=GK pe c/\EU x j y m x (c:Int) 0 0))/\zl w w' (λb=>b=J∨b=g4):=by
 have a6:=hI hO;have HS:=hI hs;have d6:=hI b6;have HT:Hid (_/\_/\_):=⟨hF,hT,he⟩;have d8:=hI c9;have a4:Hid (_/\_):=⟨b8,d5⟩;have d7:=hI hm;have HD:=hI O;have H3:=hI h3;have H4:=hI X;have U:∀ {p q:Nat} {A B} {s t},w.heap[p]?=some (.cells A s _)->w.heap[q]?=some (.cells B t (0,0))->s≠t->p≠q:=λhp hq H e=>by
  subst e;rw[hp] at hq
  cases hq
  exact H rfl
 have v:Hid ((_/\_/\_)/\(_/\_/\_)/\_):=⟨⟨b9,U h3 O.bb dC,U h3 O.bp dC⟩,⟨U X O.bo dC,U X O.bb dC,U X O.bp dC⟩,U X h3 dC⟩;have g:Below w w _:=(Ji _ w).drew;clear hO hs b6 hF hT he c9 b8 d5 hm O h3 X b9 U;go_enter func52,ntmps52;go_upto_region 0 with fail;have a:=HD.j0 g;refine qt 10 10 (λu=>u.cell? _=some (.slice a1 _ c1)/\u.cell? _=some (.slice a2 _ c2)/\u.cell? _=some (.slice a3 _ c3)/\u.cell? _=some (.int _ j)/\u.cell? _=some (.int _ _)/\u.cell? _=some (.string _)/\u.cell? _=some (.int _ _)/\u.cell? _=some (.slice n _ G)/\u.cell? _=some (.int _ _)/\u.cell? _=some (.int _ _)/\u.cell? _=some (.int _ _)/\u.cell? _=some (.int _ _)/\u.cell? _=some (.bool _)/\u.cell? _=some (.int _ _)/\u.cell? _=some (.int _ _)/\u.cell? _=some (.int _ _)) rfl kR (⟨bC a.bo 0,bC a.bo 1,bC a.bo 2,bC a.bb 0,bC a.bp 0,bC a.bp 1,bC a.bp 2,bC a.bp 3,bC a.bp 4,bC a.bp 5,bC a.bp 6,bC a.bp 7,bC a.bp 8,bC a.bp 9,bC a.bp 10,bC a.bp 11⟩) (λY=>?_)
 clear a;simp only[List.replicate_succ,List.replicate_zero];generalize w.drew=u0 at g Y ⊢;refine QD 0 ?_
 iterate 2 refine QD 2 ?_
 refine Ay 1 λK o=>?_
 go_simp;go_at_call 54;refine Jm (Fq x a1 a2 a3 c1 c2 c3 u0 HS (λi hi=>(a6.2.2.2.2.1 i hi).2.2.2.1.1) (d8.j0 g)) ?_
 rintro e u1 ⟨⟨n1,n2,n3,L,C,A,B,D,E,rfl,I⟩,b5⟩;have z:=hI (I.lower g.size);dsimp only;replace g:=zb g b5;have a:=HD.j0 g;refine o _ _ (⟨bC a.bo 0,bC a.bo 1,bC a.bo 2,bC a.bb 0,bC a.bp 0,bC a.bp 1,bC a.bp 2,bC a.bp 3,bC a.bp 4,bC a.bp 5,bC a.bp 6,bC a.bp 7,bC a.bp 8,bC a.bp 9,bC a.bp 10,bC a.bp 11⟩) (λY=>?_)
 clear o K b5 I a;refine Ay 4 λK o=>?_
 go_simp;go_at_call 53;refine Jm (Rd x _ _ _ _ _ _ _ L C A B D E j y n G m pe u1 a6 HS d6 (HT.1.j0 g) (λV hV=>⟨HT.2.1.1.j0 (g.trans hV),HT.2.1.2.j0 (g.trans hV)⟩) (HT.2.2.j0 g) (a4.1.j0 g) a4.2 ho hl d7 g.size z) ?_
 rintro e u2 ⟨hA|⟨c,h1,h8,rfl,r⟩,P⟩
 case inr =>
  have h:=zl.j0 g g.size P (λb e=>(z.u.row.lt b e).1)
  unfold GK;dsimp only;exact⟨rfl,.inr ⟨c,h1,h8,rfl,r⟩,zl.of_below h⟩
 have h:=zl.j0 g g.size P (λb e=>(z.u.row.lt b e).1)
 obtain⟨W,b1,d1,b2,d2,b3,d3,name,price,rv,L2,C2,A2,B2,D2,E2,M,rfl,c0,r,H,Q⟩:=hA;have b7:=g.size;obtain⟨ra,N,rc,T,rfl,d0,d4⟩:∃ ra N rc T,rv=.slice ra N rc/\iy x y m 0 N T/\u2.ownsRow _ 203 5 (ra,N,rc) N (Zh T N):=by
  by_cases h9:y.d=9
  ·obtain rfl:=H.nine h9
   obtain⟨k,rfl,_,hw⟩:=Q.1 h9;obtain⟨ar,cr,rfl,_⟩:=zn hw
   rcases r with⟨h0,_⟩|⟨_,h0,_⟩|⟨d9,_⟩
   ·exact absurd rfl h0
   ·exact absurd rfl h0
   ·exact⟨ar,_,cr,_,rfl,.inr ⟨h9,d9,rfl,rfl⟩,zo hw b7⟩
  ·exact⟨_,0,0,BS [],Q.2 h9,.inl ⟨rfl,λq=>absurd q h9⟩,Cj u2 _ _ _⟩
 have a5:=hI c0;have a9:Hid (_/\_):=⟨r,d0⟩;have l:Hid _:=d4;clear P g z c0 r H Q d0 d4 b7;dsimp only;have a:=hI (HD.j0 h);have S:=za H3 h;have q4:=za H4 h;refine o _ _ (⟨bC a.bo 0,bC a.bo 1,bC a.bo 2,bC a.bb 0,bC a.bp 0,bC a.bp 1,bC a.bp 2,bC a.bp 3,bC a.bp 4,bC a.bp 5,bC a.bp 6,bC a.bp 7,bC a.bp 8,bC a.bp 9,bC a.bp 10,bC a.bp 11⟩) (λY=>?_)
 clear o K
 iterate 3 refine QD 5 ?_
 have R:=QZ u2 J (b1,W.i,d1) (b2,W.l,d2) (b3,W.g,d3);have Z:=Q0 (zW u2 J (b1,W.i,d1) (b2,W.l,d2) (b3,W.g,d3)) g4 () name price (ra,N,rc);have p4:=R.blk q4 v.2.2;have d:=hI (a.box R v.1);have f:=hI (d.box Z v.2.1);have b0:=hI (Z.blk (BN S _ _ _) (show _ from λe=>v.2.2 e.symm))
 have b4:=hI (Cy p4 () name price (ra,N,rc));have a7:=hI ((a5.box R S dC).box Z p4 dC);have kk:=(R.mono (T:=λb=>_∨_) (λb e=>.inl e)).trans (Z.mono (λb e=>.inr e))
 have a0:=hI ((zl.of_below h).trans kk);have a8:Hid _:=(Z.j1 (R.j1 l (λb e=>zQ l S dC b e)) (λb e=>zQ (R.j1 l (λb e=>zQ l S dC b e)) p4 dC b e))
 have F:=hI p4;unfold zW at F d;unfold Zg zW at b0 b4 a7 a0 a8 f;clear R Z kk p4 q4 a a5 l h;obtain⟨r0,r1,r2⟩:=ZE S;obtain⟨f0,f1,f2⟩:=FM S;clear S;refine Ay 8 λK o=>?_
 go_simp;refine o _ _ (⟨bC d.bo 0,bC d.bo 1,bC d.bo 2,bC d.bb 0,bC d.bp 0,bC d.bp 1,bC d.bp 2,bC d.bp 3,bC d.bp 4,bC d.bp 5,bC d.bp 6,bC d.bp 7,bC d.bp 8,bC d.bp 9,bC d.bp 10,bC d.bp 11⟩) (λY=>?_)
 clear o K d r0 f0 r1 f1 r2 f2;obtain⟨r0,r1,r2,r3⟩:=Qk F;obtain⟨f0,f1,f2,f3⟩:=EV F;refine Ay 9 λK o=>?_
 go_simp;refine o _ _ (⟨bC f.bo 0,bC f.bo 1,bC f.bo 2,bC f.bb 0,bC f.bp 0,bC f.bp 1,bC f.bp 2,bC f.bp 3,bC f.bp 4,bC f.bp 5,bC f.bp 6,bC f.bp 7,bC f.bp 8,bC f.bp 9,bC f.bp 10,bC f.bp 11⟩) (λY=>?_)
 clear o K f F r0 f0 r1 f1 r2 f2 r3 f3;refine qh kR ?_ _;clear Y;go_wp2;go_end0;exact⟨.inl ⟨rfl,W,b1,d1,b2,d2,b3,d3,_,_,ra,N,rc,T,L2,C2,A2,B2,D2,E2,b0,b4,a7,a9.1,a9.2,a8⟩,a0⟩
theorem Eh {a:Nat}{r s t n o p q:Value}(h3:u.heap[a]?=some (.cells #[r,s,t] 38 (0,0)))(j:u.heap[c]?=some (.cells #[n,o,p,q] 41 (0,0)))(v1 v2 v3 d f g h:Value) :
  (zW u a v1 v2 v3).heap[c]?=some (.cells #[n,o,p,q] 41 (0,0))/\(Zg (zW u a v1 v2 v3) c d f g h).heap[a]?=some (.cells #[v1,v2,v3] 38 (0,0))/\(Zg (zW u a v1 v2 v3) c d f g h).heap[c]?=some (.cells #[d,f,g,h] 41 (0,0))/\zl u (zW u a v1 v2 v3) (λb=>b=a)/\zl (zW u a v1 v2 v3) (Zg (zW u a v1 v2 v3) c d f g h) (λb=>b=c):=by
 have i:c≠a:=λe=>by
  rw[e,h3] at j;simp at j
 have k:=QZ u a v1 v2 v3;have l:=Q0 (zW u a v1 v2 v3) c d f g h;have m:=k.blk j i;exact⟨m,l.blk (BN h3 v1 v2 v3) (show _ from λe=>i e.symm),Cy m d f g h,k,l⟩
theorem GU {f g:World}(a:Below w w u)(h3:w.heap.size<=c)(h4:w.heap.size<=d)(h:zl u f (λb=>b=c))(i:zl f g (λb=>b=d)):Below w w g:=by
 have q:=zl.j0 a a.size h (λb e=>by have e:=e;omega)
 exact zl.j0 q q.size i (λb e=>by have e:=e;omega)
theorem Ri (x:zY)(a1 a2 a3 P:Option Addr)(c1 c2 c3 Y m:Nat)(l:Int)(y:qD)(pe:Nat->Addr)(w:World)(hs:zY.Short x 1048576)(hF:Ze w)(hT:Zn w/\Zp w)(he:qI w pe)(hg:w.cell? (0,0)=some (.iface 284 (.agg #[.pointer (some (12,92))])))
  (d6:zY.Is w [.slice a1 x.i c1,.slice a2 x.l c2,.slice a3 x.g c3] x) (d4:zS w P y.c y.J) (d8:qm P y.c Y) (ho:y.j1.size<=1048576) (hl:y.c<=1048576) (hm:QE y->In y.d 4 8->y.k=(m:Int)+1) :
  Calls prog 11 #[.agg #[(a1,x.i,c1),(a2,x.l,c2),(a3,x.g,c3)],l,.agg (y,P,Y)] w λe w'=>(∃ x2 code name price N T ok,ja x l y m x2 code name price N T ok/\GQ w.heap.size w.heap.size x2 code name price N T ok e w')/\Below w w w':=by
 have HS:=hI hs;have HT:Hid (_/\_/\_):=⟨hF,hT,he⟩;have HG:=hI hg;have a7:=hI d6;have c0:Hid (_/\_):=⟨d4,d8⟩;have e3:=hI hm;obtain⟨b0,b1,b2,b3,d9⟩:=Dn w (.cells #[.slice a1 x.i c1,.slice a2 x.l c2,.slice a3 x.g c3] 38) (.cells #[int i64 l] 3) (.cells #[int i64 y.d,.string y.j1,int i64 y.k,.slice P y.c Y,int i64 y.v,int i64 y.f,int i64 y.j,int i64 y.w,.bool y.h,int i64 y.x,int i64 y.y,int i64 y.D] 47) (.cells #[.slice none 0 0,.slice none 0 0,.slice none 0 0] 38);have b4:=Jb ((((w.alloc (.cells #[(a1,x.i,c1),(a2,x.l,c2),(a3,x.g,c3)] 38)).alloc (.cells #[l] 3)).alloc (.cells (y,P,Y) 47)).alloc (.cells #[True,True,True] 38)) (.cells #[(),(),(),True] 41);rw[d9] at b4;have HD:Hid (Re (((((w.alloc _).alloc _).alloc _).alloc _).alloc (.cells #[int i64 0,int i64 0,int i64 0,.slice none 0 0] 41)) _ _ _ _ _ _ l _):=⟨zg b0 _,zg b1 _,zg b2 _⟩;have X:Hid ((((((w.alloc _).alloc _).alloc _).alloc _).alloc (.cells #[int i64 0,int i64 0,int i64 0,.slice none 0 0] 41)).heap[_]?=_):=zg b3 _;have R:=hI b4;have I:Below _ w (((((w.alloc (.cells #[(a1,x.i,c1),(a2,x.l,c2),(a3,x.g,c3)] 38)).alloc (.cells #[l] 3)).alloc (.cells (y,P,Y) 47)).alloc (.cells #[True,True,True] 38)).alloc (.cells #[(),(),(),True] 41)):=zd (zd (zd (zd (zd bZ _) _) _) _) _;clear hs hF hT he hg d6 d4 d8 hm b0 b1 b2 b3 b4 d9;go_enter func11,ntmps11;obtain⟨f0,f1,f2⟩:=ZE HD.bo;go_wp2_with fail;generalize (((((w.alloc _).alloc _).alloc _).alloc _).alloc _)=U at HD X R I f0 f1 f2 ⊢;obtain⟨_,_,_,_,_,_,e0,h1,s1,h2,s2,h3,s3⟩:=(a7.j0 I)
 cases e0
 refine(Rh x a1 a2 a3 c1 c2 c3 U HS.out h1 h2 h3 s3.1).mono ?_;rintro e U1 ⟨⟨tb,rfl,a6⟩,hb⟩;clear h1 s1 h2 s2 h3 s3 f0 f1 f2;replace HD:=hI (HD.j0 hb);replace X:=hI (za X.out hb);replace R:=hI (za R.out hb);replace I:=zb I hb;clear hb;have M:=hI a6;clear a6
 cases tb with
 |false =>
  have HN:Hid (¬ (_/\Cq x.g x.u l)):=λh=>by have:=M.2 h.1;cases this
  have d:=hI (Eh X.out R.out (.slice none 0 0) (.slice none 0 0) (.slice none 0 0) (int i64 0) (int i64 0) (int i64 0) (.slice none 0 0));have n:=hI (GU I oM oM d.2.2.2.1 d.2.2.2.2);obtain⟨p0,p1,p2⟩:=ZE X.out;obtain⟨g0,S,g2⟩:=FM X.out;obtain⟨q0,q1,q2,V⟩:=Qk R.out;obtain⟨k0,k1,k2,k3⟩:=EV R.out;unfold Zg zW at d n;obtain⟨e9,f4,f5,f6⟩:=Qk d.1;obtain⟨e5,e6,e7,e8⟩:=EV d.1;go_wp2;have Z3:=d.2.1;have Z4:=d.2.2.1;obtain⟨z0,z1,z2⟩:=ZE Z3;obtain⟨t0,t1,t2,t3⟩:=Qk Z4;refine Jj (v:=.tuple #[.agg #[.slice none 0 0,.slice none 0 0,.slice none 0 0],.agg #[int i64 0,int i64 0,int i64 0,.slice none 0 0],.bool false]) (by simp[results,results11,go_sem,z0,z1,z2,t0,t1,t2,t3]) rfl ?_
  exact⟨⟨_,0,0,0,0,BS [],_,.inr ⟨HN.out,rfl,rfl,rfl,rfl,rfl,rfl⟩,GQ.no x _ _ _ _⟩,n.out⟩
 |true =>
 have a4:=hI (M.1 rfl);clear M;have f2:=bC HD.bo 2;have g0:=bC HD.bb 0;go_wp2_with fail;obtain⟨_,_,_,_,_,_,e0,h1,s1,h2,s2,h3,s3⟩:=(a7.j0 I)
 cases e0
 refine(DL a3 _ c3 _ l U1 (by have:=a4.2.2.1;omega) h3).mono ?_
 rintro e j ⟨⟨tb,rfl,a6⟩,hb⟩;clear h1 s1 h2 s2 h3 s3 f2 g0;replace HD:=hI (HD.j0 hb);replace X:=hI (za X.out hb);replace R:=hI (za R.out hb);replace I:=zb I hb;clear hb;have M:Hid (_↔Cq _ _ l):=a6.trans ⟨λh=>⟨h.1,λi hi e=>h.2 ⟨i,hi,e⟩⟩,λh=>⟨h.1,λ⟨i,hi,e⟩=>h.2 i hi e⟩⟩
 clear a6
 cases tb with
 |false =>
  have HN:Hid (¬ (qS x/\_)):=λh=>by have:=M.2 h.2;cases this
  have d:=hI (Eh X.out R.out (.slice none 0 0) (.slice none 0 0) (.slice none 0 0) (int i64 0) (int i64 0) (int i64 0) (.slice none 0 0));have n:=hI (GU I oM oM d.2.2.2.1 d.2.2.2.2);obtain⟨p0,p1,p2⟩:=ZE X.out;obtain⟨g0,S,g2⟩:=FM X.out;obtain⟨q0,q1,q2,V⟩:=Qk R.out;obtain⟨k0,k1,k2,k3⟩:=EV R.out;unfold Zg zW at d n;obtain⟨e9,f4,f5,f6⟩:=Qk d.1;obtain⟨e5,e6,e7,e8⟩:=EV d.1;go_wp2;have Z3:=d.2.1;have Z4:=d.2.2.1;obtain⟨z0,z1,z2⟩:=ZE Z3;obtain⟨t0,t1,t2,t3⟩:=Qk Z4;refine Jj (v:=.tuple #[.agg #[.slice none 0 0,.slice none 0 0,.slice none 0 0],.agg #[int i64 0,int i64 0,int i64 0,.slice none 0 0],.bool false]) (by simp[results,results11,go_sem,z0,z1,z2,t0,t1,t2,t3]) rfl ?_
  exact⟨⟨_,0,0,0,0,BS [],_,.inr ⟨HN.out,rfl,rfl,rfl,rfl,rfl,rfl⟩,GQ.no x _ _ _ _⟩,n.out⟩
 |true =>
 have a9:=hI (M.1 rfl);clear M;have e4:∀ (fn) (first cap) (w),(Instr.makeFunc fn _ cap).run prog w=.ok (.func fn first cap) w:=λ_ _ _ _=>rfl
 have X3:((j.alloc _).alloc (.cells #[int i64 0,int i64 0,int i64 0,.slice none 0 0] 41)).heap[j.heap.size]?=some (.cells #[.slice none 0 0,.slice none 0 0,.slice none 0 0] 38 (0,0)):=zg (Jb j _) _;have X4:=Kw X3;have a0:Below _ j ((j.alloc (.cells #[True,True,True] 38)).alloc (.cells #[(),(),(),True] 41)):=zd (zd bZ _) _;go_wp2_with fail;generalize (j.alloc _).alloc _=t at X3 X4 a0 ⊢;have HX:Hid (_/\_):=⟨X3,X4⟩;have f8:=zD X4;have f7:=zD R.out;have J:Below _ w (t.alloc (.cells #[.nilIface] 92)):=zd (zb I a0) _;have Z:Below _ t (t.alloc (.cells #[.nilIface] 92)):=zd bZ _;have d0:=(HD.j0 a0).j0 Z;refine(Rf 52 _ t
  (λW=>W.heap[t.heap.size]?=some (.cells #[.nilIface] 92 (0,0))/\me x l y m (t.heap.size+1) (j.heap.size) (j.heap.size+1) W/\Below j j W)
  (λu W=>W.heap[t.heap.size]?=some (.cells #[.nilIface] 92 (0,0))/\(∃ c,1<=c/\c<=8/\u=.agg #[.iface 391 (.pointer (some (pe c)))]/\EU x l y m x (c:Int) 0 0)/\Below j j W) (λ_ _=>by kernel_rfl) ?_).mono ?_
 ·refine(jb x a1 a2 a3 P c1 c2 c3 Y m _ _ _ _ _ l y pe _ a4.out HS.out a9.out (HT.1.j0 J) ⟨HT.2.1.1.j0 J,HT.2.1.2.j0 J⟩ (HT.2.2.j0 J) (a7.j0 J) (c0.1.j0 J) c0.2 ho hl e3.out d0 (za X3 Z) (za X4 Z) oM).mono ?_
  rintro e W ⟨hA,hk⟩;have hn:=hk.blk (Jb t _) (show ¬ (t.heap.size=j.heap.size∨t.heap.size=j.heap.size+1) by omega)
  have H:=zl.j0 (zb a0 Z) (zb a0 Z).size hk (λb e=>by have e:=e;omega)
  refine⟨hn,?_⟩
  rcases hA with⟨rfl,hW⟩|⟨c,S,g8,rfl,Q⟩
  ·exact .inl ⟨rfl,hn,by simpa using hW,H⟩
  ·exact .inr ⟨_,rfl,hn,⟨c,S,g8,rfl,Q⟩,H⟩
 clear X3 X4 d0 Z J e4;have n0:=λw=>IL underlying92 w
 have n1:=λw v=>Qv 96 v underlying92 w
 rintro e w4 (⟨rfl,W,⟨hn,hW,H⟩,rfl⟩|⟨u,rfl,W,⟨hn,⟨c,S,g8,rfl,Q⟩,H⟩,rfl⟩)
 ·obtain⟨x2,b1,d1,b2,d2,b3,d3,name,price,ra,N,rc,T,L,C,A,B,D,E,e1,e2,d5,Q,d7,b7⟩:=hW
  have kk:=(zl.refl W (λb=>b=t.heap.size)).set (a:=⟨t.heap.size,0,none⟩) rfl .nilIface
  have Y3:Hid _:=kk.blk e1 (show ¬ j.heap.size=t.heap.size by omega)
  have Y4:Hid _:=kk.blk e2 (show ¬ j.heap.size+1=t.heap.size by omega)
  have F:=hI (d5.box kk hn dC);have s:Hid _:=kk.j1 b7 (λb e=>zQ b7 hn dC b e)
  have z:Below _ j (W.setCell _ .nilIface):=H.setCell (p:=(t.heap.size,0)) (by show j.heap.size<=t.heap.size;omega) _
  have O:Hid (_/\_):=⟨Q,d7⟩;clear e1 e2 d5 Q d7 b7 H hn kk;generalize W.setCell _ _=u4 at Y3 Y4 F s z ⊢;have k:Below _ j (u4.alloc (.cells #[.nilIface] 96)):=zd z _;have hp:Below _ u4 (u4.alloc (.cells #[.nilIface] 96)):=zd bZ _;replace Y3:=hI (za Y3.out hp);replace Y4:=hI (za Y4.out hp);replace F:=hI (F.j0 hp);replace s:Hid _:=zm hp s.out;clear z hp;go_upto_region 8 with fail;generalize u4.alloc _=u5 at Y3 Y4 F s k ⊢;have r:Below u5 u5 _:=bZ.drew;replace Y3:=hI (za Y3.out r);replace Y4:=hI (za Y4.out r);replace F:=hI (F.j0 r);replace s:Hid _:=zm r s.out;replace k:=zb k r;refine qt 5 5 (λu=>u.cell? _=some (.slice b1 _ d1)/\u.cell? _=some (.slice b2 _ d2)/\u.cell? _=some (.slice b3 _ d3)/\u.cell? _=some (.int _ 0)/\u.cell? _=some (.int _ _)/\u.cell? _=some (.int _ _)/\u.cell? _=some (.slice ra N rc)) rfl kR (⟨bC Y3.out 0,bC Y3.out 1,bC Y3.out 2,bC Y4.out 0,bC Y4.out 1,bC Y4.out 2,bC Y4.out 3⟩) (λhS=>?_)
  simp only[List.replicate_succ,List.replicate_zero];clear r;generalize u5.drew=u6 at Y3 Y4 F s k hS ⊢;have V:=za X.out k;have q4:=za R.out k;have d:=hI (Eh V q4 (.slice b1 x2.i d1) (.slice b2 x2.l d2) (.slice b3 x2.g d3) (int i64 0) (int i64 name) (int i64 price) (.slice ra N rc));have n:=hI (GU (zb I k) oM oM d.2.2.2.1 d.2.2.2.2);have W3:Hid _:=d.2.2.2.1.blk Y3.out (show ¬ j.heap.size=w.heap.size+1+1+1 by omega)
  have W4:Hid _:=d.2.2.2.1.blk Y4.out (show ¬ j.heap.size+1=w.heap.size+1+1+1 by omega)
  have W5:Hid _:=d.2.2.2.2.blk W3.out (show ¬ j.heap.size=w.heap.size+1+1+1+1 by omega)
  have W6:Hid _:=d.2.2.2.2.blk W4.out (show ¬ j.heap.size+1=w.heap.size+1+1+1+1 by omega)
  have a5:=hI ((F.box d.2.2.2.1 V dC).box d.2.2.2.2 d.1 dC);have r3:=d.2.2.2.1.j1 s.out (λb e=>zQ s.out V dC b e)
  have c9:Hid _:=d.2.2.2.2.j1 r3 (λb e=>zQ r3 d.1 dC b e)
  clear r3 q4;unfold Zg zW at d n W3 W4 W5 W6 a5 c9
  iterate 2 refine QD 0 ?_
  obtain⟨p0,p1,p2⟩:=ZE V;obtain⟨g0,S,g2⟩:=FM V;refine Ay 2 λK G=>?_
  go_simp;refine G.out _ _ (⟨bC W3.out 0,bC W3.out 1,bC W3.out 2,bC W4.out 0,bC W4.out 1,bC W4.out 2,bC W4.out 3⟩) (λhS=>?_)
  clear G K p0 p1 p2 g0 S g2 V;simp only[sZ,sS];obtain⟨p0,p1,p2,p3⟩:=Qk d.1;obtain⟨g0,S,g2,g3⟩:=EV d.1;refine Ay 3 λK G=>?_
  go_simp;refine G.out _ _ (⟨bC W5.out 0,bC W5.out 1,bC W5.out 2,bC W6.out 0,bC W6.out 1,bC W6.out 2,bC W6.out 3⟩) (λhS=>?_)
  clear G K p0 p1 p2 p3 g0 S g2 g3;simp only[sZ,sS];refine QD 4 ?_;refine qh kR ?_ _;clear hS;go_wp2;have Z3:=d.2.1;have Z4:=d.2.2.1;obtain⟨z0,z1,z2⟩:=ZE Z3;obtain⟨t0,t1,t2,t3⟩:=Qk Z4;refine Jj (v:=.tuple #[.agg #[.slice b1 x2.i d1,.slice b2 x2.l d2,.slice b3 x2.g d3],.agg #[int i64 0,int i64 name,int i64 price,.slice ra N rc],.bool true]) (by simp[results,results11,go_sem,z0,z1,z2,t0,t1,t2,t3]) rfl ?_
  exact⟨⟨x2,0,_,_,N,T,_,.inl ⟨⟨a4.out,a9.out⟩,rfl,O.1,O.2⟩,b1,d1,b2,d2,b3,d3,ra,rc,L,C,A,B,D,E,rfl,a5.lower oM,zo c9.out oM⟩,n.out⟩
 ·have z:Below _ j (W.setCell _ (.iface 96 (.agg #[.iface 391 (.pointer (some (pe c)))]))):=H.setCell (p:=⟨t.heap.size,0,none⟩) (by show j.heap.size<=t.heap.size;omega) _
  have O:Hid (_/\_/\_):=⟨Q,S,g8⟩;clear Q H hn S g8;generalize W.setCell _ _=u4 at z ⊢;have k:Below _ j (u4.alloc (.cells #[.nilIface] 96)):=zd z _;have HR:=Jb u4 (.cells #[.nilIface] 96);have b5:=hI z.size;clear z;go_wp2_with fail;generalize u4.alloc _=u5 at k HR ⊢;generalize u4.heap.size=gr at HR b5 ⊢;refine(nd _ _ _ u5 rfl ?_ (bC HR 0) (zc HR 0)).mono ?_
  ·exact((zb I k).cell (Ja w _ HG.out)).trans HG.out
  rintro e u6 ⟨rfl,b8⟩;have hp:=zd (zd (zd (zd (Ji _ u5) (.cells #[.pointer (some ⟨gr,0,none⟩)] 98)) (.cells #[.pointer (some ⟨12,98,none⟩),.pointer (some ⟨u5.heap.size,0,none⟩),.int .u64 150] 186)) (.cells #[.pointer (some ⟨12,98,none⟩),.pointer (some ⟨u5.heap.size,0,none⟩),.int .u64 150] 186)) (.cells #[.iface 391 (.pointer (some (pe c)))] 96);have o:Hid (u6.heap[gr]?=some (.cells #[.iface 391 (.pointer (some (pe c)))] 96 (0,0))):=by rw[b8];exact zk (za HR hp) 0 _
  have f:Below j j u6:=by rw[b8];exact(zb k hp).setCell b5.out _
  clear b8 hp HR k;go_upto_region 10 with fail;have r:Below u6 u6 _:=bZ.drew;replace o:=hI (za o.out r);replace f:=zb f r;have g:=hI (HD.j0 f);refine qt 9 9 (λu=>u.cell? _=some (.slice a1 _ c1)/\u.cell? _=some (.slice a2 _ c2)/\u.cell? _=some (.slice a3 _ c3)/\u.cell? _=some (.iface 391 _)) rfl kR (⟨bC g.bo 0,bC g.bo 1,bC g.bo 2,bC o.out 0⟩) (λhS=>?_)
  simp only[List.replicate_succ,List.replicate_zero];clear r;generalize u6.drew=u7 at o f g hS ⊢;refine QD 0 ?_
  iterate 2 refine QD 2 ?_
  refine Ay 1 λK G=>?_
  go_simp;go_at_call 54;refine Jm (Fq x a1 a2 a3 c1 c2 c3 u7 HS.out (λi hi=>(a4.2.2.2.2.1 i hi).2.2.2.1.1) ((a7.j0 I).j0 f)) ?_
  rintro e u8 ⟨⟨n1,n2,n3,L,C,A,B,D,E,rfl,a8⟩,q⟩;have b6:=hI (a8.lower f.size);dsimp only;replace f:=zb f q;replace o:=hI (za o.out q);replace g:=hI (g.j0 q);refine G.out _ _ (⟨bC g.bo 0,bC g.bo 1,bC g.bo 2,bC o.out 0⟩) (λhS=>?_)
  clear G K q a8;simp only[sZ,sS];refine Ay 4 λK G=>?_
  go_simp;go_at_call 56;refine Jm (Sy pe c u8 ((HT.2.2.j0 I).j0 f) O.2.1 O.2.2) ?_;rintro e u9 ⟨rfl,q⟩;dsimp only;replace f:=zb f q;replace o:=hI (za o.out q);replace g:=hI (g.j0 q);replace b6:=hI (b6.j0 q);refine G.out _ _ (⟨bC g.bo 0,bC g.bo 1,bC g.bo 2,bC o.out 0⟩) (λhS=>?_)
  clear G K q;simp only[sZ,sS];refine QD 5 ?_;have V:=za X.out f;have q4:=za R.out f;have d:=hI (Eh V q4 (.slice (some ⟨n1,0,none⟩) x.i x.i) (.slice (some ⟨n2,0,none⟩) x.l x.l) (.slice (some ⟨n3,0,none⟩) x.g x.g) (int i64 c) (int i64 0) (int i64 0) (.slice none 0 0));have n:=hI (GU (zb I f) oM oM d.2.2.2.1 d.2.2.2.2);have b9:=b5.out;have W3:Hid _:=d.2.2.2.1.blk g.bo (show ¬ w.heap.size=w.heap.size+1+1+1 by omega)
  have W4:Hid _:=d.2.2.2.1.blk o.out (show ¬ gr=w.heap.size+1+1+1 by omega)
  have W5:Hid _:=d.2.2.2.2.blk W3.out (show ¬ w.heap.size=w.heap.size+1+1+1+1 by omega)
  have W6:Hid _:=d.2.2.2.2.blk W4.out (show ¬ gr=w.heap.size+1+1+1+1 by omega)
  have a5:=hI ((b6.box d.2.2.2.1 V dC).box d.2.2.2.2 d.1 dC);clear q4 b9;unfold Zg zW at d n W3 W4 W5 W6 a5;obtain⟨p0,p1,p2⟩:=ZE V;obtain⟨g0,S,g2⟩:=FM V;refine Ay 6 λK G=>?_
  go_simp;refine G.out _ _ (⟨bC W3.out 0,bC W3.out 1,bC W3.out 2,bC W4.out 0⟩) (λhS=>?_)
  clear G K p0 p1 p2 g0 S g2 V;simp only[sZ,sS];obtain⟨p0,p1,p2,p3⟩:=Qk d.1;obtain⟨g0,S,g2,g3⟩:=EV d.1;refine Ay 7 λK G=>?_
  go_simp;refine G.out _ _ (⟨bC W5.out 0,bC W5.out 1,bC W5.out 2,bC W6.out 0⟩) (λhS=>?_)
  clear G K p0 p1 p2 p3 g0 S g2 g3;simp only[sZ,sS];refine QD 8 ?_;refine qh kR ?_ _;clear hS;go_wp2;have Z3:=d.2.1;have Z4:=d.2.2.1;obtain⟨z0,z1,z2⟩:=ZE Z3;obtain⟨t0,t1,t2,t3⟩:=Qk Z4;refine Jj (v:=.tuple #[.agg #[.slice (some ⟨n1,0,none⟩) x.i x.i,.slice (some ⟨n2,0,none⟩) x.l x.l,.slice (some ⟨n3,0,none⟩) x.g x.g],.agg #[int i64 c,int i64 0,int i64 0,.slice none 0 0],.bool true]) (by simp[results,results11,go_sem,z0,z1,z2,t0,t1,t2,t3]) rfl ?_
  have f9:=(zb I f).size;exact⟨⟨x,c,0,0,0,BS [],_,.inl ⟨⟨a4.out,a9.out⟩,rfl,O.1,.inl ⟨rfl,λ_=>by have:=O.2.1;omega⟩⟩,_,_,_,_,_,_,_,0,L,C,A,B,D,E,rfl,a5.lower oM,Cj _ _ _ _⟩,n.out⟩
end Go.Proofs.YtmdnjgihooflfaaGreatDoor
