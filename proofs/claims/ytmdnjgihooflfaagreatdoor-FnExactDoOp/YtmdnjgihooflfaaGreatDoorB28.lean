/-
  OWN TEXT: SpecEe, SpecEf, SpecEg, SpecEh, SpecHas, SpecRows, SpecEi.
-/
import Derived.Deep.DeepCutAuto
import Derived.Deep.RegionLawGrows
import Derived.Deep.RegionHeld3
import Derived.Deep.AppendLies
import Derived.Great.Walk
import Derived.Test.YtmdnjgihooflfaaGreatDoorKitCo
import Derived.Test.YtmdnjgihooflfaaGreatDoorRows
import Derived.Test.YtmdnjgihooflfaaGreatDoorB27
namespace Go.Proofs.YtmdnjgihooflfaaGreatDoor
open Go.RowKit
open Go.Value (int)
open Go.IntKind (i64)
open Tryz
set_option maxHeartbeats 64000000
set_option maxRecDepth 100000
theorem l7End_8 (g base N R O M q u m:Nat)(K J I l:Option Addr)(F:Int)(y:OpD)(x:Off)(L C A B D E:Nat->Value)(w:World)(hq:w.heap[g]?=some (.cells #[(K,N,O),(J,N,M),(I,R,q)] 38 (0,0)))(T:zF w base (K,N,O) (J,N,M) (I,R,q) N N R x L C A B D E)(b6:x.bkn=R)(a9:base<=w.heap.size)(Q:y.kind=8)(d5:In y.pe 0 20)(f1:y.lgn<=3)(b1:zT w l y.lgn y.lg)(b5:qj l y.lgn u)(b2:0<y.lgn->∀ a,l=some a->a.block<base)(b3:y.name=(m:Int)+1)(hm:m<R)(d:R<=1048576) :
  Calls prog 93 #[.pointer (some (g,0)),F,.agg (y,l,u)] w λe w'=>zdm g base N O M K J (λb=>b=g∨(Value.slice I R q).ownBlock=some b) { x with bk:=zah x.bk m (qx (x.bk m) F y) } 0 y.name (0) (λ_ v=>v=.slice none 0 0) L C A B D w e w':=by
 rw[Q,b3];have HO:=hI T;have HQ:=hI hq;have c0:=hI Q;have c9:=hI b6;have e5:=hI a9;have e7:=hI b1;have f0:=hI b5;have e8:=hI b2;obtain⟨gb,rfl,a8,d3⟩:=qh T.bk.row (by omega)
 obtain⟨cs,b0⟩:=zA T.bk.row gb rfl;obtain⟨d1,d0,eE,q1,q2,q3⟩:=zp (T.bk.legs m hm);obtain⟨b,P⟩:∃ b,b=x.bk m:=⟨_,rfl⟩;have d9:=hI P;have Y:=hI b0;have b7:Hid (∀ V,Below _ w V->∀ j v,(bkC _ E m)[j]?=some v->V.cell? _=some v):=λV hV j v hv=>by
  have hj:j<13:=by
   have h:=(List.getElem?_eq_some_iff.1 hv).1;exact h
  have h:=zs T.bk.row (m*13+j) (by omega) rfl
  rw[zC 13 _ m j hj,List.getD_eq_getElem?_getD,hv] at h;exact(hV.cell d3).trans h
 have e6:Hid (E m=.slice d1 b.lgn d0):=by rw[P];exact eE
 have i1:(0:Int)<=(m:Int):=by omega
 have i2:(m:Int)<(R:Int):=by omega
 have f2:IntKind.i64.wrap ((m:Int)+1 - 1)=(m:Int):=by rw[Jk];omega
 have HM:=hI hm;have e4:=hI a8;clear b0 eE q1 q2 q3 P a8;clear T hq Q b6 a9 b1 b5 b2 b3 hm;obtain⟨pr,S⟩:∃ pr,pr=zE ⟨y.pe,y.len,y.hei,y.cl,y.all,y.be⟩ (y.lgn:Int):=⟨_,rfl⟩;have e9:=hI S;have c:Below _ w ((w.alloc (.cells #[int i64 8,y.own,int i64 ((m:Int)+1),(l,y.lgn,u),y.pe,y.len,y.hei,y.cl,y.all,y.be,y.unt,y.now] 47)).alloc (.cells #[(),(),(),True] 41)):=zk (zk bZ _) _;have p:=zd (Jb w (.cells #[int i64 8,y.own,int i64 ((m:Int)+1),(l,y.lgn,u),y.pe,y.len,y.hei,y.cl,y.all,y.be,y.unt,y.now] 47)) (.cells #[(),(),(),True] 41);have t:=zfT w (.cells #[int i64 8,y.own,int i64 ((m:Int)+1),(l,y.lgn,u),y.pe,y.len,y.hei,y.cl,y.all,y.be,y.unt,y.now] 47) (.cells #[(),(),(),True] 41);go_enter func93,ntmps93;go_wp2_with fail;generalize ((w.alloc _).alloc _)=W at c p t ⊢;refine(Zy _ _ _ _ _ _ _ _ d5 (by unfold In;omega)).mono ?_
 rintro e V ⟨rfl,H⟩;rw[← S];clear S;replace c:=ze c H;replace p:=zb p H;replace t:=zb t H;clear H W;have o0:=za p 0 _ rfl;have n2:∀ G:zn V,G.val.cell? _=some (.slice _ R q):=λG=>za (zb HQ (ze c G.bel)) 2 _ rfl
 have m2:∀ G:zn V,G.val.cell? _=some (.int _ _):=λG=>za (zb p G.bel) 2 _ rfl
 go_upto_region 17 with fail;refine zh (by kernel_rfl) (by kernel_rfl) ?_
 repeat(first|go_big_quiet_skip|(go_big_quiet_want;go_big_quiet_op;first|go_big_quiet_on|fail))
 refine Jl ?_;rintro _ ⟨G,rfl⟩;replace c:=ze c G.bel;replace p:=zb p G.bel;replace t:=zb t G.bel;have d6:=zM t;have o2:=za p 2 _ rfl;clear o0 n2 m2;have o0:∀ o,(G.val.alloc o).cell? _=some (.int _ 8):=λo=>za (zd p o) 0 _ rfl
 go_upto_region 20 with fail;replace c:=zk c (.cells #[(),int i64 ((m:Int)+1),(),True] 41);replace p:=zd p (.cells #[(),int i64 ((m:Int)+1),(),True] 41);replace t:=zd t (.cells #[(),int i64 ((m:Int)+1),(),True] 41);have bT:=Jb G.val (.cells #[(),int i64 ((m:Int)+1),(),True] 41);generalize G.val.alloc _=X at c p t bT ⊢;generalize G.val.heap.size=tb at bT d6 ⊢;clear o0 o2 G V;have a5:=zb Y c;have d7:=b7 X c 10 _ rfl;have d2:=zg a5 (m*13+10);obtain⟨t0,t1,t2,t3⟩:=ce4 bT;go_upto_region 38 with fail;have a1:Hid (qx (x.bk m) F y={ x.bk m with state:=4 }):=by show _=_;simp[qx,c0.out]
 have n:zx X (X.setCell _ (int i64 4)) _:=((zx.refl X (λb=>b=gb)).set (a:=(gb,m*13+10)) rfl _)
 have s:Hid ((X.setCell (gb,m*13+10) (int i64 4)).ownsRow base 150 13 (some (gb,0),R,q) R (zbg (zah x.bk m (qx (x.bk m) F y)) (atV E m (E m)) R)):=by
  refine qR (zL ((HO.below c).bk.row) _ _) (λj _=>zfd 13 (by decide) (k:=m) (C:=bkC x.bk E) (f:=λi=>if i=_ then _ else _) (λr hr=>?_) (λj hj=>?_) (λi hi=>?_) j)
  ·have d:=zC 13 (bkC x.bk E) m r hr
   unfold bkC;rw[ZL,qu,a1.out];unfold bkC at d;have b4:r=0∨r=1∨r=2∨r=3∨r=4∨r=5∨r=6∨r=7∨r=8∨r=9∨r=10∨r=11∨r=12:=by omega
   rcases b4 with rfl|rfl|rfl|rfl|rfl|rfl|rfl|rfl|rfl|rfl|rfl|rfl|rfl
   ·rw[Je (by omega),d];rfl
   ·rw[Je (by omega),d];rfl
   ·rw[Je (by omega),d];rfl
   ·rw[Je (by omega),d];rfl
   ·rw[Je (by omega),d];rfl
   ·rw[Je (by omega),d];rfl
   ·rw[Je (by omega),d];rfl
   ·rw[Je (by omega),d];rfl
   ·rw[Je (by omega),d];rfl
   ·rw[Je (by omega),d];rfl
   ·rw[Jf rfl];rfl
   ·rw[Je (by omega),d];rfl
   ·rw[Je (by omega),d];rfl
  ·rw[Je (by omega)]
  ·unfold bkC
   rw[zaf _ _ _ hi,qf _ _ _ _ hi]
 have a3:=hI ((HO.below c).putBk n s (by rw[a1.out];exact(HO.below c).bk.legs m HM) (HO.bk.far_same HM))
 have d4:g≠gb:=λe=>by have h:=Y.out;rw[← e,HQ.out] at h;simp at h
 have a4:=hI (n.blk (zb HQ c) d4);have a6:=n.blk bT (by show _;omega)
 have z:=n.blk t (by show _;omega)
 have a0:Hid (zx w _ (λb=>b=g∨(Value.slice (some (gb,0)) R q).ownBlock=some b)):=(zx.of_below c).trans (n.mono (λb e=>.inr (by rw[show _ from e];rfl)))
 generalize (X.setCell _ _)=Z1 at n s a3 a4 a6 z a0 ⊢;clear n s bT t p a5 t0 t1 t2 t3 d7 d2;have d8:w.heap.size+1≠tb:=by omega
 obtain⟨a2,a7,Z,bF⟩:=zbC a0 a3 a4 z (by omega) () (int i64 ((m:Int)+1)) () True rfl
 obtain⟨t0,t1,t2,t3⟩:=ce4 a6;obtain⟨v0,v1,v2,v3⟩:=ce4 z;obtain⟨e0,e1,e2,e3⟩:=fe4 z;have U:=hI a2;have b9:=hI a7;have b8:=hI Z;clear a2 a7 Z;go_wp2;obtain⟨x0,x1,x2,x3⟩:=ce4 bF;refine Jj (v:=.agg #[int i64 0,int i64 ((m:Int)+1),int i64 (0),.slice none 0 0]) (by simp[results,results93,go_sem,x0,x1,x2,x3]) rfl ?_
 have d:=c9;subst d;exact⟨_,_,_,_,rfl,rfl,U,b9,b8⟩
theorem l7End_1 (g base N R l k u d:Nat)(j i t b:Option Addr)(Q:Int)(y:OpD)(x:Off)(L C A B D E:Nat->Value)(w:World)(X:w.heap[g]?=some (.cells #[(j,N,l),(i,N,k),(t,R,u)] 38 (0,0)))(U:zF w base (j,N,l) (i,N,k) (t,R,u) N N R x L C A B D E)(J:x.bkn=R)(F:base<=w.heap.size)(m:y.kind=1)(S:In y.pe 0 20)(a3:y.lgn<=3)(G:zT w b y.lgn y.lg)(I:qj b y.lgn d)(H:0<y.lgn->∀ a,b=some a->a.block<base) :
  Calls prog 93 #[.pointer (some (g,0)),Q,.agg (y,b,d)] w λe w'=>zdm g base N l k j i (λ_=>False) x 0 0 (zE ⟨y.pe,y.len,y.hei,y.cl,y.all,y.be⟩ (y.lgn:Int)) (λ_ v=>v=.slice none 0 0) L C A B D w e w':=by
 rw[m];have HO:=hI U;have HQ:=hI X;have Z:=hI m;have P:=hI J;have Y:=hI F;have a0:=hI G;have a2:=hI I;have a1:=hI H;clear U X m J F G I H;obtain⟨M,n⟩:∃ M,M=zE ⟨y.pe,y.len,y.hei,y.cl,y.all,y.be⟩ (y.lgn:Int):=⟨_,rfl⟩;have O:=hI n;have c:Below _ w ((w.alloc (.cells #[int i64 1,y.own,y.name,(b,y.lgn,d),y.pe,y.len,y.hei,y.cl,y.all,y.be,y.unt,y.now] 47)).alloc (.cells #[(),(),(),True] 41)):=zk (zk bZ _) _;have K:=zd (Jb w (.cells #[int i64 1,y.own,y.name,(b,y.lgn,d),y.pe,y.len,y.hei,y.cl,y.all,y.be,y.unt,y.now] 47)) (.cells #[(),(),(),True] 41);have o:=zfT w (.cells #[int i64 1,y.own,y.name,(b,y.lgn,d),y.pe,y.len,y.hei,y.cl,y.all,y.be,y.unt,y.now] 47) (.cells #[(),(),(),True] 41);go_enter func93,ntmps93;go_wp2_with fail;generalize ((w.alloc _).alloc _)=W at c K o ⊢;refine(Zy _ _ _ _ _ _ _ _ S (by unfold In;omega)).mono ?_
 rintro e V ⟨rfl,f⟩;rw[← n];clear n;replace c:=ze c f;replace K:=zb K f;replace o:=zb o f;clear f W;have o0:=za K 0 _ rfl;obtain⟨s,z,r,bF⟩:=zbC (T:=(λ_=>False)) (zx.of_below c) (HO.below c) (zb HQ c) o (by omega) () () M True rfl
 obtain⟨v0,v1,v2,v3⟩:=ce4 o;obtain⟨e0,e1,e2,e3⟩:=fe4 o;have h:=hI s;have q:=hI z;have p:=hI r;clear s z r;go_wp2;obtain⟨x0,x1,x2,x3⟩:=ce4 bF;refine Jj (v:=.agg #[(),(),M,True]) (by simp[results,results93,go_sem,x0,x1,x2,x3]) rfl ?_
 have hR:=P;subst hR;rw[O.out] at h q p ⊢;exact⟨_,_,_,_,rfl,rfl,h,q,p⟩
theorem l7End_2f (g base N R k j t d:Nat)(i h s b:Option Addr)(O:Int)(y:OpD)(x:Off)(L C A B D E:Nat->Value)(w:World)(U:w.heap[g]?=some (.cells #[(i,N,k),(h,N,j),(s,R,t)] 38 (0,0)))(S:zF w base (i,N,k) (h,N,j) (s,R,t) N N R x L C A B D E)(I:x.bkn=R)(z:base<=w.heap.size)(l:y.kind=2)(P:In y.pe 0 20)(a4:y.lgn<=3)(F:zT w b y.lgn y.lg)(H:qj b y.lgn d)(G:0<y.lgn->∀ a,b=some a->a.block<base)(hR:R=30) :
  Calls prog 93 #[.pointer (some (g,0)),O,.agg (y,b,d)] w λe w'=>zdm g base N k j i h (λ_=>False) x 8 0 0 (λ_ v=>v=.slice none 0 0) L C A B D w e w':=by
 subst hR;rw[l];have HO:=hI S;have Q:=hI U;have Z:=hI l;have r:=hI I;have Y:=hI z;have a0:=hI F;have a3:=hI H;have a1:=hI G;clear S U l I z F H G;obtain⟨X,m⟩:∃ X,X=zE ⟨y.pe,y.len,y.hei,y.cl,y.all,y.be⟩ (y.lgn:Int):=⟨_,rfl⟩;have a2:=hI m;have c:Below _ w ((w.alloc (.cells #[int i64 2,y.own,y.name,(b,y.lgn,d),y.pe,y.len,y.hei,y.cl,y.all,y.be,y.unt,y.now] 47)).alloc (.cells #[(),(),(),True] 41)):=zk (zk bZ _) _;have J:=zd (Jb w (.cells #[int i64 2,y.own,y.name,(b,y.lgn,d),y.pe,y.len,y.hei,y.cl,y.all,y.be,y.unt,y.now] 47)) (.cells #[(),(),(),True] 41);have n:=zfT w (.cells #[int i64 2,y.own,y.name,(b,y.lgn,d),y.pe,y.len,y.hei,y.cl,y.all,y.be,y.unt,y.now] 47) (.cells #[(),(),(),True] 41);go_enter func93,ntmps93;go_wp2_with fail;generalize ((w.alloc _).alloc _)=W at c J n ⊢;refine(Zy _ _ _ _ _ _ _ _ P (by unfold In;omega)).mono ?_
 rintro e V ⟨rfl,f⟩;rw[← m];clear m;replace c:=ze c f;replace J:=zb J f;replace n:=zb n f;clear f W;have o0:=za J 0 _ rfl;have zq:=za (zb Q c) 2 _ rfl;obtain⟨q,u,p,bF⟩:=zbC (T:=(λ_=>False)) (zx.of_below c) (HO.below c) (zb Q c) n (by omega) (int i64 8) () () True rfl
 obtain⟨v0,v1,v2,v3⟩:=ce4 n;obtain⟨e0,e1,e2,e3⟩:=fe4 n;have o:=hI q;have M:=hI u;have K:=hI p;clear q u p;go_wp2;obtain⟨x0,x1,x2,x3⟩:=ce4 bF;refine Jj (v:=.agg #[int i64 8,(),(),True]) (by simp[results,results93,go_sem,x0,x1,x2,x3]) rfl ?_
 exact⟨_,_,_,_,rfl,rfl,by rw[r.out];exact o,by rw[r.out];exact M,K⟩
theorem l7End_3f (g base N R k j t d:Nat)(i h s b:Option Addr)(O:Int)(y:OpD)(x:Off)(L C A B D E:Nat->Value)(w:World)(U:w.heap[g]?=some (.cells #[(i,N,k),(h,N,j),(s,R,t)] 38 (0,0)))(S:zF w base (i,N,k) (h,N,j) (s,R,t) N N R x L C A B D E)(I:x.bkn=R)(z:base<=w.heap.size)(l:y.kind=3)(P:In y.pe 0 20)(a4:y.lgn<=3)(F:zT w b y.lgn y.lg)(H:qj b y.lgn d)(G:0<y.lgn->∀ a,b=some a->a.block<base)(hR:R=30) :
  Calls prog 93 #[.pointer (some (g,0)),O,.agg (y,b,d)] w λe w'=>zdm g base N k j i h (λ_=>False) x 8 0 0 (λ_ v=>v=.slice none 0 0) L C A B D w e w':=by
 subst hR;rw[l];have HO:=hI S;have Q:=hI U;have Z:=hI l;have r:=hI I;have Y:=hI z;have a0:=hI F;have a3:=hI H;have a1:=hI G;clear S U l I z F H G;obtain⟨X,m⟩:∃ X,X=zE ⟨y.pe,y.len,y.hei,y.cl,y.all,y.be⟩ (y.lgn:Int):=⟨_,rfl⟩;have a2:=hI m;have c:Below _ w ((w.alloc (.cells #[int i64 3,y.own,y.name,(b,y.lgn,d),y.pe,y.len,y.hei,y.cl,y.all,y.be,y.unt,y.now] 47)).alloc (.cells #[(),(),(),True] 41)):=zk (zk bZ _) _;have J:=zd (Jb w (.cells #[int i64 3,y.own,y.name,(b,y.lgn,d),y.pe,y.len,y.hei,y.cl,y.all,y.be,y.unt,y.now] 47)) (.cells #[(),(),(),True] 41);have n:=zfT w (.cells #[int i64 3,y.own,y.name,(b,y.lgn,d),y.pe,y.len,y.hei,y.cl,y.all,y.be,y.unt,y.now] 47) (.cells #[(),(),(),True] 41);go_enter func93,ntmps93;go_wp2_with fail;generalize ((w.alloc _).alloc _)=W at c J n ⊢;refine(Zy _ _ _ _ _ _ _ _ P (by unfold In;omega)).mono ?_
 rintro e V ⟨rfl,f⟩;rw[← m];clear m;replace c:=ze c f;replace J:=zb J f;replace n:=zb n f;clear f W;have o0:=za J 0 _ rfl;have zq:=za (zb Q c) 2 _ rfl;obtain⟨q,u,p,bF⟩:=zbC (T:=(λ_=>False)) (zx.of_below c) (HO.below c) (zb Q c) n (by omega) (int i64 8) () () True rfl
 obtain⟨v0,v1,v2,v3⟩:=ce4 n;obtain⟨e0,e1,e2,e3⟩:=fe4 n;have o:=hI q;have M:=hI u;have K:=hI p;clear q u p;go_wp2;obtain⟨x0,x1,x2,x3⟩:=ce4 bF;refine Jj (v:=.agg #[int i64 8,(),(),True]) (by simp[results,results93,go_sem,x0,x1,x2,x3]) rfl ?_
 exact⟨_,_,_,_,rfl,rfl,by rw[r.out];exact o,by rw[r.out];exact M,K⟩
theorem l1Has_no (d:Option Addr)(n a:Nat)(f:Nat->Int)(x:Int)(w:World)(hn:n<=1048576)(h:zT w d n f)(c:∀ j,j<n->f j≠x) :
  Calls prog 87 #[(d,n,a),x] w λe w'=>e=.returned (.bool false)/\w'=w:=by
 go_enter func87,ntmps87;go_wp2;go_loop [9] (λi=>∃ k,k<=n/\i=int i64 k) (λi=>n - (intOf i).toNat)
 case atStart=>exact⟨0,Jq _,rfl⟩
 case round =>
  obtain⟨k,hk,rfl⟩:=hrel
  by_cases hlt:k<n
  ·obtain⟨b,off,rfl,hc⟩:=h k hlt
   have g:(f k == x)=false:=by simpa using c k hlt
   go_wp2;go_round
   case rel=>exact⟨k+1,by omega,by go_num⟩
   case measure=>simp[intOf];omega
  ·go_wp2
   go_ret;exact⟨rfl,rfl⟩
theorem l1Has_yes (l:Option Addr)(n d:Nat)(f:Nat->Int)(x:Int)(w:World)(hn:n<=1048576)(p:zT w l n f)(c:∃ j,j<n/\f j=x) :
  Calls prog 87 #[(l,n,d),x] w λe w'=>e=.returned (.bool true)/\w'=w:=by
 have H:=hI c;clear c;go_enter func87,ntmps87;go_wp2;go_loop [9] (λi=>∃ k,k<=n/\i=int i64 k/\∀ j,j<k->f j≠x) (λi=>n - (intOf i).toNat)
 case atStart=>exact⟨0,Jq _,rfl,by omega⟩
 case round =>
  obtain⟨k,hk,rfl,a⟩:=hrel;have h:=hI a;clear a
  by_cases hlt:k<n
  ·obtain⟨b,off,rfl,hc⟩:=p k hlt
   by_cases he:f k=x
   ·have g:(f k == x)=true:=by simpa using he
    clear he;go_wp2;go_ret;exact⟨rfl,rfl⟩
   ·have g:(f k == x)=false:=by simpa using he
    have m:=hI he;clear he;go_wp2;go_round
    case rel=>exact⟨k+1,by omega,by go_num,λj o=>by
     by_cases e:j=k
     ·rw[e];exact m
     ·exact h j (by omega)⟩
    case measure=>simp[intOf];omega
  ·exfalso
   obtain⟨j,o,e⟩:=H;exact h j (by omega) e
theorem zkV (d:Option Addr)(n c:Nat)(f:Nat->Int)(x:Int)(w:World)(g:n<=1048576)(i:zT w d n f) :
  Calls prog 87 #[(d,n,c),x] w λe w'=>(∃ b:Bool,e=.returned b/\(b=true↔∃ j,j<n/\f j=x))/\w'=w:=by
 by_cases h:∃ j,j<n/\f j=x
 ·exact(l1Has_yes d n c f x w g i h).mono λ_ _ ⟨a,b⟩=>⟨⟨_,a,⟨λ_=>h,λ_=>rfl⟩⟩,b⟩
 ·exact(l1Has_no d n c f x w g i (λj k e=>h ⟨j,k,e⟩)).mono λ_ _ ⟨a,b⟩=>⟨⟨_,a,⟨λe=>(by cases e),λe=>absurd e h⟩⟩,b⟩
section
open Go.RowKit
variable{w:World}{g t:Nat}{u0 u1 u2:Value}
theorem setV {n:Nat}{w':World}(h:Below n w w'){o:Nat}(a:n<=g)(v:Value):Below n w (w'.setCell (g,o) v):=h.setCell (p:=(g,o)) a v
theorem rec3W (h:w.heap[g]?=some (.cells #[u0,u1,u2] t (0,0)))(v0 v1 v2:Value) :
  (((w.setCell (g,0) v0).setCell (g,1) v1).setCell (g,2) v2).heap[g]?=some (.cells #[v0,v1,v2] t (0,0)):=by
 have a:=by simpa using zm h 0 v0
 have b:=by simpa using zm a 1 v1
 simpa using zm b 2 v2
theorem rowln_set {u3 u4:Value}(h:w.heap[g]?=some (.cells #[u0,u1,u2,u3,u4] t (0,0)))(v:Value):(w.setCell (g,3) v).heap[g]?=some (.cells #[u0,u1,u2,v,u4] t (0,0)):=by simpa using zm h 3 v
theorem znW {u3 u4:Value}(h:w.heap[g]?=some (.cells #[u0,u1,u2,u3,u4] t (0,0)))(v:Value):(w.setCell (g,4) v).heap[g]?=some (.cells #[u0,u1,u2,u3,v] t (0,0)):=by simpa using zm h 4 v
theorem zkW (x:Off)(F d9 a3:Option Addr)(L S b4 k:Nat)(z:Int)(w:World)(hs:Off.Short x 1048576)(e5:qB w F x.san x.sa)(P:ZG w d9 x.ldn x.ld)(e2:qO w a3 x.bkn x.bk)(j4:x.bkn<=30)(e3:zW x.sa z x.san=k)(j7:k<x.san)(i5:x.ldn=x.san) :
  Calls prog 170 #[.agg #[(F,x.san,L),(d9,x.ldn,S),(a3,x.bkn,b4)],z] w λe w'=>(∃ v,e=.returned v/\w'.ownsRow w.heap.size 203 5 v (Qn (x.ld k) x.bk z x.bkn).length (qW (zeM (Qn (x.ld k) x.bk z x.bkn)) (Qn (x.ld k) x.bk z x.bkn).length))/\Below w.heap.size w w':=by
 obtain⟨j0,ji,i7,i8,i9⟩:=info_parts Tryz.infoRow;have g5:=hI e5;have f6:=hI e2;have g6:=hI hs;have n1:=hs.1.1;have f8:=hI e3;obtain⟨C,hC,hI⟩:=P;obtain⟨lb,lo,rfl,A⟩:=hC k (by omega)
 obtain⟨l,P⟩:∃ l,l=x.ld k:=⟨_,rfl⟩;obtain⟨a4,a6,b2,b5,b3,b6,y,d1,f5,d0,e9,e6,f4⟩:=hI k (by omega)
 rw[← P] at y d1 f5 d0 e9 e6 f4;have a8:=hs.2.1.2 k (by omega)
 rw[← P] at a8;have n2:=a8.1;have n3:=a8.2.1;rw[← P];have g7:=hI d1;have g4:=hI d0;have d5:lb<w.heap.size:=Ja w _ (A 0 (by decide))
 have j5:(0:Int)<=(k:Int):=by omega
 have j6:(k:Int)<(x.ldn:Int):=by omega
 have a2:Hid (w.cell? ⟨lb,lo+_,_⟩=some (.slice a4 _ a6)/\w.cell? _=some (.slice b2 _ b5)/\w.cell? _=some (.slice b3 _ b6)) :=
  ⟨by have:=A 0 (by decide);rw[y] at this;exact this,by have:=A 1 (by decide);rw[y] at this;exact this,by have:=A 2 (by decide);rw[y] at this;exact this⟩
 have d6:Hid (∀ w',_->Calls _ 161 _ w' λe w2=>e=.returned _/\_):=λw' h =>
  (Q9 F _ L _ z w' n1 (g5.below h)).mono λe w2 ⟨a,b⟩=>⟨by
   rw[f8.out] at a
   rcases a with⟨_,rfl⟩|⟨h,_⟩
   ·rfl
   ·omega,b⟩
 have N:Below _ w (w.alloc (.cells #[(F,x.san,L),(some (lb,lo),x.ldn,S),(a3,x.bkn,b4)] 38)):=zk bZ _;have bO:=Jb w (.cells #[(F,x.san,L),(some (lb,lo),x.ldn,S),(a3,x.bkn,b4)] 38);clear e5 e2 hs e3 hC hI A y d1 f5 d0 e9 e6 f4 a8 P i5;go_enter func170,ntmps170;go_upto_region 1 with fail;generalize w.alloc _=V at N bO ⊢;have i0:=N.size;have BW:Hid (∀ w',_->Below _ w w'):=λw' h=>ze N h
 have h4:=zM bO;have KS:Hid (∀ w',Below _ V w'->(w'.cell? _=some (.slice F _ L)/\w'.cell? _=some (.slice _ _ S)/\_/\_/\_)):=λw' h=>by
  have g1:=zb bO h;have g2:=ze N h;exact⟨za g1 0 _ rfl,za g1 1 _ rfl,(g2.cell d5).trans a2.1,(g2.cell d5).trans a2.2.1,(g2.cell d5).trans a2.2.2⟩
 go_cut [5] (λs5 wc=>∃ B,s5=.pointer (some ⟨B,0,none⟩)/\wc.heap[B]?=some (.cells #[.slice a4 l.stn a6,.slice b2 l.ron b5,.slice b3 l.sen b6] 145 (0,0))/\Below V.heap.size V wc)
 case first =>
  go_region_held3 (λw'=>w'.cell? (w.heap.size,0)=some (F,x.san,L)/\w'.cell? (w.heap.size,1)=some (some (lb,lo),x.ldn,S)/\w'.cell? (lb,lo+k*3)=some (a4,l.stn,a6)/\w'.cell? (lb,lo+k*3+1)=some (b2,l.ron,b5)/\w'.cell? (lb,lo+k*3+2)=some (b3,l.sen,b6))
   ((refine KS _ ?_;exact(by repeat(first|exact bZ|refine Jh ?_|refine zk ?_ _|refine setV ?_ (by omega) _|refine ze ?_ O))))
   (first|(go_at_call 161;refine Jm (d6 _ (BW _ (by repeat(first|exact bZ|refine Jh ?_|refine zk ?_ _|refine setV ?_ (by omega) _|refine ze ?_ O)))) ?_;rintro e w4 ⟨rfl,O⟩;have s4:V.heap.size<=w4.heap.size:=(by have:=O.size;first|omega|(simp at this;omega));(first|(have m:w4.heap[V.heap.size]?=_:=zb (Jb V.drew (.cells _ 145)) O;have y0:=za m 0 _ rfl;have y1:=za m 1 _ rfl;have y2:=za m 2 _ rfl;have f0:=zg m 0;have f1:=zg m 1;have f2:=zg m 2)|skip)))
  all_goals
   go_wp2;go_meet
   first|exact⟨_,rfl,Jb w4 _,(by repeat(first|exact bZ|refine Jh ?_|refine zk ?_ _|refine setV ?_ (by omega) _|refine ze ?_ O))⟩|exact⟨_,rfl,rec3W m _ _ _,(by repeat(first|exact bZ|refine Jh ?_|refine zk ?_ _|refine setV ?_ (by omega) _|refine ze ?_ O))⟩
 case rest =>
 obtain⟨B,rfl,bL,b7⟩:=hcut;have g9:=zb bO b7;have T:=ze N b7;clear bO N b7 KS BW d6 a2 h4 i0;have z2:=za g9 2 _ rfl;go_wp2;clear z2;go_loopw [6,8,9,11,13,25] (λv _ _ _ _ q wr=>∃ (i r:Nat),i<=x.bkn/\q=int i64 i/\r=(Qn l x.bk z i).length/\wr.ownsRow wc.heap.size 203 5 v r (qW (zeM (Qn l x.bk z i)) r)/\Below wc.heap.size wc wr) (λ_ _ _ _ _ q _=>x.bkn - (intOf q).toNat)
 case atStart=>exact⟨0,0,Jq _,rfl,rfl,⟨rfl,.inl ⟨rfl,rfl⟩⟩,bZ⟩
 case round =>
  obtain⟨i,r,hi,rfl,e4,X,U⟩:=hrel;have Q:=hI e4;have j1:r<=30:=by have:=zmL l x.bk z i;omega
  clear e4;have c:=ze T U
  by_cases hlt2:i<x.bkn
  ·obtain⟨D,hD,hJ⟩:=f6
   obtain⟨bb,bo,rfl,A⟩:=hD i hlt2;obtain⟨b,a7⟩:∃ b,b=x.bk i:=⟨_,rfl⟩;obtain⟨J,K,y,b9,e8⟩:=hJ i hlt2;rw[← a7] at y b9 e8;have a1:=hI a7;have f7:Hid (ql.Short b 1048576):=by rw[a7];exact g6.2.2.2 i hlt2
   have f9:=hI b9;have f:bb<w.heap.size:=Ja w _ (A 0 (by decide))
   have c0:wr.cell? _=some (.int _ _):=(c.cell (p:=⟨bb,bo+_,_⟩) f).trans (by have:=A 0 (by decide);rw[y] at this;exact this)
   have c1:wr.cell? _=some (.int _ _):=(c.cell f).trans (by have:=A 1 (by decide);rw[y] at this;exact this)
   have c2:wr.cell? _=some (.string _):=(c.cell f).trans (by have:=A 2 (by decide);rw[y] at this;exact this)
   have c3:wr.cell? _=some (.slice J _ K):=(c.cell f).trans (by have:=A 3 (by decide);rw[y] at this;exact this)
   have c4:wr.cell? _=some (.int _ _):=(c.cell f).trans (by have:=A 4 (by decide);rw[y] at this;exact this)
   have c5:wr.cell? _=some (.int _ _):=(c.cell f).trans (by have:=A 5 (by decide);rw[y] at this;exact this)
   have c6:wr.cell? _=some (.int _ _):=(c.cell f).trans (by have:=A 6 (by decide);rw[y] at this;exact this)
   have c7:wr.cell? _=some (.int _ _):=(c.cell f).trans (by have:=A 7 (by decide);rw[y] at this;exact this)
   have c8:wr.cell? _=some (.bool _):=(c.cell f).trans (by have:=A 8 (by decide);rw[y] at this;exact this)
   have c9:wr.cell? _=some (.int _ _):=(c.cell f).trans (by have:=A 9 (by decide);rw[y] at this;exact this)
   have h5:wr.cell? _=some (.int _ _):=(c.cell f).trans (by have:=A 10 (by decide);rw[y] at this;exact this)
   have h6:wr.cell? _=some (.int _ _):=(c.cell f).trans (by have:=A 11 (by decide);rw[y] at this;exact this)
   have h7:wr.cell? _=some (.int _ _):=(c.cell f).trans (by have:=A 12 (by decide);rw[y] at this;exact this)
   clear hD hJ A y a7 b9 e8;go_wp2_with fail;have bB:=Jb wr (.cells (b,J,K) 150);have b8:Below _ wc (wr.alloc (.cells (b,J,K) 150)):=zk U _;have I:=X.alloc (.cells (b,J,K) 150);generalize wr.alloc _=Y at bB b8 I ⊢;generalize wr.heap.size=j2 at bB ⊢;clear c0 c1 c2 c3 c4 c5 c6 c7 c8 c9 h5 h6 h7 U c X;refine(zft b J K _).mono ?_;rintro e Y1 ⟨rfl,m⟩;have G:=zb bB m;have n:=ze b8 m;have s:=zo m I;clear bB b8 m I;obtain⟨t1,d2⟩:∃ t,t=decide (zez b):=⟨_,rfl⟩;rw[← d2];have b0:Hid (t1=true↔zez b):=by show _↔_;rw[d2,decide_eq_true_eq]
   clear d2
   cases t1 with
   | false =>
    have HN:Hid (¬ OnZ (x.bk i) z):=λh=>by rw[← a1.out] at h;have:=b0.2 h.1;cases this
    go_wp2;go_roundw
    case rel=>exact⟨i+1,r,by omega,by go_num,by rw[zdW HN.out];exact Q,by rw[zdW HN.out];exact s,n⟩
    case measure=>simp[intOf];omega
   | true =>
    have d7:=hI (b0.1 rfl);clear b0;have y3:=za G 3 _ rfl;go_wp2_with fail;refine(zkV J _ K _ z _ f7.2 (f9.below (ze T n))).mono ?_;rintro e Y2 ⟨⟨t2,rfl,e7⟩,d4⟩;have d4:=d4.symm;subst d4;have b1:=hI e7;clear e7 y3
    cases t2 with
    | false =>
     have HN:Hid (¬ OnZ (x.bk i) z):=λh=>by rw[← a1.out] at h;have:=b1.2 h.2;cases this
     go_wp2;go_roundw
     case rel=>exact⟨i+1,r,by omega,by go_num,by rw[zdW HN.out];exact Q,by rw[zdW HN.out];exact s,n⟩
     case measure=>simp[intOf];omega
    | true =>
     have d8:Hid (OnZ (x.bk i) z):=by show OnZ _ z;rw[← a1.out];exact⟨d7,b1.1 rfl⟩
     clear b1 d7;have y0:=za G 0 _ rfl;have y2:=za G 2 _ rfl;have y4:=za G 4 _ rfl;have l0:∀ o,(Y1.alloc o).cell? _=some (.slice a4 _ a6):=λo=>za (zd (zb bL n) o) 0 _ rfl
     go_wp2;have bR:=Jb Y1 (.cells #[b.name,b.own,b.pe,int i64 (-1),int i64 (-1)] 203);have W:Below _ wc (Y1.alloc (.cells #[b.name,b.own,b.pe,int i64 (-1),int i64 (-1)] 203)):=zk n _;have Z:=s.alloc (.cells #[b.name,b.own,b.pe,int i64 (-1),int i64 (-1)] 203);have a5:=zd G (.cells #[b.name,b.own,b.pe,int i64 (-1),int i64 (-1)] 203);have d3:=λg hg=>And.right (World.ownsRow.lt s g hg)
     have i3:=n.size;have e0:=zM G;generalize Y1.alloc _=R0 at bR W Z a5 ⊢;generalize Y1.heap.size=rb at bR i3 e0 d3 ⊢;clear y0 y2 y4 l0 n G s;have g8:=hI d3;clear d3;have j3:=zM bL;go_loopw [11,50] (λ_ q wr=>∃ j,j<=l.stn/\q=int i64 j/\wr.heap[rb]?=some (.cells #[b.name,b.own,b.pe,(zas l.st b.who j),int i64 (-1)] 203 (0,0))/\zx R0 wr (λb=>b=rb)) (λ_ q _=>l.stn - (intOf q).toNat)
     case atStart=>exact⟨0,Jq _,rfl,bR,zx.refl _ _⟩
     case round =>
      obtain⟨j,hj,rfl,M,d⟩:=hrel;have H:=zx.below W W.size d (λg e=>by have e:=e;omega)
      have c:=ze T H;have R:=d.blk a5 (by omega)
      by_cases hjl:j<l.stn
      ·obtain⟨sb,so,rfl,h0,h1,h2,h3⟩:=g7 j hjl
       have E:=Ja w _ h0;have c0:=(c.cell E).trans h0;have c1:=(c.cell (p:=⟨sb,_+1,_⟩) E).trans h1;have c2:=(c.cell (p:=⟨sb,_+2,_⟩) E).trans h2;have c3:=(c.cell (p:=⟨sb,_+3,_⟩) E).trans h3;clear h0 h1 h2 h3;have y1:∀ o,(wr.alloc o).cell? _=some (.int _ _):=λo=>za (zd R o) 1 _ rfl
       have r3:∀ o,(wr.alloc o).cell? _=some (.int _ _):=λo=>za (zd M o) 3 _ rfl
       have g3:=λo=>zg (zd M o) 3
       have i1:(0:Int)<=(j:Int):=by omega
       have i2:(j:Int)<(l.stn:Int):=by omega
       by_cases he:(l.st j).who=b.who
       ·have e1:((l.st j).who == b.who)=true:=by simpa using he
        have HE:=hI he;clear he;go_wp2;go_roundw
        case rel=>exact⟨j+1,by omega,by go_num,by rw[show zas l.st b.who (j+1)=(l.st j).ln by rw[zas,Jf HE.out]];exact rowln_set (zd M _) _,(d.trans (zx.of_below (zk bZ _))).set rfl _⟩
        case measure=>simp[intOf];omega
       ·have e1:((l.st j).who == b.who)=false:=by simpa using he
        have HE:=hI he;clear he;go_wp2;go_roundw
        case rel=>exact⟨j+1,by omega,by go_num,by rw[show zas l.st b.who (j+1)=zas l.st b.who j by rw[zas,Je HE.out]];exact zd M _,d.trans (zx.of_below (zk bZ _))⟩
        case measure=>simp[intOf];omega
      ·obtain rfl:j=l.stn:=by omega
       have l1:=za (zb bL H) 1 _ rfl;clear H c R bR hj hjl;go_wp2;clear l1;have bR:=M;have a9:=d;clear M d;go_loopw [13,66] (λ_ q wr=>∃ j,j<=l.ron/\q=int i64 j/\wr.heap[rb]?=some (.cells #[b.name,b.own,b.pe,(zas l.st b.who l.stn),(QA l.ro b.who j)] 203 (0,0))/\zx R0 wr (λb=>b=rb)) (λ_ q _=>l.ron - (intOf q).toNat)
       case atStart=>exact⟨0,Jq _,rfl,bR,a9⟩
       case round =>
        obtain⟨j,hj,rfl,M,d⟩:=hrel;have H:=zx.below W W.size d (λg e=>by have e:=e;omega)
        have c:=ze T H;have R:=d.blk a5 (by omega)
        by_cases hjl:j<l.ron
        ·obtain⟨sb,so,rfl,h0,h1,h2,h3⟩:=g4 j hjl
         have E:=Ja w _ h0;have c0:=(c.cell E).trans h0;have c1:=(c.cell (p:=⟨sb,_+1,_⟩) E).trans h1;have c2:=(c.cell (p:=⟨sb,_+2,_⟩) E).trans h2;have c3:=(c.cell (p:=⟨sb,_+3,_⟩) E).trans h3;clear h0 h1 h2 h3;have y1:∀ o,(wr.alloc o).cell? _=some (.int _ _):=λo=>za (zd R o) 1 _ rfl
         have r3:∀ o,(wr.alloc o).cell? _=some (.int _ _):=λo=>za (zd M o) 4 _ rfl
         have g3:=λo=>zg (zd M o) 4
         have i1:(0:Int)<=(j:Int):=by omega
         have i2:(j:Int)<(l.ron:Int):=by omega
         by_cases he:(l.ro j).who=b.who
         ·have e1:((l.ro j).who == b.who)=true:=by simpa using he
          have HE:=hI he;clear he;go_wp2;go_roundw
          case rel=>exact⟨j+1,by omega,by go_num,by rw[show QA l.ro b.who (j+1)=(l.ro j).cab by rw[QA,Jf HE.out]];exact znW (zd M _) _,(d.trans (zx.of_below (zk bZ _))).set rfl _⟩
          case measure=>simp[intOf];omega
         ·have e1:((l.ro j).who == b.who)=false:=by simpa using he
          have HE:=hI he;clear he;go_wp2;go_roundw
          case rel=>exact⟨j+1,by omega,by go_num,by rw[show QA l.ro b.who (j+1)=QA l.ro b.who j by rw[QA,Je HE.out]];exact zd M _,d.trans (zx.of_below (zk bZ _))⟩
          case measure=>simp[intOf];omega
        ·obtain rfl:j=l.ron:=by omega
         have a0:=d.own Z (λg hg e=>by have:=g8 g hg;have e:=e;omega)
         obtain⟨r0,r1,r2,r3,r4⟩:=ce5 M;have j8:=H.size;clear R a5 c bR d a9 M hj hjl;have g0:Hid (∀ ad,(some ⟨wr.heap.size,0,none⟩:Option Addr)=some ad->∀ j u,([int i64 b.name,.string b.own,int i64 b.pe,int i64 (zas l.st b.who l.stn),int i64 (QA l.ro b.who l.ron)]:_)[j]?=some u->(wr.alloc (.cells #[int i64 b.name,.string b.own,int i64 b.pe,int i64 (zas l.st b.who l.stn),int i64 (QA l.ro b.who l.ron)] 203)).cell? (ad.add j)=some u):=by
          intro ad e
          cases e
          exact Jo (Jb wr _)
         go_wp2_with (first|(at_builtin;refine zv _ rfl _ _ 39 rfl _ 203 j0 _ 5 48 underlying39 ji i7 i8 i9 rfl (by decide) _ r _ (by rfl) (a0.alloc _) _ 1 1 _ rfl (λh=>(by cases h)) rfl g0 (by intro u hu;simp at hu;rcases hu with rfl|rfl|rfl|rfl|rfl <;> rfl) (by unfold maxLen;omega) (by omega) (by simp;omega) ?_;intro v' w3 i6 i4))
         go_roundw
         case rel =>
          refine⟨i+1,r+1,by omega,by go_num,?_,?_,(zk H _).grown i4 (by simp;omega) (λj hj=>(a0.lt j hj).1)⟩
          ·rw[zeL d8.out,List.length_append,← Q.out];rfl
          ·have e:=zkP (Qn l x.bk z i) (zhD l (x.bk i))
           rw[← Q.out] at e;rw[zeL d8.out,e,← a1.out];exact i6
         case measure=>simp[intOf];omega
  ·obtain rfl:i=x.bkn:=by omega
   go_wp2;go_ret;exact⟨⟨_,rfl,by rw[← Q.out];exact zu X T.size⟩,c⟩
end
theorem l7End_9 (g base N R l j q d:Nat)(i f o s:Option Addr)(d1:Int)(y:OpD)(x:Off)(L C A B D E:Nat->Value)(w:World)(hq:w.heap[g]?=some (.cells #[.slice i N l,.slice f N j,.slice o R q] 38 (0,0)))(ho:zF w base (.slice i N l) (.slice f N j) (.slice o R q) N N R x L C A B D E)(b4:x.bkn=R)(a8:base<=w.heap.size)(I:y.kind=9)(d4:In y.pe 0 20)(f0:y.lgn<=3)(J:zT w s y.lgn y.lg)(b3:qj s y.lgn d)(b2:0<y.lgn->∀ a,s=some a->a.block<base)(k:Nat)(b1:0<y.lgn)(H:zW x.sa (y.lg 0) N=k)(b0:k<N)(hs:Off.Short x 1048576)(b6:x.san=N)(b5:x.ldn=N)(a0:x.bkn<=30) :
  Calls prog 93 #[.pointer (some ⟨g,0,none⟩),int i64 d1,.agg #[int i64 y.kind,.string y.own,int i64 y.name,.slice s y.lgn d,int i64 y.pe,int i64 y.len,int i64 y.hei,int i64 y.cl,.bool y.all,int i64 y.be,int i64 y.unt,int i64 y.now]] w λe w'=>zdm g base N l j i f (λ_=>False) x 0 0 0 (λz v=>z.ownsRow w.heap.size 203 5 v (Qn (x.ld k) x.bk (y.lg 0) x.bkn).length (qW (zeM (Qn (x.ld k) x.bk (y.lg 0) x.bkn)) (Qn (x.ld k) x.bk (y.lg 0) x.bkn).length)) L C A B D w e w':=by
 have c9:Hid (_/\_/\_/\_/\_/\_/\_):=⟨H,b0,hs,b6,b5,a0,b1⟩;clear H b0 hs b6 b5 a0;rw[I];obtain⟨M,lo,rfl,a9⟩:=J 0 b1;have HO:=hI ho;have Y:=hI hq;have d6:=hI I;have r:=hI b4;have d5:=hI a8;have d7:=hI J;have e4:=hI b3;have d8:=hI b2;clear ho hq I b4 a8 J b3 b2;obtain⟨pr,K⟩:∃ pr,pr=zE ⟨y.pe,y.len,y.hei,y.cl,y.all,y.be⟩ (y.lgn:Int):=⟨_,rfl⟩;have d9:=hI K;have b:Below _ w ((w.alloc (.cells #[int i64 9,.string y.own,int i64 y.name,.slice (some (⟨M,lo,none⟩:_)) y.lgn d,int i64 y.pe,int i64 y.len,int i64 y.hei,int i64 y.cl,.bool y.all,int i64 y.be,int i64 y.unt,int i64 y.now] 47)).alloc (.cells #[int i64 0,int i64 0,int i64 0,.slice none 0 0] 41)):=zk (zk bZ _) _;have bO:=zd (Jb w (.cells #[int i64 9,.string y.own,int i64 y.name,.slice (some (⟨M,lo,none⟩:_)) y.lgn d,int i64 y.pe,int i64 y.len,int i64 y.hei,int i64 y.cl,.bool y.all,int i64 y.be,int i64 y.unt,int i64 y.now] 47)) (.cells #[int i64 0,int i64 0,int i64 0,.slice none 0 0] 41);have P:=zfT w (.cells #[int i64 9,.string y.own,int i64 y.name,.slice (some (⟨M,lo,none⟩:_)) y.lgn d,int i64 y.pe,int i64 y.len,int i64 y.hei,int i64 y.cl,.bool y.all,int i64 y.be,int i64 y.unt,int i64 y.now] 47) (.cells #[int i64 0,int i64 0,int i64 0,.slice none 0 0] 41);go_enter func93,ntmps93;go_wp2_with fail;generalize ((w.alloc _).alloc _)=W at b bO P ⊢;refine(Zy _ _ _ _ _ _ _ _ d4 (by unfold In;omega)).mono ?_
 rintro e V ⟨rfl,t⟩;rw[← K];clear K;replace b:=ze b t;replace bO:=zb bO t;replace P:=zb P t;clear t W;have o0:=za bO 0 _ rfl;have e9:=zM Y.out;have d3:M<w.heap.size:=Ja w _ a9;have i5:(0:Int)<(y.lgn:Int):=by omega
 have KS:Hid (∀ z,Below _ V z->z.cell? _=some (.slice i N l)/\z.cell? _=some (.slice f N j)/\z.cell? _=some (.slice o R q)/\z.cell? _=some (.slice _ _ d)/\_):=λz h=>⟨za (zb Y.out (ze b h)) 0 _ rfl,za (zb Y.out (ze b h)) 1 _ rfl,za (zb Y.out (ze b h)) 2 _ rfl,za (zb bO h) 3 _ rfl,((ze b h).cell (p:=⟨M,lo,_⟩) d3).trans a9⟩
 have KT:Hid (∀ z,Below _ V z->∀ c0 c1 c2 c3 O,O=(((z.setCell ⟨w.heap.size+1,0,none⟩ c0).setCell ⟨w.heap.size+1,1,none⟩ c1).setCell ⟨w.heap.size+1,2,none⟩ c2).setCell ⟨w.heap.size+1,3,none⟩ c3->O.cell? _=_/\O.cell? _=_/\O.cell? _=_/\O.cell? _=_/\O.cell? _=_):=λz h c0 c1 c2 c3 O e=>by
  subst e;obtain⟨a1,a2,a3,a4,a5⟩:=KS.out z h;have H:=zaU z (w.heap.size+1) c0 c1 c2 c3;exact⟨QV H a1 (by show _;dsimp only;omega),QV H a2 (by show _;dsimp only;omega),QV H a3 (by show _;dsimp only;omega),QV H a4 (by show _;dsimp only;omega),QV H a5 (by show _;dsimp only;omega)⟩
 have b7:Hid (∀ Z,Below _ V Z->Calls _ 170 _ Z λe w5=>(∃ F n G,e=.returned (.slice F n G)/\Hid (w5.ownsRow _ 203 5 (.slice F n G) (Qn _ _ _ x.bkn).length (qW (zeM (Qn _ _ _ x.bkn)) (Qn _ _ _ x.bkn).length)))/\Below _ V w5):=λZ hZ=>by
  have hh:=(HO.out.below (ze b hZ));obtain⟨q1,q2,q3,q4,q5,q6,_⟩:=c9.out;have e1:=zkW x i f o l j q k _ Z q3 (by rw[q4];exact hh.sa.at) (by rw[q5];exact hh.ld.at) (by rw[r.out];exact hh.bk.at) q6 (by rw[q4];exact q1) (by rw[q4];exact q2) (by rw[q4,q5])
  rw[q4,q5,r.out] at e1;refine e1.mono ?_;rintro e w5 ⟨⟨u,rfl,o1⟩,d2⟩;rw[r.out];obtain⟨F,G,rfl,_⟩:=zp o1;exact⟨⟨F,_,G,rfl,zu o1 (Jp b.size hZ.size)⟩,ze hZ d2⟩
 obtain⟨v0,v1,v2,v3⟩:=ce4 P;obtain⟨e0,e1,e2,e3⟩:=fe4 P;go_upto_region 6 with fail;go_region_held3 (λw'=>w'.cell? ⟨g,0,none⟩=some (.slice i N l)/\w'.cell? ⟨g,1,none⟩=some (.slice f N j)/\w'.cell? ⟨g,2,none⟩=some (.slice o R q)/\w'.cell? ⟨w.heap.size,3,none⟩=some (.slice (some ⟨M,lo,none⟩) y.lgn d)/\w'.cell? ⟨M,lo,none⟩=some (int i64 (y.lg 0)))
  (first|(with_reducible exact KT.out _ m.out _ _ _ _ _ rfl)|(refine KS.out _ ?_;repeat(first|exact m.out|exact bZ|refine Jh ?_|refine zk ?_ _)))
  (first
   | (go_simp;go_at_call 170;(with_reducible refine Jm (b7.out _ ?_) ?_);(focus(repeat(first | exact bZ | refine Jh ?_ | refine zk ?_ _)));rintro e u2 ⟨⟨F,n,G,rfl,X⟩,a7⟩;have m:=hI a7;have c:=zb P a7;have f1:=za c 0 _ rfl;have e5:=zg c 0;have f2:=za c 1 _ rfl;have e6:=zg c 1;have f4:=za c 2 _ rfl;have e7:=zg c 2;have f5:=za c 3 _ rfl;have e8:=zg c 3;dsimp only))
 obtain⟨U,a6,S,bF⟩:=zbC (T:=(λ_=>False)) (zx.of_below (ze b m.out)) (HO.out.below (ze b m.out)) (zb Y.out (ze b m.out)) c (by omega) (int i64 0) (int i64 0) (int i64 0) (.slice F n G) rfl
 have d0:Hid _:=(zaU u2 _ (int i64 0) (int i64 0) (int i64 0) (.slice F n G)).own X.out (zQ X.out c (by decide))
 have Q:=hI U;have b9:=hI a6;have b8:=hI S;clear U a6 S;go_wp2;obtain⟨x0,x1,x2,x3⟩:=ce4 bF;refine Jj (v:=.agg #[int i64 0,int i64 0,int i64 0,.slice F n G]) (by simp[results,results93,go_sem,x0,x1,x2,x3]) rfl ?_
 have hR:=r.out;subst hR;exact⟨_,_,_,_,rfl,d0.out,Q.out,b9.out,b8.out⟩
end Go.Proofs.YtmdnjgihooflfaaGreatDoor
