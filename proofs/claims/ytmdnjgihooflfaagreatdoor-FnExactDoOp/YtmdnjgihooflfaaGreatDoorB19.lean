import Derived.Test.YtmdnjgihooflfaaGreatDoorB16
import Derived.Test.YtmdnjgihooflfaaGreatDoorB15
import Derived.Test.YtmdnjgihooflfaaGreatDoorB14
import Derived.Test.YtmdnjgihooflfaaGreatDoorB13
import Derived.Test.YtmdnjgihooflfaaGreatDoorB17
namespace Go.Proofs.YtmdnjgihooflfaaGreatDoor
open Go.RowKit
open Go.Value (int)
open Go.IntKind (i64)
open _root_.Go.Proofs.Tryz
set_option maxHeartbeats 64000000
set_option maxRecDepth 1000000
section
structure PV (w u:World)(k g:Nat)(l:zw)(c a b:Option Addr)(f d e:Nat)(h i j:Option Value):Prop where
 o:Below w w u
 rl:w.heap.size<=g
 src:zw.Is w [(c,l.r,f),(a,l.m,d),(b,l.t,e)] l
 sh:zw.Short l 1048576
 box:u.heap[k]?=some (.cells #[(c,l.r,f),(a,l.m,d),(b,l.t,e)] 145 (0,0))
 j3:u.heap[g]?=some (.cells #[True,True,True] 145 (0,0))
 h1:∀ v,h=some v->u.ownsRow w 220 4 v l.r (zH l.K l.r)
 h2:∀ v,i=some v->u.ownsRow w 228 4 v l.m (zF l.I l.m)
 h3:∀ v,j=some v->u.ownsRow w 234 2 v l.t (zL l.L l.t)
section
variable {w u : World} {xb rb : Nat} {l : zw} {ast aro ase : Option Addr} {cst cro cse : Nat} {p1 p2 p3 : Option Value}
theorem PV.s (h:PV w u xb rb l ast aro ase cst cro cse p1 p2 p3):u.cell? (xb,0)=some (ast,l.r,cst)/\u.cell? (xb,1)=some (aro,l.m,cro)/\u.cell? (xb,2)=some (ase,l.t,cse):=⟨bC h.box 0,bC h.box 1,bC h.box 2⟩
theorem PV.j0 {b:World}(h:PV w u xb rb l ast aro ase cst cro cse p1 p2 p3)(a:Below u u b):PV w b xb rb l ast aro ase cst cro cse p1 p2 p3:=⟨zb h.o a,h.rl,h.src,h.sh,za h.box a,za h.j3 a,λv e=>zm a (h.h1 v e),λv e=>zm a (h.h2 v e),λv e=>zm a (h.h3 v e)⟩
theorem PV.c1 (h:PV w u xb rb l ast aro ase cst cro cse none p2 p3):Calls prog 209 #[.slice ast l.r cst] u λe i=>∃ b c,e=.returned (.slice b l.r c)/\Hid (PV w i xb rb l ast aro ase cst cro cse (some (.slice b l.r c)) p2 p3):=by
 obtain⟨_,_,_,_,_,_,a,d,f,m,o,n,p⟩:=h.src;simp only[List.cons.injEq,Value.slice.injEq,true_and,and_true] at a;obtain⟨⟨rfl,rfl⟩,⟨rfl,rfl⟩,rfl,rfl⟩:=a;refine(bg ast _ cst _ u h.sh.1 (Qg _ _) (Ai _ _) (AA (d.j0 h.o)) f.2.2).mono ?_;rintro e i ⟨⟨v,rfl,g⟩,j⟩;obtain⟨b,c,rfl,_⟩:=zn g;have k:=h.j0 j;exact⟨b,c,rfl,k.o,k.rl,k.src,k.sh,k.box,k.j3,λv' e=>(by cases e;exact zo g h.o.size),k.h2,k.h3⟩
theorem PV.c2 (h:PV w u xb rb l ast aro ase cst cro cse p1 none p3):Calls prog 210 #[.slice aro l.m cro] u λe i=>∃ b c,e=.returned (.slice b l.m c)/\Hid (PV w i xb rb l ast aro ase cst cro cse p1 (some (.slice b l.m c)) p3):=by
 obtain⟨_,_,_,_,_,_,a,n,p,d,f,m,o⟩:=h.src;simp only[List.cons.injEq,Value.slice.injEq,true_and,and_true] at a;obtain⟨⟨rfl,rfl⟩,⟨rfl,rfl⟩,rfl,rfl⟩:=a;refine(bh aro _ cro _ u h.sh.2.1 (qW _ _) (Qp _ _) (QN (d.j0 h.o)) f.2.2).mono ?_;rintro e i ⟨⟨v,rfl,g⟩,j⟩;obtain⟨b,c,rfl,_⟩:=zn g;have k:=h.j0 j;exact⟨b,c,rfl,k.o,k.rl,k.src,k.sh,k.box,k.j3,k.h1,λv' e=>(by cases e;exact zo g h.o.size),k.h3⟩
theorem PV.c3 (h:PV w u xb rb l ast aro ase cst cro cse p1 p2 none):Calls prog 211 #[.slice ase l.t cse] u λe i=>∃ b c,e=.returned (.slice b l.t c)/\Hid (PV w i xb rb l ast aro ase cst cro cse p1 p2 (some (.slice b l.t c))):=by
 obtain⟨_,_,_,_,_,_,a,n,p,m,o,d,f⟩:=h.src;simp only[List.cons.injEq,Value.slice.injEq,true_and,and_true] at a;obtain⟨⟨rfl,rfl⟩,⟨rfl,rfl⟩,rfl,rfl⟩:=a;refine(bi ase _ cse _ u h.sh.2.2 (Zv _ _) (AG _ _) (Bj (d.j0 h.o)) f.2.2).mono ?_;rintro e i ⟨⟨v,rfl,g⟩,j⟩;obtain⟨b,c,rfl,_⟩:=zn g;have k:=h.j0 j;exact⟨b,c,rfl,k.o,k.rl,k.src,k.sh,k.box,k.j3,k.h1,k.h2,λv' e=>(by cases e;exact zo g h.o.size)⟩
structure CLe (w u:World)(g h:Nat)(l:zw)(c a b:Option Addr)(f d e:Nat)(v1 v2 v3:Value):Prop where
 o:Below w w u
 s:u.cell? (g,0)=some (c,l.r,f)/\u.cell? (g,1)=some (a,l.m,d)/\u.cell? (g,2)=some (b,l.t,e)
 j3:u.heap[h]?=some (.cells #[v1,v2,v3] 145 (0,0))
 h1:u.ownsRow w 220 4 v1 l.r (zH l.K l.r)
 h2:u.ownsRow w 228 4 v2 l.m (zF l.I l.m)
 h3:u.ownsRow w 234 2 v3 l.t (zL l.L l.t)
theorem PV.fin {v1 v2 v3:Value}(h:PV w u xb rb l ast aro ase cst cro cse (some v1) (some v2) (some v3))(i:xb≠rb):CLe w (((u.setCell (rb,0) v1).setCell (rb,1) v2).setCell (rb,2) v3) xb rb l ast aro ase cst cro cse v1 v2 v3:=by
 have d:zl u (((u.setCell _ v1).setCell _ v2).setCell _ v3) _:=(((zl.refl u (λb=>b=rb)).set (a:=(rb,0)) rfl _).set (a:=(rb,1)) rfl _).set (a:=(rb,2)) rfl _
 have f:=d.blk h.box i;exact⟨((h.o.setCell h.rl _).setCell h.rl _).setCell h.rl _,⟨bC f 0,bC f 1,bC f 2⟩,by simpa using zk (zk (zk h.j3 0 v1) 1 v2) 2 v3,d.j1 (h.h1 _ rfl) (λg c e=>zQ (h.h1 _ rfl) h.j3 dC g c e),d.j1 (h.h2 _ rfl) (λg c e=>zQ (h.h2 _ rfl) h.j3 dC g c e),d.j1 (h.h3 _ rfl) (λg c e=>zQ (h.h3 _ rfl) h.j3 dC g c e)⟩
end
theorem Ox (l:zw)(f c d:Option Addr)(j g i:Nat)(w:World)(z:zw.Short l 1048576)(h:zw.Is w [(f,l.r,j),(c,l.m,g),(d,l.t,i)] l) :
  Calls prog 115 #[.agg #[.slice f l.r j,.slice c l.m g,.slice d l.t i]] w λe w'=>(∃ n q o r p s,e=.returned (.agg #[.slice n l.r q,.slice o l.m r,.slice p l.t s])/\w'.ownsRow w 220 4 (.slice n l.r q) l.r (zH l.K l.r)/\w'.ownsRow w 228 4 (.slice o l.m r) l.m (zF l.I l.m)/\w'.ownsRow w 234 2 (.slice p l.t s) l.t (zL l.L l.t))/\Below w w w':=by
 have a:Hid (PV w _ _ (w.heap.size+1) l f c d j g i none none none) :=
  ⟨(zd (zd bZ _) _).drew,by omega,h,z,zK (zg (Jb w _) _),zK (by simpa using Jb (w.alloc _) _),λ_ e=>(by cases e),λ_ e=>(by cases e),λ_ e=>(by cases e)⟩
 have t:w.heap.size≠w.heap.size+1:=oM;go_enter func115,ntmps115;go_upto_region 1 with fail;refine qt 11 11 (λu=>u.cell? _=_/\u.cell? _=_/\u.cell? _=_) rfl kR a.s (λm=>?_)
 simp only[List.replicate_succ,List.replicate_zero];generalize ((w.alloc _).alloc _).drew=u0 at a m ⊢
 iterate 2 refine QD 0 ?_
 iterate 2 refine QD 3 ?_
 iterate 2 refine QD 6 ?_
 refine Ay 2 λK b=>?_
 focus
  go_simp;go_at_call 209;refine Jm (a.c1) ?_;rintro e u1 ⟨n,q,rfl,a⟩;dsimp only;refine b _ _ a.s (λm=>?_)
  clear b K;refine Ay 5 λK b=>?_
  focus
   go_simp;go_at_call 210;refine Jm (a.c2) ?_;rintro e u2 ⟨o,r,rfl,a⟩;dsimp only;refine b _ _ a.s (λm=>?_)
   clear b K;refine Ay 8 λK b=>?_
   focus
    go_simp;go_at_call 211;refine Jm (a.c3) ?_;rintro e u3 ⟨p,s,rfl,a⟩;dsimp only;refine b _ _ a.s (λm=>?_)
    clear b K
 all_goals
  refine QD 9 ?_;obtain⟨A,B,C⟩:=ZE a.j3;obtain⟨v,x,y⟩:=FM a.j3;refine Ay 10 λK b=>?_
  go_simp;have k:=hI (a.fin t);refine b _ _ k.s (λm=>?_)
  clear b K A B C v x y;refine qh kR ?_ _;go_wp2;obtain⟨D,E,F⟩:=ZE k.j3;exact Jj (by simp[results,results115,go_sem,D,E,F]) rfl ⟨⟨n,q,o,r,p,s,rfl,k.h1,k.h2,k.h3⟩,k.o⟩
structure GO (w:World)(base g k N:Nat)(S:Nat->zw)(A B D:Nat->Value):Prop where
 row:w.ownsRow base 145 3 (some (g,0),N,N) N ((List.range (N*3)).map (qd 3 (QM k (MV A B D) [True,True,True])))
 K:∀ i,i<k->w.ownsRow base 220 4 (A i) (S i).r (zH (S i).K (S i).r)
 I:∀ i,i<k->w.ownsRow base 228 4 (B i) (S i).m (zF (S i).I (S i).m)
 L:∀ i,i<k->w.ownsRow base 234 2 (D i) (S i).t (zL (S i).L (S i).t)
 Q:Kb k A/\Kb k B/\Kb k D
theorem GO.j0 {w w':World}{base g k N:Nat}{S:Nat->zw}{A B D:Nat->Value}(h:GO w base g k N S A B D)(b:Below w w w'):GO w' base g k N S A B D:=⟨zm b h.row,λi a=>zm b (h.K i a),λi a=>zm b (h.I i a),λi a=>zm b (h.L i a),h.Q⟩
theorem GO.j1 {w:World}{base g N:Nat}{S:Nat->zw}{A B D:Nat->Value}(h:GO w base g N N S A B D):qw w base (some (g,0),N,N) N S A B D :=
 ⟨Bs h.row dC (λi a=>qi _ _ a),h.K,h.I,h.L,h.Q⟩
theorem PW {w:World}{base e g c N t:Nat}{C:Nat->List Value}(v1 v2 v3:Value)(h:w.ownsRow base e 3 (some (g,0),N,c) N ((List.range (N*3)).map (qd 3 C)))(d:(C t).length=3) :
  (((w.setCell (g,t*3) v1).setCell (g,t*3+1) v2).setCell (g,t*3+2) v3).ownsRow base e 3 (some (g,0),N,c) N ((List.range (N*3)).map (qd 3 (λi=>if i=t then [v1,v2,v3] else C i))):=by
 have f:=Zo h t 0 v1 d dC;rw[Nat.add_zero] at f;have h1:=Zo f t 1 v2 (by simp only[qV,List.length_set];exact d) dC
 have h2:=Zo h1 t 2 v3 (by simp only[qV,List.length_set];exact d) dC
 refine Bs h2 dC (λi hi=>?_)
 by_cases e:i=t
 ·subst e
  rw[Jf rfl];simp only[qV]
  match hC:C i,d with
  |[a,b,c],_=>rfl
 ·rw[Je e]
  simp only[Ki _ _ _ e]
theorem GO.step {w d:World}{base g k N:Nat}{S:Nat->zw}{A B D:Nat->Value}{v1 v2 v3:Value}(h:GO w base g k N S A B D)(p:Below w w d)(hk:k<N)(f:base<=w.heap.size)
  (h1:d.ownsRow w 220 4 v1 (S k).r (zH (S k).K (S k).r)) (h2:d.ownsRow w 228 4 v2 (S k).m (zF (S k).I (S k).m)) (h3:d.ownsRow w 234 2 v3 (S k).t (zL (S k).L (S k).t)) :
  GO (((d.setCell (g,k*3) v1).setCell (g,k*3+1) v2).setCell (g,k*3+2) v3) base g (k+1) N S (AP A k v1) (AP B k v2) (AP D k v3):=by
 have hr:=h.j0 p;have j:zl d (((d.setCell _ v1).setCell _ v2).setCell _ v3) _:=(((zl.refl d (λb=>b=g)).set (a:=(g,k*3)) rfl _).set (a:=(g,k*3+1)) rfl _).set (a:=(g,k*3+2)) rfl _
 have far:∀ {t sz n:Nat} {v} {xs},_->145≠t->(((d.setCell _ v1).setCell _ v2).setCell _ v3).ownsRow base t sz v n xs:=λl r=>j.j1 l (λq m o=>zE hr.row l r q (by rw[show _ from o];rfl) m)
 refine⟨Bs (PW v1 v2 v3 hr.row (by rw[BU _ _ oM];rfl)) dC (λi c=>?_),λi c=>?_,λi c=>?_,λi c=>?_,h.Q.1.k3 (λi c b e=>((h.K i c).lt b e).2) (λb e=>(h1.lt b e).1),h.Q.2.1.k3 (λi c b e=>((h.I i c).lt b e).2) (λb e=>(h2.lt b e).1),h.Q.2.2.k3 (λi c b e=>((h.L i c).lt b e).2) (λb e=>(h3.lt b e).1)⟩
 ·by_cases e:i=k
  ·subst e;rw[Jf rfl,qi _ _ oM];unfold MV;rw[qg,qg,qg]
  ·rw[Je e]
   by_cases h:i<k
   ·rw[qi _ _ h,qi _ _ oM];unfold MV;rw[zV _ _ _ _ e,zV _ _ _ _ e,zV _ _ _ _ e]
   ·rw[BU _ _ h,BU _ _ oM]
 ·by_cases e:i=k
  ·subst e;rw[qg];exact far (zo h1 f) dC
  ·rw[zV _ _ _ _ e];exact far (hr.K i oM) dC
 ·by_cases e:i=k
  ·subst e;rw[qg];exact far (zo h2 f) dC
  ·rw[zV _ _ _ _ e];exact far (hr.I i oM) dC
 ·by_cases e:i=k
  ·subst e;rw[qg];exact far (zo h3 f) dC
  ·rw[zV _ _ _ _ e];exact far (hr.L i oM) dC
theorem Mu (X:Option Addr)(N c:Nat)(S:Nat->zw)(w:World)(hN:N<=1048576)(Z:Zy N S 1048576)(hz:ZA w X N S) :
  Calls prog 114 #[.slice X N c,.func (.func 115) #[] #[]] w λe w'=>(∃ g A B D,e=.returned (.slice (some ⟨g,0,none⟩) N N)/\qw w' w.heap.size (.slice (some ⟨g,0,none⟩) N N) N S A B D)/\Below w w w':=by
 obtain⟨i0,E,T,U,V⟩:=info_parts Tryz.infoLoadO;have HS:=hI Z;have HX:=hI hz;clear Z hz;go_enter func114,ntmps114;go_wp2_with (first|(at_make;refine wpList_make_full _ rfl _ _ 35 rfl _ 145 i0 _ 3 underlying35 E T U _ _ _ _ N rfl rfl rfl rfl (by rw[V];omega) (by unfold maxLen;omega) (Jr _) ?_;intro w1 t f))
 go_loopw [6,7,13] (λ_ _ i wr=>∃ (k:Nat) (A B D:_),k<=N/\i=int i64 k/\GO wr w.heap.size w.heap.size k N S A B D/\Below w w wr) (λ_ _ i _=>N - (intOf i).toNat)
 case atStart=>exact⟨0,λ_=>.slice none 0 0,λ_=>.slice none 0 0,λ_=>.slice none 0 0,Jq _,rfl,⟨ZM ((ZW t).congr (λj hj=>(Ft (z:=#[_,_,_]) (sz:=3) rfl N j hj).trans (by unfold qd;rw[BU _ _ oM]))) (Jr _) (by unfold maxLen;omega),λi E=>by omega,λi E=>by omega,λi E=>by omega,λi j E=>by omega,λi j E=>by omega,λi j E=>by omega⟩,bZ.grown f (Jr _) sM⟩
 case round =>
  obtain⟨k,A,B,D,hk,rfl,u,a⟩:=hrel;clear t f
  by_cases hlt:k<N
  ·obtain⟨C,Y,hI⟩:=HX
   obtain⟨b,off,rfl,G⟩:=Y k hlt;obtain⟨m,q,h,n,l,o,O,J,M,H,K,I,L⟩:=hI k hlt;have s:b<w.heap.size:=Ja w _ (G 0 dC);have i1:(k:Int)<(N:Int):=oM;have F:Hid (zw.Is w _ _):=⟨m,q,h,n,l,o,rfl,J,M,H,K,I,L⟩;have c0:wr.cell? _=some (.slice m _ q):=(a.cell (p:=⟨b,off+_,_⟩) s).trans (rC O (G 0 dC));have c1:wr.cell? _=some (.slice h _ n):=(a.cell s).trans (rC O (G 1 dC));have c2:wr.cell? _=some (.slice l _ o):=(a.cell s).trans (rC O (G 2 dC));have r:=zd a (.cells #[(m,(S k).r,q),(h,(S k).m,n),(l,(S k).t,o)] 145);have y:=u.j0 (zd (Ji _ wr) (.cells #[(m,(S k).r,q),(h,(S k).m,n),(l,(S k).t,o)] 145));clear Y hI G O J M H K I L u;go_wp2_with fail;generalize wr.alloc _=W at r y ⊢;clear c0 c1 c2;refine(Ox _ m h l q n o W (HS k hlt) (F.j0 r)).mono ?_;rintro e P ⟨⟨a1,d1,a2,d2,a3,d3,rfl,h1,h2,h3⟩,x⟩;have R:=hI (y.step x hlt r.size h1 h2 h3);have Q:Hid (Below _ w (((P.setCell _ (a1,(S k).r,d1)).setCell _ (a2,(S k).m,d2)).setCell _ (a3,(S k).t,d3))):=(((zb r x).setCell (p:=(w.heap.size,k*3)) (Jr _) _).setCell (p:=(w.heap.size,k*3+1)) (Jr _) _).setCell (p:=(w.heap.size,k*3+2)) (Jr _) _;have d:=y.j0 x;obtain⟨u0,o0⟩:∃ v,P.cell? ⟨_,_+0,_⟩=some v:=⟨_,zT d.row hlt dC⟩;obtain⟨u1,o1⟩:∃ v,P.cell? ⟨_,_+1,_⟩=some v:=⟨_,zT d.row hlt dC⟩;obtain⟨u2,o2⟩:∃ v,P.cell? ⟨_,_+2,_⟩=some v:=⟨_,zT d.row hlt dC⟩;have f0:=d.row.frozenAt (k*3);have f1:=d.row.frozenAt (k*3+1);have f2:=d.row.frozenAt (k*3+2);rw[Nat.add_zero] at o0;clear y d h1 h2 h3 r x a F;go_wp2;go_roundw
   case rel=>exact⟨_,_,_,_,by omega,by go_num,R,Q⟩
   case measure=>simp[intOf];omega
  ·obtain rfl:k=N:=by omega
   have HO:=hI u.j1;go_wp2;go_ret;exact⟨⟨_,A,B,D,rfl,HO⟩,a⟩
end
section
structure PX (w u:World)(m h:Nat)(x:zY)(c b a:Option Addr)(f e d:Nat)(j k l:Option Nat):Prop where
 o:Below w w u
 rl:w.heap.size<=h
 src:zY.Is w [(c,x.i,f),(b,x.l,e),(a,x.g,d)] x
 sh:zY.Short x 1048576
 J:∀ i,i<x.g->0<(x.u i).c
 box:u.heap[m]?=some (.cells #[(c,x.i,f),(b,x.l,e),(a,x.g,d)] 38 (0,0))
 j3:u.heap[h]?=some (.cells #[True,True,True] 38 (0,0))
 h1:∀ g,j=some g->∃ L C,qR u w.heap.size (some (g,0),x.i,x.i) x.i x.G L C
 h2:∀ g,k=some g->∃ A B D,qw u w.heap.size (some (g,0),x.l,x.l) x.l x.F A B D
 h3:∀ g,l=some g->∃ E,Zq u w.heap.size (some (g,0),x.g,x.g) x.g x.u E
section
variable {w u : World} {xb rb : Nat} {x : zY} {asa ald abk : Option Addr} {csa cld cbk : Nat} {p1 p2 p3 : Option Nat}
theorem PX.s (h:PX w u xb rb x asa ald abk csa cld cbk p1 p2 p3):u.cell? (xb,0)=some (asa,x.i,csa)/\u.cell? (xb,1)=some (ald,x.l,cld)/\u.cell? (xb,2)=some (abk,x.g,cbk):=⟨bC h.box 0,bC h.box 1,bC h.box 2⟩
theorem PX.j0 {b:World}(h:PX w u xb rb x asa ald abk csa cld cbk p1 p2 p3)(a:Below u u b):PX w b xb rb x asa ald abk csa cld cbk p1 p2 p3:=⟨zb h.o a,h.rl,h.src,h.sh,h.J,za h.box a,za h.j3 a,λg e=>(by obtain⟨L,C,k⟩:=h.h1 g e;exact⟨L,C,k.j0 a⟩),λg e=>(by obtain⟨A,B,D,k⟩:=h.h2 g e;exact⟨A,B,D,k.j0 a⟩),λg e=>(by obtain⟨E,k⟩:=h.h3 g e;exact⟨E,k.j0 a⟩)⟩
theorem PX.c1 (h:PX w u xb rb x asa ald abk csa cld cbk none p2 p3):Calls prog 112 #[(asa,x.i,csa),.func (.func 113) #[] #[]] u λe c=>∃ g,e=.returned (some (g,0),x.i,x.i)/\Hid (PX w c xb rb x asa ald abk csa cld cbk (some g) p2 p3):=by
 obtain⟨_,_,_,_,_,_,a,b,_,i,_,f,_⟩:=h.src;simp only[List.cons.injEq,Value.slice.injEq,true_and,and_true] at a;obtain⟨⟨rfl,rfl⟩,⟨rfl,rfl⟩,rfl,rfl⟩:=a;refine(Oy asa _ csa _ u h.sh.1.1 h.sh.1.2 (b.j0 h.o)).mono ?_;rintro e c ⟨⟨g,L,C,rfl,j⟩,d⟩;have k:=h.j0 d;exact⟨g,rfl,k.o,k.rl,k.src,k.sh,k.J,k.box,k.j3,λg' e=>(by cases e;exact⟨L,C,j.base h.o.size⟩),k.h2,k.h3⟩
theorem PX.c2 (h:PX w u xb rb x asa ald abk csa cld cbk p1 none p3):Calls prog 114 #[(ald,x.l,cld),.func (.func 115) #[] #[]] u λe c=>∃ g,e=.returned (some (g,0),x.l,x.l)/\Hid (PX w c xb rb x asa ald abk csa cld cbk p1 (some g) p3):=by
 obtain⟨_,_,_,_,_,_,a,j,_,b,_,f,_⟩:=h.src;simp only[List.cons.injEq,Value.slice.injEq,true_and,and_true] at a;obtain⟨⟨rfl,rfl⟩,⟨rfl,rfl⟩,rfl,rfl⟩:=a;refine(Mu ald _ cld _ u h.sh.2.1.1 h.sh.2.1.2 (b.j0 h.o)).mono ?_;rintro e c ⟨⟨g,A,B,D,rfl,i⟩,d⟩;have k:=h.j0 d;exact⟨g,rfl,k.o,k.rl,k.src,k.sh,k.J,k.box,k.j3,k.h1,λg' e=>(by cases e;exact⟨A,B,D,i.lower h.o.size⟩),k.h3⟩
theorem PX.c3 (h:PX w u xb rb x asa ald abk csa cld cbk p1 p2 none):Calls prog 116 #[(abk,x.g,cbk),.func (.func 117) #[] #[]] u λe d=>∃ g,e=.returned (some (g,0),x.g,x.g)/\Hid (PX w d xb rb x asa ald abk csa cld cbk p1 p2 (some g)):=by
 obtain⟨_,_,_,_,_,_,a,m,_,j,_,b,_⟩:=h.src;simp only[List.cons.injEq,Value.slice.injEq,true_and,and_true] at a;obtain⟨⟨rfl,rfl⟩,⟨rfl,rfl⟩,rfl,rfl⟩:=a;refine(LX abk _ cbk _ u h.sh.2.2.1 (λi c=>⟨h.J i c,(h.sh.2.2.2 i c).2⟩) (b.j0 h.o)).mono ?_
 rintro e d ⟨⟨g,E,rfl,l⟩,f⟩;have k:=h.j0 f;exact⟨g,rfl,k.o,k.rl,k.src,k.sh,k.J,k.box,k.j3,k.h1,k.h2,λg' e=>(by cases e;exact⟨E,l.lower h.o.size⟩)⟩
structure COe (w u:World)(g k:Nat)(x:zY)(c b a:Option Addr)(f e d h i j:Nat):Prop where
 o:Below w w u
 s:u.cell? (g,0)=some (c,x.i,f)/\u.cell? (g,1)=some (b,x.l,e)/\u.cell? (g,2)=some (a,x.g,d)
 j3:u.heap[k]?=some (.cells #[(some (h,0),x.i,x.i),(some (i,0),x.l,x.l),(some (j,0),x.g,x.g)] 38 (0,0))
 j1:∃ L C A B D E,zz u w.heap.size (some (h,0),x.i,x.i) (some (i,0),x.l,x.l) (some (j,0),x.g,x.g) x.i x.l x.g x L C A B D E
theorem PX.fin {c d e:Nat}(h:PX w u xb rb x asa ald abk csa cld cbk (some c) (some d) (some e))(g:xb≠rb):COe w (((u.setCell (rb,0) (some (c,0),x.i,x.i)).setCell (rb,1) (some (d,0),x.l,x.l)).setCell (rb,2) (some (e,0),x.g,x.g)) xb rb x asa ald abk csa cld cbk c d e:=by
 have i:zl u (((u.setCell _ (some (c,0),x.i,x.i)).setCell _ (some (d,0),x.l,x.l)).setCell _ (some (e,0),x.g,x.g)) _:=(((zl.refl u (λb=>b=rb)).set (a:=(rb,0)) rfl _).set (a:=(rb,1)) rfl _).set (a:=(rb,2)) rfl _
 have f:=i.blk h.box g;obtain⟨L,C,j⟩:=h.h1 _ rfl;obtain⟨A,B,D,k⟩:=h.h2 _ rfl;obtain⟨E,l⟩:=h.h3 _ rfl;exact⟨((h.o.setCell h.rl _).setCell h.rl _).setCell h.rl _,⟨bC f 0,bC f 1,bC f 2⟩,by simpa using zk (zk (zk h.j3 0 _) 1 _) 2 _,L,C,A,B,D,E,zz.box ⟨j,k,l⟩ i h.j3 dC⟩
end
theorem Fq (x:zY)(f d c:Option Addr)(k j g:Nat)(w:World)(z:zY.Short x 1048576)(v:∀ i,i<x.g->0<(x.u i).c)(h:zY.Is w [(f,x.i,k),(d,x.l,j),(c,x.g,g)] x) :
  Calls prog 54 #[.agg #[.slice f x.i k,.slice d x.l j,.slice c x.g g]] w λe w'=>(∃ n o p L C A B D E,e=.returned (.agg #[.slice (some ⟨n,0,none⟩) x.i x.i,.slice (some ⟨o,0,none⟩) x.l x.l,.slice (some ⟨p,0,none⟩) x.g x.g])/\zz w' w.heap.size (.slice (some ⟨n,0,none⟩) x.i x.i) (.slice (some ⟨o,0,none⟩) x.l x.l) (.slice (some ⟨p,0,none⟩) x.g x.g) x.i x.l x.g x L C A B D E)/\Below w w w':=by
 have a:Hid (PX w _ _ (w.heap.size+1) x f d c k j g none none none) :=
  ⟨(zd (zd bZ _) _).drew,by omega,h,z,v,zK (zg (Jb w _) _),zK (by simpa using Jb (w.alloc _) _),λ_ e=>(by cases e),λ_ e=>(by cases e),λ_ e=>(by cases e)⟩
 have q:w.heap.size≠w.heap.size+1:=oM;go_enter func54,ntmps54;go_upto_region 1 with fail;refine qt 11 11 (λu=>u.cell? _=_/\u.cell? _=_/\u.cell? _=_) rfl kR a.s (λl=>?_)
 simp only[List.replicate_succ,List.replicate_zero];generalize ((w.alloc _).alloc _).drew=u0 at a l ⊢;refine QD 0 ?_;refine QD 1 ?_;refine QD 3 ?_;refine QD 4 ?_;refine QD 6 ?_;refine QD 7 ?_;refine Ay 2 λK b=>?_
 focus
  go_simp;go_at_call 112;refine Jm (a.c1) ?_;rintro e u1 ⟨n,rfl,a⟩;dsimp only;refine b.out _ _ a.s (λl=>?_)
  clear b K;refine Ay 5 λK b=>?_
  focus
   go_simp;go_at_call 114;refine Jm (a.c2) ?_;rintro e u2 ⟨o,rfl,a⟩;dsimp only;refine b.out _ _ a.s (λl=>?_)
   clear b K;refine Ay 8 λK b=>?_
   focus
    go_simp;go_at_call 116;refine Jm (a.c3) ?_;rintro e u3 ⟨p,rfl,a⟩;dsimp only;refine b.out _ _ a.s (λl=>?_)
    clear b K
 all_goals
  refine QD 9 ?_;obtain⟨F,G,H⟩:=ZE a.j3;obtain⟨r,s,t⟩:=FM a.j3;refine Ay 10 λK b=>?_
  go_simp;have m:=hI (a.fin q);refine b.out _ _ m.s (λl=>?_)
  clear b K F G H r s t;refine qh kR ?_ _;go_wp2;obtain⟨I,J,M⟩:=ZE m.j3;obtain⟨L,C,A,B,D,E,y⟩:=m.j1;exact Jj (by simp[results,results54,go_sem,I,J,M]) rfl ⟨⟨n,o,p,L,C,A,B,D,E,rfl,y⟩,m.o⟩
end
theorem lk (g base N R l j q d:Nat)(i f o s:Option Addr)(d1:Int)(y:qD)(x:zY)(L C A B D E:Nat->Value)(w:World)(hq:w.heap[g]?=some (.cells #[(i,N,l),(f,N,j),(o,R,q)] 38 (0,0)))(ho:zz w base (i,N,l) (f,N,j) (o,R,q) N N R x L C A B D E)(b4:x.g=R)(a8:base<=w.heap.size)(I:y.d=9)(d4:In y.v 0 20)(f0:y.c<=3)(J:zS w s y.c y.J)(b3:qm s y.c d)(b2:0<y.c->∀ a,s=some a->a.block<base)(k:Nat)(b1:0<y.c)(H:zX x.G (y.J 0) N=k)(b0:k<N)(hs:zY.Short x 1048576)(b6:x.i=N)(b5:x.l=N)(a0:x.g<=30) :
  Calls prog 93 #[.pointer (some (g,0)),d1,.agg (y,s,d)] w λe w'=>Ct g base N l j i f (λ_=>False) x 0 0 0 (λz v=>z.ownsRow w 203 5 v (ZU (x.F k) x.u (y.J 0) x.g).length (Zh (BS (ZU (x.F k) x.u (y.J 0) x.g)) (ZU (x.F k) x.u (y.J 0) x.g).length)) L C A B D w e w':=by
 have c9:Hid (_/\_/\_/\_/\_/\_/\_):=⟨H,b0,hs,b6,b5,a0,b1⟩;clear H b0 hs b6 b5 a0;rw[I];obtain⟨M,lo,rfl,a9⟩:=J 0 b1;have HO:=hI ho;have Y:=hI hq;have d6:=hI I;have r:=hI b4;have d5:=hI a8;have d7:=hI J;have e4:=hI b3;have d8:=hI b2;clear ho hq I b4 a8 J b3 b2;obtain⟨pr,K⟩:=nM (zP ⟨y.v,y.f,y.j,y.w,y.h,y.x⟩ (y.c:Int));have d9:=hI K;have b:Below _ w ((w.alloc (.cells #[int i64 9,y.j1,y.k,(some ((M,lo):_),y.c,d),y.v,y.f,y.j,y.w,y.h,y.x,y.y,y.D] 47)).alloc (.cells #[(),(),(),True] 41)):=zd (zd bZ _) _;have bO:=zg (Jb w (.cells #[int i64 9,y.j1,y.k,(some ((M,lo):_),y.c,d),y.v,y.f,y.j,y.w,y.h,y.x,y.y,y.D] 47)) (.cells #[(),(),(),True] 41);have P:=EB w (.cells #[int i64 9,y.j1,y.k,(some ((M,lo):_),y.c,d),y.v,y.f,y.j,y.w,y.h,y.x,y.y,y.D] 47) (.cells #[(),(),(),True] 41);go_enter func93,ntmps93;go_wp2_with fail;generalize ((w.alloc _).alloc _)=W at b bO P ⊢;refine(Z6 _ _ _ _ _ _ _ _ d4 (by unfold In;omega)).mono ?_
 rintro e V ⟨rfl,t⟩;rw[← K];clear K;replace b:=zb b t;replace bO:=za bO t;replace P:=za P t;clear t W;have o0:=bC bO 0;have e9:=zD Y.out;have d3:M<w.heap.size:=Ja w _ a9;have i5:(0:Int)<(y.c:Int):=oM;have KS:Hid (∀ z,Below _ V z->z.cell? _=some (i,N,l)/\z.cell? _=some (f,N,j)/\z.cell? _=some (o,R,q)/\z.cell? _=some (.slice _ _ d)/\_):=λz h=>⟨zf (za Y.out (zb b h)) 0 _ rfl,zf (za Y.out (zb b h)) 1 _ rfl,zf (za Y.out (zb b h)) 2 _ rfl,zf (za bO h) 3 _ rfl,((zb b h).cell (p:=⟨M,lo,_⟩) d3).trans a9⟩
 have KT:Hid (∀ z,Below _ V z->∀ c0 c1 c2 c3 O,O=(((z.setCell (w.heap.size+1,0) c0).setCell (w.heap.size+1,1) c1).setCell (w.heap.size+1,2) c2).setCell (w.heap.size+1,3) c3->O.cell? _=_/\O.cell? _=_/\O.cell? _=_/\O.cell? _=_/\O.cell? _=_):=λz h c0 c1 c2 c3 O e=>by
  subst e;obtain⟨a1,a2,a3,a4,a5⟩:=KS.out z h;have H:=AR z (w.heap.size+1) c0 c1 c2 c3;exact⟨Q5 H a1 (by show _;dsimp only;omega),Q5 H a2 (by show _;dsimp only;omega),Q5 H a3 (by show _;dsimp only;omega),Q5 H a4 (by show _;dsimp only;omega),Q5 H a5 (by show _;dsimp only;omega)⟩
 have b7:Hid (∀ Z,Below _ V Z->Calls _ 170 _ Z λe w5=>(∃ F n G,e=.returned (.slice F n G)/\Hid (w5.ownsRow _ 203 5 (.slice F n G) (ZU _ _ _ x.g).length (Zh (BS (ZU _ _ _ x.g)) (ZU _ _ _ x.g).length)))/\Below _ V w5):=λZ hZ=>by
  have hh:=(HO.out.j0 (zb b hZ));obtain⟨q1,q2,q3,q4,q5,q6,_⟩:=c9.out;have e1:=OA x i f o l j q k _ Z q3 (by rw[q4];exact hh.G.at) (by rw[q5];exact hh.F.at) (by rw[r.out];exact hh.u.at) q6 (by rw[q4];exact q1) (by rw[q4];exact q2) (by rw[q4,q5])
  rw[q4,q5,r.out] at e1;refine e1.mono ?_;rintro e w5 ⟨⟨u,rfl,o1⟩,d2⟩;rw[r.out];obtain⟨F,G,rfl,_⟩:=zn o1;exact⟨⟨F,_,G,rfl,zo o1 (Jp b.size hZ.size)⟩,zb hZ d2⟩
 obtain⟨v0,v1,v2,v3⟩:=Qk P;obtain⟨e0,e1,e2,e3⟩:=EV P;go_upto_region 6 with fail;go_region_held3 (λw'=>w'.cell? ⟨g,0,none⟩=some (.slice i N l)/\w'.cell? ⟨g,1,none⟩=some (.slice f N j)/\w'.cell? ⟨g,2,none⟩=some (.slice o R q)/\w'.cell? ⟨w.heap.size,3,none⟩=some (.slice (some ⟨M,lo,none⟩) y.c d)/\w'.cell? ⟨M,lo,none⟩=some (int i64 (y.J 0)))
  (first|(with_reducible exact KT.out _ m.out _ _ _ _ _ rfl)|(refine KS.out _ ?_;repeat(first|exact m.out|exact bZ|refine Jh ?_|refine zd ?_ _)))
  (first
   |(go_simp;go_at_call 170;(with_reducible refine Jm (b7.out _ ?_) ?_);exact dB;rintro e u2 ⟨⟨F,n,G,rfl,X⟩,a7⟩;have m:=hI a7;have c:=za P a7;have f1:=bC c 0;have e5:=zc c 0;have f2:=bC c 1;have e6:=zc c 1;have f4:=bC c 2;have e7:=zc c 2;have f5:=bC c 3;have e8:=zc c 3;dsimp only))
 obtain⟨U,a6,S,bF⟩:=BY (T:=(λ_=>False)) (zl.of_below (zb b m.out)) (HO.j0 (zb b m.out)) (za Y.out (zb b m.out)) c oM (int i64 0) (int i64 0) (int i64 0) (.slice F n G) rfl
 have d0:Hid _:=(AR u2 _ () () () (F,n,G)).j1 X.out (zQ X.out c dC);have Q:=hI U;have b9:=hI a6;have b8:=hI S;clear U a6 S;go_wp2;obtain⟨x0,x1,x2,x3⟩:=Qk bF;refine Jj (v:=.agg #[(),(),(),(F,n,G)]) (by simp[results,results93,go_sem,x0,x1,x2,x3]) rfl ?_
 have hR:=r.out;subst hR;exact⟨_,_,_,_,rfl,d0.out,Q.out,b9.out,b8.out⟩
theorem MB (s:qe)(l:zw)(m:Nat)(B:Nat->zA)(C:Nat->List Value)(e8 a2 a5 a3 a4 e4:Option Addr)(e9 b5 b8 b6 b7 f8:Nat)(w:World)(hm:m<=1048576)(hl:zw.Short l 1048576)
  (e0:∀ j,j<l.m->0<=(l.I j).H/\(l.I j).H<s.M.n) (f0:zJ w a2 s.M) (f4:qx w a5 l.r l.K) (f1:qn w a3 l.m l.I) (f2:qC w a4 l.t l.L) (hC:Qo w e4 m 13 C) (hI:∀ k,k<m->zA.Is w (C k) (B k)) :
  Calls prog 100 #[.agg (s,e8,e9,a2,b5),.agg #[(a5,l.r,b8),(a3,l.m,b6),(a4,l.t,b7)],(e4,m,f8)] w λe w'=>qH (ES s l m B) e/\Below w w w':=by
 have d0:Hid (zJ w a2 _):=f0;have d4:Hid (qx w a5 _ _):=f4;have d2:Hid (qn w a3 _ _):=f1;have d3:Hid (qC w a4 _ _):=f2;have HC:Hid (Qo w e4 m 13 C):=hC;have HI:Hid _:=hI;have d1:Hid _:=e0;have U:Hid (zw.Short l 1048576):=hl;clear f0 f4 f1 f2 hC hI e0 hl;have f:Below _ w ((w.alloc (.cells (s,e8,e9,a2,b5) 140)).alloc (.cells #[(a5,l.r,b8),(a3,l.m,b6),(a4,l.t,b7)] 145)):=zd (zd bZ _) _;have bS:=Cs f;have bL:=Dt f;go_enter func100,ntmps100;go_wp2;generalize (w.alloc _).alloc _=V at f bS bL ⊢;have S:=hI bS;have L:=hI bL;clear bS bL;go_loopw [7,8,10,13] (λn1 n2 _ i wr=>∃ k,k<=m/\i=int i64 k/\n1=int i64 (EW (λj=>¬ EN (B j)) k:Nat)/\n2=int i64 (EW (λj=>¬ EO (B j)) k:Nat)/\(∀ j,j<k->Ty s l (B j))/\Below V V wr) (λ_ _ _ i _=>m - (intOf i).toNat)
 case atStart=>exact⟨0,Jq _,rfl,rfl,rfl,λj hj=>by omega,bZ⟩
 case round =>
  obtain⟨k,hk,rfl,rfl,rfl,d9,a1⟩:=hrel;have HA:=hI d9;clear d9;obtain⟨m1,d7⟩:=nM (EW (λj=>¬ EN (B j)) k)
  obtain⟨m2,d8⟩:=nM (EW (λj=>¬ EO (B j)) k)
  have l1:m1<=k:=by rw[d7];exact Hi _ _
  have l2:m2<=k:=by rw[d8];exact Hi _ _
  rw[← d7,← d8];have b3:=hI d7;have b4:=hI d8;clear d7 d8
  by_cases hlt2:k<m
  ·have K:=zb f a1
   obtain⟨bb,bo,rfl,hc⟩:=HC k hlt2;obtain⟨I,J,eC,_,_⟩:=HI k hlt2;obtain⟨b,hb⟩:=nM (B k);rw[← hb] at eC;have X:=hI hb;have A:bb<w.heap.size:=Ja w _ (hc 0 dC);have c0:wr.cell? _=some (.int _ _):=(K.cell (p:=⟨bb,bo+_,_⟩) A).trans (rC eC (hc 0 dC));have c1:wr.cell? _=some (.int _ _):=(K.cell A).trans (rC eC (hc 1 dC));have c2:wr.cell? _=some (.string _):=(K.cell A).trans (rC eC (hc 2 dC));have c3:wr.cell? _=some (.slice I _ J):=(K.cell A).trans (rC eC (hc 3 dC));have c4:wr.cell? _=some (.int _ _):=(K.cell A).trans (rC eC (hc 4 dC));have c5:wr.cell? _=some (.int _ _):=(K.cell A).trans (rC eC (hc 5 dC));have c6:wr.cell? _=some (.int _ _):=(K.cell A).trans (rC eC (hc 6 dC));have c7:wr.cell? _=some (.int _ _):=(K.cell A).trans (rC eC (hc 7 dC));have c8:wr.cell? _=some (.bool _):=(K.cell A).trans (rC eC (hc 8 dC));have c9:wr.cell? _=some (.int _ _):=(K.cell A).trans (rC eC (hc 9 dC));have f5:wr.cell? _=some (.int _ _):=(K.cell A).trans (rC eC (hc 10 dC));have f6:wr.cell? _=some (.int _ _):=(K.cell A).trans (rC eC (hc 11 dC));have f7:wr.cell? _=some (.int _ _):=(K.cell A).trans (rC eC (hc 12 dC));clear hc eC hb;have e5:=zd a1 (.cells (b,I,J) 150);have b1:=Jb wr (.cells (b,I,J) 150);go_wp2_with fail;generalize hBx:wr.heap.size=Bx at b1 ⊢;generalize wr.alloc _=W at e5 b1 ⊢;clear hBx c0 c1 c2 c3 c4 c5 c6 c7 c8 c9 f5 f6 f7 a1 K;obtain⟨t1,e6⟩:=nM (decide (¬ (b.f=0/\b.j=0)));have H1:Hid (t1=true↔¬ EN b):=by show _↔_;rw[e6,decide_eq_true_eq];exact Iff.rfl
   refine(Du _ _ _ _ _ _ _).mono ?_;rw[← e6];clear e6;rintro e W1 ⟨rfl,a⟩;have b2:=zb e5 a;have g:=za b1 a;clear e5 b1 a W;obtain⟨t2,e7⟩:=nM (decide (¬ (b.w=0/\b.h=false/\b.x=0)));have H2:Hid (t2=true↔¬ EO b):=by show _↔_;rw[e7,decide_eq_true_eq];exact Iff.rfl
   have d5:=hI e7;clear e7;have f9:IntKind.i64.wrap ((m1:Int)+1)=(m1:Int)+1:=by rw[Jk];omega
   have g0:IntKind.i64.wrap ((m2:Int)+1)=(m2:Int)+1:=by rw[Jk];omega
   have T:=hI hlt2
   cases t1 with
   |true =>
    have b9:=hI (H1.1 rfl);clear H1;have M:=bC g 4;have N:=bC g 5;have O:=bC g 6;have P:=bC g 7;have Q:=bC g 8;have R:=bC g 9;go_wp2_with fail;refine(Ar _ _ _ _ _ _ _).mono ?_;rw[← d5.out];rintro e W2 ⟨rfl,a⟩;have n:=zb b2 a;have r:=za g a;clear M N O P Q R b2 g a W1 d5
    cases t2 with
    |true =>
     have a9:=hI (H2.1 rfl);clear H2;obtain⟨y0,y1,y2,y3,M,N,O,P,Q,R,x,y,z⟩:=Cl r;have s6:=bC (za S n) 6;obtain⟨t,u,v⟩:=ZE (za L n);go_wp2_with fail;refine(CI b I J l a5 b8 _ U.1 (d4.j0 (zb f n))).mono ?_;rintro e W3 ⟨⟨u0,rfl,Y⟩,a⟩;have F:=hI Y;have c:=zb n a;have o:=za r a;clear y0 y1 y2 y3 M N O P Q R x y z s6 t u v n r a Y W2
     cases u0 with
     |false =>
      have E:Hid (¬ ES s l m B):=λh=>by have h1:=(h.1 k T).1;rw[← X.out] at h1;have:=F.2 h1;cases this
      go_wp2;go_ret;exact⟨zh E,zb f c⟩
     |true =>
     have a6:=hI (F.1 rfl);clear F;obtain⟨y0,y1,y2,y3,M,N,O,P,Q,R,x,y,z⟩:=Cl o;have s6:=bC (za S c) 6;obtain⟨t,u,v⟩:=ZE (za L c);go_wp2_with fail;refine(BD b I J s l a2 a3 b5 b6 _ U.2.1 d1 (d0.j0 (zb f c)) (d2.j0 (zb f c))).mono ?_;rintro e W4 ⟨⟨u1,rfl,Z⟩,a⟩;have G:=hI Z;have d:=zb c a;have q:=za o a;clear y0 y1 y2 y3 M N O P Q R x y z s6 t u v c o a Z W3
     cases u1 with
     |false =>
      have E:Hid (¬ ES s l m B):=λh=>by have h1:=(h.1 k T).2.1;rw[← X.out] at h1;have:=G.2 h1;cases this
      go_wp2;go_ret;exact⟨zh E,zb f d⟩
     |true =>
     have a7:=hI (G.1 rfl);clear G;obtain⟨y0,y1,y2,y3,M,N,O,P,Q,R,x,y,z⟩:=Cl q;have s6:=bC (za S d) 6;obtain⟨t,u,v⟩:=ZE (za L d);go_wp2_with fail;refine(BC b I J l a4 b7 _ U.2.2 (d3.j0 (zb f d))).mono ?_;rintro e W5 ⟨⟨u2,rfl,a0⟩,a⟩;have H:=hI a0;have D:=zb d a;have b0:=za q a;clear y0 y1 y2 y3 M N O P Q R x y z s6 t u v d q a a0 W4
     cases u2 with
     |false =>
      have E:Hid (¬ ES s l m B):=λh=>by have h1:=(h.1 k T).2.2;rw[← X.out] at h1;have:=H.2 h1;cases this
      go_wp2;go_ret;exact⟨zh E,zb f D⟩
     |true =>
     have a8:=hI (H.1 rfl);clear H;go_wp2;go_roundw
     case rel=>exact⟨k+1,by omega,by go_num,by rw[Qs (by rw[← X.out];exact b9.out),← b3.out];simp,by rw[Qs (by rw[← X.out];exact a9.out),← b4.out];simp,λj hj=>by
      by_cases e:j=k
      ·subst e;rw[← X.out];exact⟨a6,a7,a8⟩
      ·exact HA j oM,D⟩
     case measure=>simp[intOf];omega
    |false =>
     have a9:Hid (¬ _):=λh=>by have:=H2.2 h;cases this
     clear H2;obtain⟨y0,y1,y2,y3,M,N,O,P,Q,R,x,y,z⟩:=Cl r;have s6:=bC (za S n) 6;obtain⟨t,u,v⟩:=ZE (za L n);go_wp2_with fail;refine(CI b I J l a5 b8 _ U.1 (d4.j0 (zb f n))).mono ?_;rintro e W3 ⟨⟨u0,rfl,Y⟩,a⟩;have F:=hI Y;have c:=zb n a;have o:=za r a;clear y0 y1 y2 y3 M N O P Q R x y z s6 t u v n r a Y W2
     cases u0 with
     |false =>
      have E:Hid (¬ ES s l m B):=λh=>by have h1:=(h.1 k T).1;rw[← X.out] at h1;have:=F.2 h1;cases this
      go_wp2;go_ret;exact⟨zh E,zb f c⟩
     |true =>
     have a6:=hI (F.1 rfl);clear F;obtain⟨y0,y1,y2,y3,M,N,O,P,Q,R,x,y,z⟩:=Cl o;have s6:=bC (za S c) 6;obtain⟨t,u,v⟩:=ZE (za L c);go_wp2_with fail;refine(BD b I J s l a2 a3 b5 b6 _ U.2.1 d1 (d0.j0 (zb f c)) (d2.j0 (zb f c))).mono ?_;rintro e W4 ⟨⟨u1,rfl,Z⟩,a⟩;have G:=hI Z;have d:=zb c a;have q:=za o a;clear y0 y1 y2 y3 M N O P Q R x y z s6 t u v c o a Z W3
     cases u1 with
     |false =>
      have E:Hid (¬ ES s l m B):=λh=>by have h1:=(h.1 k T).2.1;rw[← X.out] at h1;have:=G.2 h1;cases this
      go_wp2;go_ret;exact⟨zh E,zb f d⟩
     |true =>
     have a7:=hI (G.1 rfl);clear G;obtain⟨y0,y1,y2,y3,M,N,O,P,Q,R,x,y,z⟩:=Cl q;have s6:=bC (za S d) 6;obtain⟨t,u,v⟩:=ZE (za L d);go_wp2_with fail;refine(BC b I J l a4 b7 _ U.2.2 (d3.j0 (zb f d))).mono ?_;rintro e W5 ⟨⟨u2,rfl,a0⟩,a⟩;have H:=hI a0;have D:=zb d a;have b0:=za q a;clear y0 y1 y2 y3 M N O P Q R x y z s6 t u v d q a a0 W4
     cases u2 with
     |false =>
      have E:Hid (¬ ES s l m B):=λh=>by have h1:=(h.1 k T).2.2;rw[← X.out] at h1;have:=H.2 h1;cases this
      go_wp2;go_ret;exact⟨zh E,zb f D⟩
     |true =>
     have a8:=hI (H.1 rfl);clear H;go_wp2;go_roundw
     case rel=>exact⟨k+1,by omega,by go_num,by rw[Qs (by rw[← X.out];exact b9.out),← b3.out];simp,by rw[QG (by rw[← X.out];exact a9.out),← b4.out],λj hj=>by
      by_cases e:j=k
      ·subst e;rw[← X.out];exact⟨a6,a7,a8⟩
      ·exact HA j oM,D⟩
     case measure=>simp[intOf];omega
   |false =>
    have b9:Hid (¬ _):=λh=>by have:=H1.2 h;cases this
    clear H1;have M:=bC g 4;have N:=bC g 5;have O:=bC g 6;have P:=bC g 7;have Q:=bC g 8;have R:=bC g 9;go_wp2_with fail;refine(Ar _ _ _ _ _ _ _).mono ?_;rw[← d5.out];rintro e W2 ⟨rfl,a⟩;have n:=zb b2 a;have r:=za g a;clear M N O P Q R b2 g a W1 d5
    cases t2 with
    |true =>
     have a9:=hI (H2.1 rfl);clear H2;obtain⟨y0,y1,y2,y3,M,N,O,P,Q,R,x,y,z⟩:=Cl r;have s6:=bC (za S n) 6;obtain⟨t,u,v⟩:=ZE (za L n);go_wp2_with fail;refine(CI b I J l a5 b8 _ U.1 (d4.j0 (zb f n))).mono ?_;rintro e W3 ⟨⟨u0,rfl,Y⟩,a⟩;have F:=hI Y;have c:=zb n a;have o:=za r a;clear y0 y1 y2 y3 M N O P Q R x y z s6 t u v n r a Y W2
     cases u0 with
     |false =>
      have E:Hid (¬ ES s l m B):=λh=>by have h1:=(h.1 k T).1;rw[← X.out] at h1;have:=F.2 h1;cases this
      go_wp2;go_ret;exact⟨zh E,zb f c⟩
     |true =>
     have a6:=hI (F.1 rfl);clear F;obtain⟨y0,y1,y2,y3,M,N,O,P,Q,R,x,y,z⟩:=Cl o;have s6:=bC (za S c) 6;obtain⟨t,u,v⟩:=ZE (za L c);go_wp2_with fail;refine(BD b I J s l a2 a3 b5 b6 _ U.2.1 d1 (d0.j0 (zb f c)) (d2.j0 (zb f c))).mono ?_;rintro e W4 ⟨⟨u1,rfl,Z⟩,a⟩;have G:=hI Z;have d:=zb c a;have q:=za o a;clear y0 y1 y2 y3 M N O P Q R x y z s6 t u v c o a Z W3
     cases u1 with
     |false =>
      have E:Hid (¬ ES s l m B):=λh=>by have h1:=(h.1 k T).2.1;rw[← X.out] at h1;have:=G.2 h1;cases this
      go_wp2;go_ret;exact⟨zh E,zb f d⟩
     |true =>
     have a7:=hI (G.1 rfl);clear G;obtain⟨y0,y1,y2,y3,M,N,O,P,Q,R,x,y,z⟩:=Cl q;have s6:=bC (za S d) 6;obtain⟨t,u,v⟩:=ZE (za L d);go_wp2_with fail;refine(BC b I J l a4 b7 _ U.2.2 (d3.j0 (zb f d))).mono ?_;rintro e W5 ⟨⟨u2,rfl,a0⟩,a⟩;have H:=hI a0;have D:=zb d a;have b0:=za q a;clear y0 y1 y2 y3 M N O P Q R x y z s6 t u v d q a a0 W4
     cases u2 with
     |false =>
      have E:Hid (¬ ES s l m B):=λh=>by have h1:=(h.1 k T).2.2;rw[← X.out] at h1;have:=H.2 h1;cases this
      go_wp2;go_ret;exact⟨zh E,zb f D⟩
     |true =>
     have a8:=hI (H.1 rfl);clear H;go_wp2;go_roundw
     case rel=>exact⟨k+1,by omega,by go_num,by rw[QG (by rw[← X.out];exact b9.out),← b3.out],by rw[Qs (by rw[← X.out];exact a9.out),← b4.out];simp,λj hj=>by
      by_cases e:j=k
      ·subst e;rw[← X.out];exact⟨a6,a7,a8⟩
      ·exact HA j oM,D⟩
     case measure=>simp[intOf];omega
    |false =>
     have a9:Hid (¬ _):=λh=>by have:=H2.2 h;cases this
     clear H2;obtain⟨y0,y1,y2,y3,M,N,O,P,Q,R,x,y,z⟩:=Cl r;have s6:=bC (za S n) 6;obtain⟨t,u,v⟩:=ZE (za L n);go_wp2_with fail;refine(CI b I J l a5 b8 _ U.1 (d4.j0 (zb f n))).mono ?_;rintro e W3 ⟨⟨u0,rfl,Y⟩,a⟩;have F:=hI Y;have c:=zb n a;have o:=za r a;clear y0 y1 y2 y3 M N O P Q R x y z s6 t u v n r a Y W2
     cases u0 with
     |false =>
      have E:Hid (¬ ES s l m B):=λh=>by have h1:=(h.1 k T).1;rw[← X.out] at h1;have:=F.2 h1;cases this
      go_wp2;go_ret;exact⟨zh E,zb f c⟩
     |true =>
     have a6:=hI (F.1 rfl);clear F;obtain⟨y0,y1,y2,y3,M,N,O,P,Q,R,x,y,z⟩:=Cl o;have s6:=bC (za S c) 6;obtain⟨t,u,v⟩:=ZE (za L c);go_wp2_with fail;refine(BD b I J s l a2 a3 b5 b6 _ U.2.1 d1 (d0.j0 (zb f c)) (d2.j0 (zb f c))).mono ?_;rintro e W4 ⟨⟨u1,rfl,Z⟩,a⟩;have G:=hI Z;have d:=zb c a;have q:=za o a;clear y0 y1 y2 y3 M N O P Q R x y z s6 t u v c o a Z W3
     cases u1 with
     |false =>
      have E:Hid (¬ ES s l m B):=λh=>by have h1:=(h.1 k T).2.1;rw[← X.out] at h1;have:=G.2 h1;cases this
      go_wp2;go_ret;exact⟨zh E,zb f d⟩
     |true =>
     have a7:=hI (G.1 rfl);clear G;obtain⟨y0,y1,y2,y3,M,N,O,P,Q,R,x,y,z⟩:=Cl q;have s6:=bC (za S d) 6;obtain⟨t,u,v⟩:=ZE (za L d);go_wp2_with fail;refine(BC b I J l a4 b7 _ U.2.2 (d3.j0 (zb f d))).mono ?_;rintro e W5 ⟨⟨u2,rfl,a0⟩,a⟩;have H:=hI a0;have D:=zb d a;have b0:=za q a;clear y0 y1 y2 y3 M N O P Q R x y z s6 t u v d q a a0 W4
     cases u2 with
     |false =>
      have E:Hid (¬ ES s l m B):=λh=>by have h1:=(h.1 k T).2.2;rw[← X.out] at h1;have:=H.2 h1;cases this
      go_wp2;go_ret;exact⟨zh E,zb f D⟩
     |true =>
     have a8:=hI (H.1 rfl);clear H;go_wp2;go_roundw
     case rel=>exact⟨k+1,by omega,by go_num,by rw[QG (by rw[← X.out];exact b9.out),← b3.out],by rw[QG (by rw[← X.out];exact a9.out),← b4.out],λj hj=>by
      by_cases e:j=k
      ·subst e;rw[← X.out];exact⟨a6,a7,a8⟩
      ·exact HA j oM,D⟩
     case measure=>simp[intOf];omega
  ·obtain rfl:k=m:=by omega
   obtain⟨t,u,v⟩:=ZE (za L a1);have HJ:Hid (ES s l k B↔l.r=m1/\l.m=m2/\l.t=k):=by
    show _↔_
    unfold ES;rw[← b3.out,← b4.out];exact⟨λh=>h.2,λh=>⟨HA,h⟩⟩
   have d6:=zb f a1;clear a1 b3 b4 HA
   by_cases v1:l.r=m1
   case neg =>
    have e1:((l.r:Int) == (m1:Int))=false:=by simp;omega
    have E:Hid (¬ _):=λh=>v1 (HJ.1 h).1
    clear v1;go_wp2;go_ret;exact⟨zh E,d6⟩
   have e1:((l.r:Int) == (m1:Int))=true:=by simp;omega
   by_cases v2:l.m=m2
   case neg =>
    have e2:((l.m:Int) == (m2:Int))=false:=by simp;omega
    have E:Hid (¬ _):=λh=>v2 (HJ.1 h).2.1
    clear v1 v2;go_wp2;go_ret;exact⟨zh E,d6⟩
   have e2:((l.m:Int) == (m2:Int))=true:=by simp;omega
   by_cases v3:l.t=k
   case neg =>
    have e3:((l.t:Int) == (k:Int))=false:=by simp;omega
    have E:Hid (¬ _):=λh=>v3 (HJ.1 h).2.2
    clear v1 v2 v3;go_wp2;go_ret;exact⟨zh E,d6⟩
   have e3:((l.t:Int) == (k:Int))=true:=by simp;omega
   have E:=hI (HJ.2 ⟨v1,v2,v3⟩);clear v1 v2 v3;go_wp2;go_ret;exact⟨zN E,d6⟩
theorem OB (f bo:Option Addr)(m k n c:Nat)(p:zv)(S:Nat->ql)(w:World)(h:p.n=m)(s:m<=1048576)(t:n<=1048576)(r:n<=c)(i:zJ w f p)(j:qx w bo n S) :
  Calls prog 178 #[.slice f m k,.slice bo n c] w λe w'=>qH (EM p n S) e/\Below w w w':=by
 have o:Hid (zJ w f p):=i;have q:Hid (qx w bo n S):=j;have l:Hid (p.n=m):=h;clear i j h;go_enter func178,ntmps178;go_wp2_with fail;refine(Fi f bo m k n c p S _ l.out s t r o.out q.out).mono ?_;rintro e w1 ⟨a,b⟩;unfold Oe Od at a
 rcases a with⟨d,rfl⟩|⟨d,rfl⟩
 ·have g:Hid (EM p n S):=d
  clear d;go_wp2;go_ret;exact⟨zN g.out,zd b _⟩
 ·have g:Hid (¬ EM p n S):=d
  clear d;go_wp2;go_ret;exact⟨zh g.out,zd b _⟩
theorem MC (f bo:Option Addr)(m l n c:Nat)(p:zv)(S:Nat->zU)(w:World)(i:p.n=m)(t:m<=1048576)(u:n<=1048576)(s:n<=c)(j:zJ w f p)(k:qn w bo n S) :
  Calls prog 179 #[.slice f m l,.slice bo n c] w λe w'=>qH (QF p n S) e/\Below w w w':=by
 have q:Hid (zJ w f p):=j;have r:Hid (qn w bo n S):=k;have o:Hid (p.n=m):=i;clear j k i;go_enter func179,ntmps179;go_wp2_with fail;refine(BQ f bo m l n c p S _ o.out t u s q.out r.out).mono ?_;rintro e w1 ⟨b,a⟩;unfold PM af at b
 rcases b with⟨d,rfl⟩|⟨d,rfl⟩
 ·have g:Hid (QF p n S):=CP.1 d
  clear d;go_wp2;go_ret;exact⟨zN g.out,(by first|exact a|exact zd a _)⟩
 ·have g:Hid (¬ QF p n S):=λh=>d (CP.2 h)
  clear d;go_wp2;go_ret;exact⟨zh g.out,(by first|exact a|exact zd a _)⟩
theorem MD (x:zY)(a0 Z:Option Addr)(b5 b4:Nat)(w:World)(hs:zY.Short x 1048576)(a1:qy w a0 x.i x.G)(d:ZA w Z x.l x.F) :
  Calls prog 98 #[(a0,x.i,b5),(Z,x.l,b4)] w λe w'=>qH (x.l=x.i/\∀ k,k<x.i->qf (x.G k) (x.F k)) e/\Below w w w':=by
 have b3:=hI a1;have a9:=hI d;have W:=hI hs;have n1:=hs.1.1;clear a1 d hs
 by_cases g1:x.l=x.i
 case neg =>
  have e1:((x.l:Int) != (x.i:Int))=true:=by simp;omega
  have E:Hid (¬ (_/\∀ k,k<x.i->qf (x.G k) (x.F k))):=λh=>g1 h.1
  clear g1;go_enter func98,ntmps98;go_wp2;go_ret;exact⟨zh E,bZ⟩
 have e1:((x.l:Int) != (x.i:Int))=false:=by simp;omega
 have HE:=hI g1;clear g1;go_enter func98,ntmps98;go_wp2;clear e1;go_loopw [5,6,7,15] (λ_ _ _ i wr=>∃ k,k<=x.i/\i=int i64 k/\(∀ j,j<k->qf (x.G j) (x.F j))/\Below w w wr) (λ_ _ _ i _=>x.i - (intOf i).toNat)
 case atStart=>exact⟨0,Jq _,rfl,λj hj=>by omega,bZ⟩
 case round =>
  obtain⟨k,hk,rfl,B,c⟩:=hrel;have HA:=hI B;clear B
  by_cases hlt:k<x.i
  ·obtain⟨sb,so,la,lc,ca,cc,rfl,f0,f1,f2,f3,f4,f5,f6,f7,J,I,a6,a5⟩:=b3 k hlt
   obtain⟨s,M⟩:=nM (x.G k);have A:=W.1.2 k hlt;rw[← M] at f0 f1 f2 f3 f4 f5 f6 f7 J I a6 a5 A;have n:=hI M;have b6:=Ja w _ f0;obtain⟨c0,c1,c2,c3,c4,c5,c6,c7⟩:=OR c f0 f1 f2 f3 f4 f5 f6 f7 b6;obtain⟨C,hC,hI⟩:=a9;have z:k<x.l:=by have:=HE.out;omega
   obtain⟨lb,lo,rfl,hc⟩:=hC k z;obtain⟨l,d⟩:=nM (x.F k);have K:=W.2.1.2 k z;obtain⟨t,y,q,u,r,v,eC,O,S,L,Q,N,R⟩:=hI k z;rw[← d] at eC O S L Q N R K;have m:Hid _:=d;have P:lb<w.heap.size:=Ja w _ (hc 0 dC);have d0:∀ o,(wr.alloc o).cell? _=some (.slice t _ y):=λo=>((zd c o).cell (p:=⟨lb,lo+_,_⟩) P).trans (rC eC (hc 0 dC))
   have d1:∀ o,(wr.alloc o).cell? _=some (.slice q _ u):=λo=>((zd c o).cell P).trans (rC eC (hc 1 dC))
   have d2:∀ o,(wr.alloc o).cell? _=some (.slice r _ v):=λo=>((zd c o).cell P).trans (rC eC (hc 2 dC))
   have a8:Hid (zJ w la _):=J;have a7:Hid (zJ w ca _):=I;have Y:Hid (_/\_):=⟨O,S.1⟩;have T:Hid (_/\_):=⟨L,Q.1⟩;have U:Hid (_/\_):=⟨N,R.1⟩;have D:Hid (zw.Short l 1048576):=K;have X:Hid (_/\_):=⟨A.2.2.1,A.2.2.2⟩;have h0:=n0 k;have h1:(k:Int)<(x.l:Int):=oM;clear hC hI hc eC M d f0 f1 f2 f3 f4 f5 f6 f7 J I a6 a5 O S L Q N R K A z;have a:=zd (zd c (.cells (s,la,lc,ca,cc) 140)) (.cells #[(t,l.r,y),(q,l.m,u),(r,l.t,v)] 145);have f:((wr.alloc _).alloc (.cells #[(t,l.r,y),(q,l.m,u),(r,l.t,v)] 145)).heap[wr.heap.size]?=some (.cells (s,la,lc,ca,cc) 140 (0,0)):=zg (Jb wr _) _;have g:=Kw f;have y5:=bC f 5;have m0:=bC g 0;go_wp2_with fail;generalize hBx:wr.heap.size=Bx at f g y5 m0 ⊢;generalize (wr.alloc _).alloc _=V at a f g y5 m0 ⊢;clear hBx c0 c1 c2 c3 c4 c5 c6 c7 d0 d1 d2 y5 m0 c;refine(OB la t _ lc _ y _ _ _ rfl X.1 D.1 Y.2 (a8.j0 a) (Y.1.j0 a)).mono ?_;rintro e V0 ⟨⟨t0,rfl,a2⟩,b⟩;have F:=hI a2;replace f:=za f b;replace g:=za g b;replace a:=zb a b;clear b a2
   cases t0 with
   |false =>
    have E:Hid (¬ (x.l=x.i/\∀ k,k<x.i->qf (x.G k) (x.F k))):=λh=>by have h:=h.2 k hlt;rw[← n.out,← m.out] at h;have:=F.2 ((QQ _ _ _).1 h.1);cases this
    go_wp2;go_ret;exact⟨zh E,a⟩
   |true =>
   have b0:=hI (F.1 rfl);clear F;have y6:=bC f 6;have m1:=bC g 1;go_wp2_with fail;clear y6 m1;refine(MC ca q _ cc _ u _ _ _ rfl X.2 D.2.1 T.2 (a7.j0 a) (T.1.j0 a)).mono ?_;rintro e V1 ⟨⟨t1,rfl,a3⟩,b⟩;have G:=hI a3;replace f:=za f b;replace g:=za g b;replace a:=zb a b;clear b a3
   cases t1 with
   |false =>
    have E:Hid (¬ (x.l=x.i/\∀ k,k<x.i->qf (x.G k) (x.F k))):=λh=>by have h:=h.2 k hlt;rw[← n.out,← m.out] at h;have:=G.2 (h.2.1);cases this
    go_wp2;go_ret;exact⟨zh E,a⟩
   |true =>
   have b1:=hI (G.1 rfl);clear G;have m2:=bC g 2;have y7:=bC f 7;go_wp2_with fail;clear y7 m2;refine(FT _ r _ v _ _ (by have:=D.2.2;omega) U.2 (U.1.j0 a)).mono ?_
   rintro e V2 ⟨⟨t2,rfl,a4⟩,b⟩;have H:=hI a4;replace f:=za f b;replace g:=za g b;replace a:=zb a b;clear b a4
   cases t2 with
   |false =>
    have E:Hid (¬ (x.l=x.i/\∀ k,k<x.i->qf (x.G k) (x.F k))):=λh=>by have h:=h.2 k hlt;rw[← n.out,← m.out] at h;have:=H.2 (h.2.2);cases this
    go_wp2;go_ret;exact⟨zh E,a⟩
   |true =>
   have b2:=hI (H.1 rfl);clear H;go_wp2;go_roundw
   case rel=>exact⟨k+1,by omega,by go_num,λj hj=>by
    by_cases e:j=k
    ·subst e;rw[← n.out,← m.out];exact⟨(QQ _ _ _).2 b0,b1,b2⟩
    ·exact HA j oM,a⟩
   case measure=>simp[intOf];omega
  ·obtain rfl:k=x.i:=by omega
   go_wp2;go_ret;exact⟨zN ⟨HE,HA⟩,c⟩
theorem GT {x:zY}{i:Nat}:Qr x i↔(x.u i).k=i+1/\(In (x.u i).e 1 9999/\¬ Qh (Hy x.u) i (x.u i).e)/\FW x.i x.G (x.u i):=by
 unfold Qr FW
 constructor
 ·rintro⟨h1,h2,h3,a,b,c,d,h8,h9⟩
  exact⟨h1,⟨h2,λ⟨j,f,e⟩=>h8 j f e⟩,h3,a,b,c,h9,d⟩
 ·rintro⟨h1,⟨h2,h8⟩,h3,a,b,c,h9,d⟩
  exact⟨h1,h2,h3,a,b,c,d,λj f e=>h8 ⟨j,f,e⟩,h9⟩
theorem Hz (x:zY)(s A:Option Addr)(B m:Nat)(w:World)(V:zY.Short x 1048576)(hT:At x.i x.G)(I:qy w s x.i x.G)(U:qL w A x.g x.u)(a2:x.g<=m) :
  Calls prog 99 #[(s,x.i,B),(A,x.g,m)] w λe w'=>qH (x.g<=30/\∀ i,i<x.g->Qr x i) e/\Below w w w':=by
 have F:=hI I;have z:=hI V;have Y:=hI hT;have n1:=V.1.1;obtain⟨C,Z,hI⟩:=U;have K:Hid (Qo w A _ 13 C):=Z;have L:Hid _:=hI;clear I V hT Z hI
 by_cases g1:x.g<=30
 case neg =>
  have M:decide ((30:Int)<(x.g:Int))=true:=by simp;omega
  have y:Hid (¬ (_/\∀ i,i<x.g->Qr x i)):=λh=>g1 h.1
  clear g1;go_enter func99,ntmps99;go_wp2;go_ret;exact⟨zh y,bZ⟩
 have M:decide ((30:Int)<(x.g:Int))=false:=by simp;omega
 go_enter func99,ntmps99;go_wp2;clear M;go_loopw [5,6,12] (λ_ _ i wr=>∃ k,k<=x.g/\i=int i64 k/\(∀ j,j<k->Qr x j)/\Below w w wr) (λ_ _ i _=>x.g - (intOf i).toNat)
 case atStart=>exact⟨0,Jq _,rfl,λj O=>by omega,bZ⟩
 case round =>
  obtain⟨k,hk,rfl,u,c⟩:=hrel;have X:=hI u;clear u
  by_cases hlt:k<x.g
  ·obtain⟨bb,bo,rfl,o⟩:=K k hlt
   obtain⟨q,r,n,D,_⟩:=L k hlt;obtain⟨b,N⟩:=nM (x.u k);rw[← N] at n D;have J:=hI N;have E:=hI D;have G:Hid (zA.Short b 1048576):=by rw[N];exact z.2.2.2 k hlt
   have d:bb<w.heap.size:=Ja w _ (o 0 dC);have c0:wr.cell? _=some (.int _ _):=(c.cell (p:=⟨bb,bo+_,_⟩) d).trans (rC n (o 0 dC));have c1:wr.cell? _=some (.int _ _):=(c.cell d).trans (rC n (o 1 dC));have c2:wr.cell? _=some (.string _):=(c.cell d).trans (rC n (o 2 dC));have c3:wr.cell? _=some (.slice q _ r):=(c.cell d).trans (rC n (o 3 dC));have c4:wr.cell? _=some (.int _ _):=(c.cell d).trans (rC n (o 4 dC));have c5:wr.cell? _=some (.int _ _):=(c.cell d).trans (rC n (o 5 dC));have c6:wr.cell? _=some (.int _ _):=(c.cell d).trans (rC n (o 6 dC));have c7:wr.cell? _=some (.int _ _):=(c.cell d).trans (rC n (o 7 dC));have c8:wr.cell? _=some (.bool _):=(c.cell d).trans (rC n (o 8 dC));have c9:wr.cell? _=some (.int _ _):=(c.cell d).trans (rC n (o 9 dC));have R:wr.cell? _=some (.int _ _):=(c.cell d).trans (rC n (o 10 dC));have S:wr.cell? _=some (.int _ _):=(c.cell d).trans (rC n (o 11 dC));have T:wr.cell? _=some (.int _ _):=(c.cell d).trans (rC n (o 12 dC));clear o n N D;have f:=zd c (.cells (b,q,r) 150);have a:=Jb wr (.cells (b,q,r) 150);go_upto_region 6 with fail;generalize hBx:wr.heap.size=Bx at a ⊢;generalize wr.alloc _=W at f a ⊢;clear hBx c0 c1 c2 c3 c4 c5 c6 c7 c8 c9 R S T;have a1:=zD a;have z0:=gC a 0;have z1:=gC a 1;have z2:=gC a 2;have z3:=gC a 3;have z4:=gC a 4;have z5:=gC a 5;have z6:=gC a 6;have z7:=gC a 7;have z8:=gC a 8;have z9:=gC a 9;have a6:=gC a 10;have a7:=gC a 11;have a8:=gC a 12;clear a;have a5:IntKind.i64.wrap ((k:Int)+1)=(k:Int)+1:=by rw[Jk];omega
   have a3:=n0 k;have a4:(k:Int)<=(m:Int):=oM;have a0:k<=m:=oM
   by_cases p1:b.k=(k:Int)+1
   case neg =>
    have M:(b.k != (k:Int)+1)=true:=by simpa using p1
    have y:Hid (¬ (x.g<=30/\∀ i,i<x.g->_)):=λh=>p1 (by rw[J.out];exact(GT.1 (h.2 k hlt)).1)
    clear p1;refine ze kR kR ?_
    repeat(go_big_quiet_step (fail))
    refine Jl ?_;rintro _ ⟨g,rfl⟩;go_wp2;go_ret;exact⟨zh y,zb f g.o⟩
   have M:(b.k != (k:Int)+1)=false:=by simpa using p1
   have P1:=hI p1;clear p1
   by_cases p2:In b.e 1 9999/\¬ Qh (Hy x.u) k b.e
   case neg =>
    have H:=hI p2;have y:Hid (¬ (x.g<=30/\∀ i,i<x.g->_)):=λh=>p2 (by rw[J.out];exact(GT.1 (h.2 k hlt)).2.1)
    clear p2;refine ze kR kR ?_
    repeat(go_big_quiet_step ((rename_i g;go_at_call 50;refine zr (v:=.bool false) ((DL _ k m _ _ _ oM ⟨C,(K.j9 oM).j0 (zb f g.o),λj O=>(L j oM).j0 (zb f g.o)⟩).mono ?_);rintro e P ⟨⟨bb,rfl,t⟩,l⟩;obtain rfl:=Bool.eq_false_iff.2 (λe=>H (t.1 e));exact⟨rfl,l⟩)))
    refine Jl ?_;rintro _ ⟨g,rfl⟩;go_wp2;go_ret;exact⟨zh y,zb f g.o⟩
   have H:=hI p2;clear p2
   by_cases p3:FW x.i x.G b
   case neg =>
    have Q:=hI p3;have y:Hid (¬ (x.g<=30/\∀ i,i<x.g->_)):=λh=>p3 (by rw[J.out];exact(GT.1 (h.2 k hlt)).2.2)
    clear p3;refine ze kR kR ?_
    repeat(go_big_quiet_step ((rename_i g;first|(go_at_call 50;refine zr (v:=.bool true) ((DL _ k m _ _ _ oM ⟨C,(K.j9 oM).j0 (zb f g.o),λj O=>(L j oM).j0 (zb f g.o)⟩).mono ?_);rintro e P ⟨⟨bb,rfl,t⟩,l⟩;obtain rfl:=t.2 H;exact⟨rfl,l⟩)|(go_at_call 181;refine zr (v:=.bool false) ((EP _ _ s B b q r _ n1 z.1.2 G Y (F.j0 (zb f g.o)) (E.j0 (zb f g.o))).mono ?_);rintro e P ⟨⟨bb,rfl,t⟩,l⟩;obtain rfl:=Bool.eq_false_iff.2 (λe=>Q (t.1 e));exact⟨rfl,l⟩))))
    refine Jl ?_;rintro _ ⟨g,rfl⟩;go_wp2;go_ret;exact⟨zh y,zb f g.o⟩
   have Q:=hI p3;have HK:=hI (GT.2 (by rw[← J.out];exact⟨P1,H,p3⟩))
   clear p3;refine ze kR kR ?_
   repeat(go_big_quiet_step ((rename_i g;first|(go_at_call 50;refine zr (v:=.bool true) ((DL _ k m _ _ _ oM ⟨C,(K.j9 oM).j0 (zb f g.o),λj O=>(L j oM).j0 (zb f g.o)⟩).mono ?_);rintro e P ⟨⟨bb,rfl,t⟩,l⟩;obtain rfl:=t.2 H;exact⟨rfl,l⟩)|(go_at_call 181;refine zr (v:=.bool true) ((EP _ _ s B b q r _ n1 z.1.2 G Y (F.j0 (zb f g.o)) (E.j0 (zb f g.o))).mono ?_);rintro e P ⟨⟨bb,rfl,t⟩,l⟩;obtain rfl:=t.2 Q;exact⟨rfl,l⟩))))
   refine Jl ?_;rintro _ ⟨g,rfl⟩;go_wp2;go_roundw
   case rel=>exact⟨k+1,by omega,by go_num,λj O=>by
    by_cases e:j=k
    ·subst e;exact HK
    ·exact X j oM,zb f g.o⟩
   case measure=>simp[intOf];omega
  ·obtain rfl:k=x.g:=by omega
   go_wp2;go_ret;exact⟨zN ⟨g1,X⟩,c⟩
theorem Rh (x:zY)(y H m:Option Addr)(B A q:Nat)(w:World)(hs:zY.Short x 1048576)(d2:qy w y x.i x.G)(r:ZA w H x.l x.F)(d0:qL w m x.g x.u)(f9:x.g<=q) :
  Calls prog 49 #[.agg #[(y,x.i,B),(H,x.l,A),(m,x.g,q)]] w λe w'=>qH (qS x) e/\Below w w w':=by
 have G:=hI d2;have b5:=hI r;have b2:=hI d0;have n:=hI hs;have n1:=hs.1.1;clear d2 r d0 hs;have f:Below _ w (w.alloc (.cells #[(y,x.i,B),(H,x.l,A),(m,x.g,q)] 38)):=zd bZ _;have o:=Qc f;go_enter func49,ntmps49;go_wp2_with fail;generalize w.alloc _=V at f o ⊢;refine(IR y _ B _ _ n1 n.1.2 (G.j0 f)).mono ?_;rintro e V0 ⟨⟨t0,rfl,d3⟩,g⟩;have U:=hI d3;replace o:=za o g;replace f:=zb f g;clear g d3;obtain⟨o0,o1,o2⟩:=ZE o
 cases t0 with
 |false =>
  have S:Hid (¬ qS x):=λh=>by have:=U.2 (h.1);cases this
  go_wp2;go_ret;exact⟨zh S,f⟩
 |true =>
 have b8:=hI (U.1 rfl);clear U;go_wp2_with fail;clear o0 o1 o2;refine(MD x y H B A _ n (G.j0 f) (b5.j0 f)).mono ?_;rintro e V1 ⟨⟨t1,rfl,d4⟩,g⟩;have W:=hI d4;replace o:=za o g;replace f:=zb f g;clear g d4;obtain⟨o0,o1,o2⟩:=ZE o
 cases t1 with
 |false =>
  have S:Hid (¬ qS x):=λh=>by have:=W.2 (⟨h.2.1,h.2.2.2.1⟩);cases this
  go_wp2;go_ret;exact⟨zh S,f⟩
 |true =>
 have F:=hI (W.1 rfl);clear W;go_wp2_with fail;clear o0 o1 o2;refine(Hz x y m B q _ n b8 (G.j0 f) (b2.j0 f) f9).mono ?_;rintro e V2 ⟨⟨t2,rfl,d5⟩,g⟩;have Y:=hI d5;replace o:=za o g;replace f:=zb f g;clear g d5;obtain⟨o0,o1,o2⟩:=ZE o
 cases t2 with
 |false =>
  have S:Hid (¬ qS x):=λh=>by have:=Y.2 (⟨h.2.2.1,h.2.2.2.2.1⟩);cases this
  go_wp2;go_ret;exact⟨zh S,f⟩
 |true =>
 have T:=hI (Y.1 rfl);clear Y;go_wp2;clear o0 o1 o2;obtain⟨C,hC,hI⟩:=b2;have HC:Hid (Qo w m _ 13 C):=hC;have HI:Hid _:=hI;have e2:Hid _:=o;have R:Hid _:=f;clear hC hI o f;go_loopw [3,4,28] (λ_ _ i wr=>∃ k,k<=x.i/\i=int i64 k/\(∀ j,j<k->CE x j)/\Below V2 V2 wr) (λ_ _ i _=>x.i - (intOf i).toNat)
 case atStart=>exact⟨0,Jq _,rfl,λj hj=>by omega,bZ⟩
 case round =>
  obtain⟨k,hk,rfl,Q,u⟩:=hrel;have HA:=hI Q;clear Q
  by_cases hlt:k<x.i
  ·have I:=zb R u
   obtain⟨sb,so,la,lc,ca,cc,rfl,f0,f1,f2,f3,f4,f5,f6,f7,d1,a5,d8,d7⟩:=G k hlt;obtain⟨s,L⟩:=nM (x.G k);rw[← L] at f0 f1 f2 f3 f4 f5 f6 f7 d1 a5 d8 d7;have b9:=hI L;have g5:=Ja w _ f0;obtain⟨c0,c1,c2,c3,c4,c5,c6,c7⟩:=OR I f0 f1 f2 f3 f4 f5 f6 f7 g5;obtain⟨D,hD,hJ⟩:=b5;have K:k<x.l:=by have:=F.1;omega
   obtain⟨lb,lo,rfl,hc⟩:=hD k K;obtain⟨l,r⟩:=nM (x.F k);have a6:=n.2.1.2 k K;obtain⟨a1,a4,Z,a2,a0,a3,eC,b0,e1,a8,d9,a9,e0⟩:=hJ k K;rw[← r] at eC b0 e1 a8 d9 a9 e0 a6;have b6:=hI r;have b1:lb<w.heap.size:=Ja w _ (hc 0 dC);have HD:Hid (∀ w',Below _ w w'->w'.cell? _=some (.slice a1 _ a4)/\w'.cell? _=some (.slice Z _ a2)/\w'.cell? _=some (.slice a0 _ a3)):=λw' h =>
    ⟨(h.cell (p:=⟨lb,lo+_,_⟩) b1).trans (rC eC (hc 0 dC)),(h.cell b1).trans (rC eC (hc 1 dC)),(h.cell b1).trans (rC eC (hc 2 dC))⟩
   have e3:=hI a5;have e7:=hI b0;have e5:=hI a8;have e6:=hI a9;have e4:=hI a6;have a7:=F.2 k hlt;rw[← L,← r] at a7;have b7:=hI a7;have h0:=n0 k;have h1:(k:Int)<(x.l:Int):=oM;clear hD hJ hc eC L r f0 f1 f2 f3 f4 f5 f6 f7 d1 a5 d8 d7 b0 e1 a8 d9 a9 e0 a6 K a7;have J:=zd u (.cells (s,la,lc,ca,cc) 140);have v:=Jb wr (.cells (s,la,lc,ca,cc) 140);go_upto_region 6 with fail;generalize hBx:wr.heap.size=M at v ⊢;generalize wr.alloc _=X at J v ⊢;clear hBx c0 c1 c2 c3 c4 c5 c6 c7 u I;have o:=za e2 J;have c9:=zb R J;have BW:Hid (∀ w',_->Below _ w w'):=λw' h=>zb c9 h
   have KS:Hid (∀ w',Below _ X w'->(w'.cell? _=some (.int _ _)/\w'.cell? _=some (.string _)/\w'.cell? _=some (.string _)/\w'.cell? _=some (.int _ _)/\w'.cell? _=some (.int _ _)/\w'.cell? _=some (.slice la _ lc)/\w'.cell? _=some (.slice ca _ cc)/\w'.cell? _=some (.int _ _) /\
     w'.cell? _=some (.slice _ _ A)/\w'.cell? _=some (.slice m _ q) /\
     _/\_/\_)):=λw' h=>by
    have O:=za v h;have g2:=za o h;have g3:=HD w' (zb c9 h);exact⟨bC O 0,bC O 1,bC O 2,bC O 3,bC O 4,bC O 5,bC O 6,bC O 7,bC g2 1,bC g2 2,g3.1,g3.2.1,g3.2.2⟩
   obtain⟨P,hP⟩:=nM (λi=>OQ (x.u i) s.S)
   have b3:Hid (∀ w',_->Calls _ 101 _ w' λe w2=>(∃ N c,e=.returned (.slice N (Cn P _).length c)/\w2.ownsRow _ 150 13 (.slice N (Cn P _).length c) (Cn P _).length (FV C P _))/\_):=λw' h =>
    (Fo m _ q _ C s.S w' n.2.2.1 n.2.2.2 (HC.j0 h) (λj hj=>(HI.out j hj).j0 h)).mono λ_ _ ⟨⟨N,c,a,_,b⟩,d⟩=>by
     rw[hP];exact⟨⟨N,c,a,zo b h.size⟩,d⟩
   have b4:Hid (∀ w' N c,_->w'.ownsRow w 150 13 (.slice N (Cn P x.g).length c) (Cn P x.g).length (FV C P x.g)->Calls _ 100 _ w' λe w2=>qH _ e/\Below _ w' w2):=λw' N c h ho=>by
    have g4:ES s l (Cn P x.g).length (λj=>x.u (Oj P x.g j))↔CE x k:=by
     have:=gp (by rw[← b9.out,← b6.out];exact b7.out) (λi hi=>(T.2 i hi).2.2.2.2.1)
     rw[hP,b9.out,b6.out];exact this
    refine(MB s l _ _ _ la ca a1 Z a0 N lc cc a4 a2 a3 c w' (Jp (SI P _) n.2.2.1) e4.out (Na b7.2.1) (e3.j0 h) (e7.j0 h) (e5.j0 h) (e6.j0 h) (Qo.of_own ho) (λj hj=>(HI.out _ (Ok P _ j hj).1).j0 h)).mono ?_
    rintro e w2 ⟨⟨b,rfl,hb⟩,hd⟩;exact⟨⟨b,rfl,by rw[hb,g4]⟩,hd⟩
   clear hP o v;go_cut [28,45] (λi c wx=>i=int i64 k/\Kr (CE x k) c/\Below w w wx/\Below V2 V2 wx)
   case first =>
    go_region_held3 (λw'=>w'.cell? (M,0)=some (int i64 s.S)/\w'.cell? (M,1)=some (.string s.U)/\w'.cell? (M,2)=some (.string s.dst)/\w'.cell? (M,3)=some (int i64 s.O)/\w'.cell? (M,4)=some (int i64 s.T)/\w'.cell? (M,5)=some (la,s.la.n,lc)/\w'.cell? (M,6)=some (ca,s.M.n,cc)/\w'.cell? (M,7)=some (int i64 s.N) /\
      w'.cell? (w.heap.size,1)=some (some (lb,lo),x.l,A)/\w'.cell? (w.heap.size,2)=some (m,x.g,q) /\
      w'.cell? (lb,lo+k*3)=some (a1,l.r,a4)/\w'.cell? (lb,lo+k*3+1)=some (Z,l.m,a2)/\w'.cell? (lb,lo+k*3+2)=some (a0,l.t,a3))
     ((refine KS _ ?_;exact(by repeat(first|exact bZ|refine Jh ?_|refine zb ?_ E|refine zb ?_ z))))
     (first
      |(go_at_call 101;refine Jm (b3 _ (BW _ (by repeat(first | exact bZ | refine Jh ?_ | refine zb ?_ E | refine zb ?_ z)))) ?_;rintro e w4 ⟨⟨e8,c4,rfl,g0⟩,E⟩)
      |(go_at_call 100;refine Jm (b4 _ e8 c4 (BW _ (by repeat(first | exact bZ | refine Jh ?_ | refine zb ?_ E | refine zb ?_ z))) (zm (by repeat(first | exact bZ | refine Jh ?_ | refine zb ?_ z)) g0)) ?_;rintro e w5 ⟨⟨t5,rfl,d6⟩,z⟩))
    all_goals
     go_wp2;go_meet;refine⟨rfl,?_,BW _ (by repeat(first|exact bZ|refine Jh ?_|refine zb ?_ E|refine zb ?_ z)),zb J (by repeat(first|exact bZ|refine Jh ?_|refine zb ?_ E|refine zb ?_ z))⟩
     cases t5 with
     |true=>exact Ag (d6.1 rfl)
     |false=>exact Q4 (λh=>by have:=d6.2 h;cases this)
   case rest =>
    obtain⟨rfl,⟨t,rfl,ht⟩,e9,f8⟩:=hcut;have HT:=hI ht;clear ht KS BW b3 b4 HD
    cases t with
    |true =>
     have S:Hid (¬ qS x):=λh=>by have:=HT.2 (h.2.2.2.2.2 k hlt);cases this
     go_wp2;go_ret;exact⟨zh S,e9⟩
    |false =>
     have HK:=hI (HT.1 rfl);clear HT;go_wp2;go_roundw
     case rel=>exact⟨k+1,by omega,by go_num,λj hj=>by
      by_cases e:j=k
      ·subst e;exact HK
      ·exact HA j oM,f8⟩
     case measure=>simp[intOf];omega
  ·obtain rfl:k=x.i:=by omega
   have HY:Hid (qS x):=⟨b8,F.1,T.1,F.2,T.2,HA⟩;have I:=zb R u;clear HA;go_wp2;go_ret;exact⟨zN HY,I⟩
section
theorem Rj (x:zY)(b9 e6 e5:Option Addr)(e8 g6 d3:Nat)(w:World)(hs:zY.Short x 1048576)(i8:qy w b9 x.i x.G)(B:ZA w e6 x.l x.F)(i7:qL w e5 x.g x.u)(k5:x.g<=d3) :
  Calls prog 42 #[.agg #[(b9,x.i,e8),(e6,x.l,g6),(e5,x.g,d3)]] w λe w'=>qH (qS x) e/\Below w w w':=by
 have e4:=hI i8;have i3:=hI B;have h6:=hI i7;have T:=hI hs;have n1:=hs.1.1;have n2:=hs.2.1.1;have n3:=hs.2.2.1;clear i8 B i7 hs;have d4:Below _ w (w.alloc (.cells #[(b9,x.i,e8),(e6,x.l,g6),(e5,x.g,d3)] 38)):=zd bZ _;have bO:=Qc d4;go_enter func42,ntmps42;go_wp2_with fail;generalize w.alloc _=V0 at d4 bO ⊢;refine(PP b9 _ e8 _ _ n1 T.1.2 (e4.j0 d4)).mono ?_;rintro e V ⟨⟨t0,rfl,i9⟩,g7⟩;have g5:=hI i9;have a2:=za bO g7;have n:=zb d4 g7;clear i9 d4 bO g7 V0;obtain⟨z0,z1,z2⟩:=ZE a2
 cases t0 with
 |false =>
  have r:Hid (¬ qS x):=λh=>by have:=g5.2 h.1;cases this
  go_wp2;go_ret;exact⟨zh r,n⟩
 |true =>
 have i5:=hI (g5.1 rfl);clear g5
 by_cases m1:x.l=x.i
 case neg =>
  have e1:((x.l:Int) != (x.i:Int))=true:=by simp;omega
  have r:Hid (¬ qS x):=λh=>m1 h.2.1
  clear m1;go_wp2;go_ret;exact⟨zh r,n⟩
 have e1:((x.l:Int) != (x.i:Int))=false:=by simp;omega
 by_cases m2:x.g<=30
 case neg =>
  have e2:decide ((30:Int)<(x.g:Int))=true:=by simp;omega
  have r:Hid (¬ qS x):=λh=>m2 h.2.2.1
  clear m1 m2;go_wp2;go_ret;exact⟨zh r,n⟩
 have e2:decide ((30:Int)<(x.g:Int))=false:=by simp;omega
 have f:=hI m1;have I:=hI m2;clear m1;go_wp2;clear e1 e2 z0 z1 z2;go_loopw [3,4,5,37] (λ_ _ _ q wr=>∃ k,k<=x.i/\q=int i64 k/\(∀ j,j<k->qf (x.G j) (x.F j))/\Below V V wr) (λ_ _ _ q _=>x.i - (intOf q).toNat)
 case atStart=>exact⟨0,Jq _,rfl,λj hj=>by omega,bZ⟩
 case round =>
  obtain⟨k,hk,rfl,m,c⟩:=hrel;have HA:=hI m;clear m;have a:=zb n c
  by_cases hlt:k<x.i
  ·obtain⟨sb,so,la,lc,ca,cc,rfl,f0,f1,f2,f3,f4,f5,f6,f7,a5,a4,d9,d8⟩:=e4 k hlt
   obtain⟨s,O⟩:=nM (x.G k);rw[← O] at f0 f1 f2 f3 f4 f5 f6 f7 a5 a4 d9 d8;have D:=hI O;have g3:Hid (Ks s 1048576):=by rw[O];exact T.1.2 k hlt
   have h0:=Ja w _ f0;obtain⟨c0,c1,c2,c3,c4,c5,c6,c7⟩:=OR a f0 f1 f2 f3 f4 f5 f6 f7 h0;obtain⟨C,hC,hI⟩:=i3;obtain⟨lb,lo,rfl,z⟩:=hC k (by have:=f.out;omega)
   obtain⟨l,B⟩:=nM (x.F k);obtain⟨G,N,E,L,F,M,y,a8,b2,a6,b0,a7,b1⟩:=hI k (by have:=f.out;omega)
   rw[← B] at y a8 b2 a6 b0 a7 b1;have P:Hid _:=B;have S:Hid (zw.Short l 1048576):=by rw[B];exact T.2.1.2 k (by have:=f.out;omega)
   have a9:lb<w.heap.size:=Ja w _ (z 0 dC);have d0:∀ o,(wr.alloc o).cell? _=some (.slice G _ N):=λo=>((a.alloc a.size o).cell (p:=⟨lb,lo+_,_⟩) a9).trans (rC y (z 0 dC))
   have d1:∀ o,(wr.alloc o).cell? _=some (.slice E _ L):=λo=>((a.alloc a.size o).cell a9).trans (rC y (z 1 dC))
   have d2:∀ o,(wr.alloc o).cell? _=some (.slice F _ M):=λo=>((a.alloc a.size o).cell a9).trans (rC y (z 2 dC))
   have i0:Hid (zJ w la _):=a5;have g0:Hid (zJ w ca _):=a4;have g4:Hid (qx w G _ _):=a8;have g1:Hid (qn w E _ _):=a6;have g2:Hid (qC w F _ _):=a7;have q1:=b2.1;have q2:=b0.1;have q3:=b1.1;clear hC hI z y O B f0 f1 f2 f3 f4 f5 f6 f7 a5 a4 d9 d8 a8 b2 a6 b0 a7 b1;have k6:=n0 k;have k7:(k:Int)<(x.l:Int):=by have:=f.out;omega
   have z1:=aC (za a2 c) 1;go_wp2_with fail;have d:Below _ V ((wr.alloc (.cells (s,la,lc,ca,cc) 140)).alloc (.cells #[(G,l.r,N),(E,l.m,L),(F,l.t,M)] 145)):=(c.alloc c.size _).alloc (by have:=c.size;simp;omega) _
   have H:((wr.alloc _).alloc (.cells #[(G,l.r,N),(E,l.m,L),(F,l.t,M)] 145)).heap[wr.heap.size]?=some (.cells (s,la,lc,ca,cc) 140 (0,0)):=zg (Jb wr _) _;have J:=Kw H;generalize ((wr.alloc _).alloc _)=X at d H J ⊢;clear c0 c1 c2 c3 c4 c5 c6 c7 d0 d1 d2 z1 a;have a:=zb n d;have s6:=bC H 6;have s7:=bC H 7;have l1:=bC J 1;have l2:=bC J 2;refine(Oa la G _ lc _ N _ _ _ rfl g3.2.2.1 S.1 q1 (i0.j0 a) (g4.j0 a)).mono ?_;rintro e X1 ⟨⟨t1,rfl,b5⟩,g⟩;have U:=hI b5;clear b5;replace H:=za H g;replace J:=za J g;replace d:=zb d g;clear s6 s7 l1 l2 a g;have a:=zb n d;have s6:=bC H 6;have s7:=bC H 7;have l1:=bC J 1;have l2:=bC J 2
   cases t1 with
   |false =>
    have r:Hid (¬ qS x):=λh=>by have h:=h.2.2.2.1 k hlt;rw[← D.out,← P.out] at h;have:=U.2 h.1;cases this
    go_wp2;go_ret;exact⟨zh r,a⟩
   |true =>
   have j8:=hI (U.1 rfl);clear U;go_wp2_with fail;refine(Mg ca E _ cc _ L _ _ _ rfl g3.2.2.2 S.2.1 q2 (g0.j0 a) (g1.j0 a)).mono ?_;rintro e X2 ⟨⟨t2,rfl,d6⟩,g⟩;have W:=hI d6;clear d6;replace H:=za H g;replace J:=za J g;replace d:=zb d g;clear s6 s7 l1 l2 a g;have a:=zb n d;have s6:=bC H 6;have s7:=bC H 7;have l1:=bC J 1;have l2:=bC J 2
   cases t2 with
   |false =>
    have r:Hid (¬ qS x):=λh=>by have h:=h.2.2.2.1 k hlt;rw[← D.out,← P.out] at h;have:=W.2 h.2.1;cases this
    go_wp2;go_ret;exact⟨zh r,a⟩
   |true =>
   have j9:=hI (W.1 rfl);clear W;go_wp2_with fail;refine(Mz _ F _ M _ _ (by have:=S.2.2;omega) q3 (g2.j0 a)).mono ?_
   rintro e X3 ⟨⟨t3,rfl,d7⟩,g⟩;have Z:=hI d7;clear d7;replace H:=za H g;replace J:=za J g;replace d:=zb d g;clear s6 s7 l1 l2 a g;have a:=zb n d;have s6:=bC H 6;have s7:=bC H 7;have l1:=bC J 1;have l2:=bC J 2
   cases t3 with
   |false =>
    have r:Hid (¬ qS x):=λh=>by have h:=h.2.2.2.1 k hlt;rw[← D.out,← P.out] at h;have:=Z.2 h.2.2;cases this
    go_wp2;go_ret;exact⟨zh r,a⟩
   |true =>
   have k0:=hI (Z.1 rfl);clear Z;have b6:Hid (qf (x.G k) (x.F k)):=by show qf _ _;rw[← D.out,← P.out];exact⟨j8,j9,k0⟩
   clear s6 s7 l1 l2;go_wp2;go_roundw
   case rel=>exact⟨k+1,by omega,by go_num,λj hj=>by
    by_cases e:j=k
    ·subst e;exact b6
    ·exact HA j oM,d⟩
   case measure=>simp[intOf];omega
  ·obtain rfl:k=x.i:=by omega
   have h7:=hI HA;have h5:=hI c;have z2:=bC (za a2 c) 2;clear HA c a hk hlt;go_wp2;clear z2;go_loopw [6,73] (λ_ q wr=>∃ k,k<=x.g/\q=int i64 k/\(∀ j,j<k->Qr x j)/\Below V V wr) (λ_ q _=>x.g - (intOf q).toNat)
   case atStart=>exact⟨0,Jq _,rfl,λj hj=>by omega,h5⟩
   case round =>
    obtain⟨k,hk,rfl,m,c⟩:=hrel;have HA:=hI m;clear m;have a:=zb n c
    by_cases hlt:k<x.g
    ·obtain⟨C,hC,hI⟩:=h6
     obtain⟨bb,bo,rfl,_⟩:=hC k hlt;have j4:Hid (Qo wr _ _ 13 C):=hC.j0 a;have j5:Hid _:=λk hk=>(hI k hk).j0 a
     obtain⟨z0,z1,z2⟩:=ZE (za a2 c);clear hC hI;go_wp2_with fail;refine(ME x b9 e6 bb bo e8 g6 d3 k C _ hlt T (e4.j0 a) j4 j5 k5).mono ?_;rintro e X ⟨⟨t,rfl,ht⟩,d⟩;have HT:=hI ht;clear ht z0 z1 z2
     cases t with
     |false =>
      have r:Hid (¬ qS x):=λh=>by have:=HT.2 (h.2.2.2.2.1 k hlt);cases this
      go_wp2;go_ret;exact⟨zh r,zb a d⟩
     |true =>
      have HP:=hI (HT.1 rfl);clear HT;go_wp2;go_roundw
      case rel=>exact⟨k+1,by omega,by go_num,λj hj=>by
       by_cases e:j=k
       ·subst e;exact HP
       ·exact HA j oM,zb c d⟩
      case measure=>simp[intOf];omega
    ·obtain rfl:k=x.g:=by omega
     have j6:=hI HA;have j1:=hI c;have z0:=bC (za a2 c) 0;clear HA c a hk hlt h5;go_wp2;clear z0;go_loopw [7,8,9,10,11,12,14,84,95,96,97] (λ_ _ _ _ _ _ _ q _ _ _ wr=>∃ k,k<=x.i/\q=int i64 k/\(∀ j,j<k->CE x j)/\Below V V wr) (λ_ _ _ _ _ _ _ q _ _ _ _=>x.i - (intOf q).toNat)
     case atStart=>exact⟨0,Jq _,rfl,λj hj=>by omega,j1⟩
     case round =>
      obtain⟨k,hk,rfl,m,c⟩:=hrel;have HA:=hI m;clear m;have a:=zb n c
      by_cases hlt:k<x.i
      ·obtain⟨sb,so,la,lc,ca,cc,rfl,f0,f1,f2,f3,f4,f5,f6,f7,a5,a4,d9,d8⟩:=e4 k hlt
       obtain⟨s,O⟩:=nM (x.G k);rw[← O] at f0 f1 f2 f3 f4 f5 f6 f7 a5 a4 d9 d8;have D:=hI O;have g3:Hid (Ks s 1048576):=by rw[O];exact T.1.2 k hlt
       have h0:=Ja w _ f0;obtain⟨c0,c1,c2,c3,c4,c5,c6,c7⟩:=OR a f0 f1 f2 f3 f4 f5 f6 f7 h0;obtain⟨C,hC,hI⟩:=i3;obtain⟨lb,lo,rfl,z⟩:=hC k (by have:=f.out;omega)
       obtain⟨l,B⟩:=nM (x.F k);obtain⟨G,N,E,L,F,M,y,a8,b2,a6,b0,a7,b1⟩:=hI k (by have:=f.out;omega)
       rw[← B] at y a8 b2 a6 b0 a7 b1;have P:Hid _:=B;have S:Hid (zw.Short l 1048576):=by rw[B];exact T.2.1.2 k (by have:=f.out;omega)
       have a9:lb<w.heap.size:=Ja w _ (z 0 dC);have d0:∀ o,(wr.alloc o).cell? _=some (.slice G _ N):=λo=>((a.alloc a.size o).cell (p:=⟨lb,lo+_,_⟩) a9).trans (rC y (z 0 dC))
       have d1:∀ o,(wr.alloc o).cell? _=some (.slice E _ L):=λo=>((a.alloc a.size o).cell a9).trans (rC y (z 1 dC))
       have d2:∀ o,(wr.alloc o).cell? _=some (.slice F _ M):=λo=>((a.alloc a.size o).cell a9).trans (rC y (z 2 dC))
       have i0:Hid (zJ w la _):=a5;have g0:Hid (zJ w ca _):=a4;have g4:Hid (qx w G _ _):=a8;have g1:Hid (qn w E _ _):=a6;have g2:Hid (qC w F _ _):=a7;have q1:=b2.1;have q2:=b0.1;have q3:=b1.1;clear hC hI z y O B f0 f1 f2 f3 f4 f5 f6 f7 a5 a4 d9 d8 a8 b2 a6 b0 a7 b1;have b6:=h7 k hlt;rw[← D.out,← P.out] at b6;have j3:=hI (λj hj=>Na b6.2.1 j hj)
       clear b6;have k6:=n0 k;have k7:(k:Int)<(x.l:Int):=by have:=f.out;omega
       have z1:=aC (za a2 c) 1;have z2:∀ o p,((wr.alloc o).alloc p).cell? _=some (.slice e5 _ d3):=λo p=>zf (zg (zg (za a2 c) o) p) 2 _ rfl
       go_wp2;have d:Below _ V ((wr.alloc (.cells (s,la,lc,ca,cc) 140)).alloc (.cells #[(G,l.r,N),(E,l.m,L),(F,l.t,M)] 145)):=(c.alloc c.size _).alloc (by have:=c.size;simp;omega) _
       have H:((wr.alloc _).alloc (.cells #[(G,l.r,N),(E,l.m,L),(F,l.t,M)] 145)).heap[wr.heap.size]?=some (.cells (s,la,lc,ca,cc) 140 (0,0)):=zg (Jb wr _) _;have J:=Kw H;generalize ((wr.alloc _).alloc _)=X at d H J ⊢;generalize wr.heap.size=m8 at H J ⊢;clear c0 c1 c2 c3 c4 c5 c6 c7 d0 d1 d2 z1 z2 a c;go_loopw [10,11,12,14,97] (λk9 l3 l4 _ q wq=>∃ (i:Nat),i<=x.g/\q=int i64 i/\k9=int i64 (EW (λi=>On x k i/\0<(x.u i).f) i:Nat)/\l3=int i64 (EW (λi=>On x k i/\0<(x.u i).w) i:Nat)/\l4=int i64 (EW (On x k) i:Nat)/\(∀ j,j<i->On x k j->CD s l (x.u j))/\Below X X wq) (λ_ _ _ _ q _=>x.g - (intOf q).toNat)
       case atStart=>exact⟨0,Jq _,rfl,rfl,rfl,rfl,λj hj=>by omega,bZ⟩
       case round =>
        obtain⟨i,hi,rfl,rfl,rfl,rfl,m,c⟩:=hrel;have HW:=hI m;clear m;have a:=zb (zb n d) c;obtain⟨m0,e9⟩:=nM (EW (λi=>On x k i/\0<(x.u i).f) i)
        have l8:m0<=i:=by rw[e9];exact Hi _ _
        have Q:=hI e9;rw[← e9];clear e9;obtain⟨m1,f8⟩:=nM (EW (λi=>On x k i/\0<(x.u i).w) i)
        have l9:m1<=i:=by rw[f8];exact Hi _ _
        have f:=hI f8;rw[← f8];clear f8;obtain⟨m2,f9⟩:=nM (EW (On x k) i);have m3:m2<=i:=by rw[f9];exact Hi _ _
        have I:=hI f9;rw[← f9];clear f9
        by_cases hlt2:i<x.g
        ·obtain⟨C,hC,hI⟩:=h6
         obtain⟨bb,bo,rfl,z⟩:=hC i hlt2;obtain⟨a1,b4,y,g8,j0⟩:=hI i hlt2;obtain⟨b,hb⟩:=nM (x.u i);rw[← hb] at y g8 j0;have v:Hid _:=hb;have j7:Hid (zS w a1 _ _):=g8;have j2:Hid (zA.Short b 1048576):=by rw[hb];exact T.2.2.2 i hlt2
         have A:bb<w.heap.size:=Ja w _ (z 0 dC);have c0:wr.cell? _=some (.int _ _):=(a.cell (p:=⟨bb,bo+_,_⟩) A).trans (rC y (z 0 dC));have c1:wr.cell? _=some (.int _ _):=(a.cell A).trans (rC y (z 1 dC));have c2:wr.cell? _=some (.string _):=(a.cell A).trans (rC y (z 2 dC));have c3:wr.cell? _=some (.slice a1 _ b4):=(a.cell A).trans (rC y (z 3 dC));have c4:wr.cell? _=some (.int _ _):=(a.cell A).trans (rC y (z 4 dC));have c5:wr.cell? _=some (.int _ _):=(a.cell A).trans (rC y (z 5 dC));have c6:wr.cell? _=some (.int _ _):=(a.cell A).trans (rC y (z 6 dC));have c7:wr.cell? _=some (.int _ _):=(a.cell A).trans (rC y (z 7 dC));have c8:wr.cell? _=some (.bool _):=(a.cell A).trans (rC y (z 8 dC));have c9:wr.cell? _=some (.int _ _):=(a.cell A).trans (rC y (z 9 dC));have k2:wr.cell? _=some (.int _ _):=(a.cell A).trans (rC y (z 10 dC));have k3:wr.cell? _=some (.int _ _):=(a.cell A).trans (rC y (z 11 dC));have k4:wr.cell? _=some (.int _ _):=(a.cell A).trans (rC y (z 12 dC));clear hC hI z y hb g8 j0;go_wp2_with fail;have bB:=Jb wr (.cells (b,a1,b4) 150);have g:Below _ X (wr.alloc (.cells (b,a1,b4) 150)):=zd c _;generalize wr.alloc _=Y at bB g ⊢;generalize wr.heap.size=m7 at bB ⊢;clear c0 c1 c2 c3 c4 c5 c6 c7 c8 c9 k2 k3 k4 c a;refine bM (Gl b a1 b4 _) λY1 a3=>?_
         have e7:=za bB a3;have u:=zb g a3;clear bB g a3;obtain⟨t1,b5⟩:=nM (decide (CB b));rw[← b5];have U:Hid (t1=true↔CB b):=by show _↔_;rw[b5,decide_eq_true_eq]
         clear b5
         cases t1 with
         |false =>
          have r:Hid (¬ On x k i):=λh=>by unfold On at h;rw[← v.out,← D.out] at h;have:=U.2 h.1;cases this
          go_wp2;go_roundw
          case rel=>exact⟨i+1,by omega,by go_num,by rw[QG (λh=>r.out h.1),← Q.out],by rw[QG (λh=>r.out h.1),← f.out],by rw[QG r.out,← I.out],λj hj ho=>by
           by_cases e:j=i
           ·subst e;exact absurd ho r
           ·exact HW j oM ho,u⟩
          case measure=>simp[intOf];omega
         |true =>
          have i4:=hI (U.1 rfl);clear U;have y3:=bC e7 3;have s0:=bC (za H u) 0;go_wp2_with fail;refine(Nq a1 _ b4 _ _ _ j2.2 (j7.j0 (zb (zb n d) u))).mono ?_;rintro e Y2 ⟨⟨t2,rfl,d6⟩,g9⟩;have g9:=g9.symm;subst g9;have W:Hid (_↔Sa b _):=d6;clear d6 y3 s0
          cases t2 with
          |false =>
           have r:Hid (¬ On x k i):=λh=>by unfold On at h;rw[← v.out,← D.out] at h;have:=W.2 h.2;cases this
           go_wp2;go_roundw
           case rel=>exact⟨i+1,by omega,by go_num,by rw[QG (λh=>r.out h.1),← Q.out],by rw[QG (λh=>r.out h.1),← f.out],by rw[QG r.out,← I.out],λj hj ho=>by
            by_cases e:j=i
            ·subst e;exact absurd ho r
            ·exact HW j oM ho,u⟩
           case measure=>simp[intOf];omega
          |true =>
           have K:Hid (On x k i):=by show On x k i;unfold On;rw[← v.out,← D.out];exact⟨i4,W.1 rfl⟩
           clear W i4;obtain⟨y0,y1,y2,y3,y4,y5,y6,y7,y8,y9,l5,l6,l7⟩:=Cl e7;obtain⟨s0,s1,s2,s3,s4,s5,s6,s7⟩:=ju (za H u);obtain⟨l0,l1,l2⟩:=ZE (za J u);have d5:=zb (zb n d) u;go_wp2_with fail;refine(Oo s la ca lc cc l G E F N L M b a1 b4 _ S.1 S.2.1 S.2.2 (g0.j0 d5) (g4.j0 d5) (g1.j0 d5) (g2.j0 d5) j3).mono ?_;rintro e Y3 ⟨⟨t3,rfl,d7⟩,a3⟩;have Z:=hI d7;have i6:=za e7 a3;have R:=zb u a3;clear d7 y0 y1 y2 y3 y4 y5 y6 y7 y8 y9 l5 l6 l7 s0 s1 s2 s3 s4 s5 s6 s7 l0 l1 l2 e7 u a3 d5
           cases t3 with
           |false =>
            have r:Hid (¬ qS x):=λh=>by have h:=(h.2.2.2.2.2 k hlt).1 i hlt2 K;rw[← v.out,← D.out,← P.out] at h;have:=Z.2 h;cases this
            go_wp2;go_ret;exact⟨zh r,zb (zb n d) R⟩
           |true =>
            have b3:Hid (CD s l (x.u i)):=by show CD s l _;rw[← v.out];exact Z.1 rfl
            clear Z;have y5:=bC i6 5;have y7:=bC i6 7;have m4:IntKind.i64.wrap ((m0:Int)+1)=(m0:Int)+1:=by rw[Jk];omega
            have m5:IntKind.i64.wrap ((m1:Int)+1)=(m1:Int)+1:=by rw[Jk];omega
            have m6:IntKind.i64.wrap ((m2:Int)+1)=(m2:Int)+1:=by rw[Jk];omega
            by_cases u1:0<b.f
            ·have k8:=Jd u1
             have b8:=hI u1;clear u1
             by_cases u2:0<b.w
             ·have h4:=Jd u2
              have a0:=hI u2;clear u2;go_wp2;go_roundw
              case rel=>exact⟨i+1,by omega,by go_num,by rw[Qs ⟨K.out,by rw[← v.out];exact b8.out⟩,← Q.out];simp,by rw[Qs ⟨K.out,by rw[← v.out];exact a0.out⟩,← f.out];simp,by rw[Qs K.out,← I.out];simp,λj hj ho=>by
               by_cases e:j=i
               ·subst e;exact b3
               ·exact HW j oM ho,R⟩
              case measure=>simp[intOf];omega
             ·have h4:=Jc u2
              have a0:=hI u2;clear u2;go_wp2;go_roundw
              case rel=>exact⟨i+1,by omega,by go_num,by rw[Qs ⟨K.out,by rw[← v.out];exact b8.out⟩,← Q.out];simp,by rw[QG (λh=>by have h1:=h.2;rw[← v.out] at h1;have h2:=a0.out;omega),← f.out],by rw[Qs K.out,← I.out];simp,λj hj ho=>by
               by_cases e:j=i
               ·subst e;exact b3
               ·exact HW j oM ho,R⟩
              case measure=>simp[intOf];omega
            ·have k8:=Jc u1
             have b8:=hI u1;clear u1
             by_cases u2:0<b.w
             ·have h4:=Jd u2
              have a0:=hI u2;clear u2;go_wp2;go_roundw
              case rel=>exact⟨i+1,by omega,by go_num,by rw[QG (λh=>by have h1:=h.2;rw[← v.out] at h1;have h2:=b8.out;omega),← Q.out],by rw[Qs ⟨K.out,by rw[← v.out];exact a0.out⟩,← f.out];simp,by rw[Qs K.out,← I.out];simp,λj hj ho=>by
               by_cases e:j=i
               ·subst e;exact b3
               ·exact HW j oM ho,R⟩
              case measure=>simp[intOf];omega
             ·have h4:=Jc u2
              have a0:=hI u2;clear u2;go_wp2;go_roundw
              case rel=>exact⟨i+1,by omega,by go_num,by rw[QG (λh=>by have h1:=h.2;rw[← v.out] at h1;have h2:=b8.out;omega),← Q.out],by rw[QG (λh=>by have h1:=h.2;rw[← v.out] at h1;have h2:=a0.out;omega),← f.out],by rw[Qs K.out,← I.out];simp,λj hj ho=>by
               by_cases e:j=i
               ·subst e;exact b3
               ·exact HW j oM ho,R⟩
              case measure=>simp[intOf];omega
        ·obtain rfl:i=x.g:=by omega
         obtain⟨l0,l1,l2⟩:=ZE (za J c);have b7:Hid (CE x k↔l.r=m0/\l.m=m1/\l.t=m2):=by
          show _↔_
          unfold CE;rw[← D.out,← P.out,Q.out,f.out,I.out];exact⟨λh=>h.2,λh=>⟨HW,h⟩⟩
         have e0:=hI (zb d c);clear c Q f I HW
         by_cases v1:l.r=m0
         case neg =>
          have e1:((l.r:Int) != (m0:Int))=true:=by simp;omega
          have r:Hid (¬ qS x):=λh=>v1 (b7.1 (h.2.2.2.2.2 k hlt)).1
          clear v1;go_wp2;go_ret;exact⟨zh r,zb n e0⟩
         have e1:((l.r:Int) != (m0:Int))=false:=by simp;omega
         by_cases v2:l.m=m1
         case neg =>
          have e2:((l.m:Int) != (m1:Int))=true:=by simp;omega
          have r:Hid (¬ qS x):=λh=>v2 (b7.1 (h.2.2.2.2.2 k hlt)).2.1
          clear v1 v2;go_wp2;go_ret;exact⟨zh r,zb n e0⟩
         have e2:((l.m:Int) != (m1:Int))=false:=by simp;omega
         by_cases v3:l.t=m2
         case neg =>
          have e3:((l.t:Int) != (m2:Int))=true:=by simp;omega
          have r:Hid (¬ qS x):=λh=>v3 (b7.1 (h.2.2.2.2.2 k hlt)).2.2
          clear v1 v2 v3;go_wp2;go_ret;exact⟨zh r,zb n e0⟩
         have e3:((l.t:Int) != (m2:Int))=false:=by simp;omega
         have k1:=hI (b7.2 ⟨v1,v2,v3⟩);clear v1 v2 v3 b7;go_wp2;go_roundw
         case rel=>exact⟨k+1,by omega,by go_num,λj hj=>by
          by_cases e:j=k
          ·subst e;exact k1
          ·exact HA j oM,e0⟩
         case measure=>simp[intOf];omega
      ·obtain rfl:k=x.i:=by omega
       have HY:Hid (qS x):=⟨i5,f,I,h7,j6,HA⟩;clear HA;go_wp2;go_ret;exact⟨zN HY,a⟩
open Classical in
noncomputable instance (x:zY):Decidable (qS x):=propDecidable _
end
end Go.Proofs.YtmdnjgihooflfaaGreatDoor
