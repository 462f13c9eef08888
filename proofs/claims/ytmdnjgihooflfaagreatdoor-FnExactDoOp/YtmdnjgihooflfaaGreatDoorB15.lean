import Derived.Test.YtmdnjgihooflfaaGreatDoorB09
import Derived.Test.YtmdnjgihooflfaaGreatDoorB07
import Derived.Test.YtmdnjgihooflfaaGreatDoorB08
namespace Go.Proofs.YtmdnjgihooflfaaGreatDoor
open Go.RowKit
open Go.Value (int)
open Go.IntKind (i64)
open _root_.Go.Proofs.Tryz
set_option maxHeartbeats 64000000
set_option maxRecDepth 1000000
variable{w:World}{g t:Nat}{u0 u1 u2:Value}
section
structure RU (w u:World)(g f:Nat)(y:qD)(d:Option Addr)(e:Nat)(h:Option (Option Addr × Nat))(i:Option Nat):Prop where
 o:Below w w u
 rl:w.heap.size<=f
 ban:Zn w
 Q:Zp w
 pok:QO ⟨y.v,y.f,y.j,y.w,y.h,y.x⟩ y.c
 j4:zS w d y.c y.J
 box:u.heap[g]?=some (.cells (y,d,e) 47 (0,0))
 j3:u.heap[f]?=some (.cells #[(),(),False,True,(),(),(),(),.bool false,(),(),(),()] 150 (0,0))
 h1:∀ a c,h=some (a,c)->u.ownsRow w 3 1 (a,y.c,c) y.c (qp y.J y.c)
 h2:∀ b,i=some b->w.heap.size<=b/\b≠f/\u.heap[b]?=some (.cells #[(),(),False,True,(),(),(),(),.bool false,(),(),(),()] 150 (0,0))
section
variable {w u : World} {ob rb : Nat} {y : qD} {alg : Option Addr} {clg : Nat} {p1 : Option (Option Addr × Nat)} {p2 : Option Nat}
theorem RU.s (h:RU w u ob rb y alg clg p1 p2):u.cell? (ob,0)=some (int i64 y.d)/\u.cell? (ob,1)=some (.string y.j1)/\u.cell? (ob,2)=some (int i64 y.k)/\u.cell? (ob,3)=some (alg,y.c,clg)/\u.cell? (ob,4)=some (int i64 y.v)/\u.cell? (ob,5)=some (int i64 y.f)/\u.cell? (ob,6)=some (int i64 y.j)/\u.cell? (ob,7)=some (int i64 y.w)/\u.cell? (ob,8)=some (.bool y.h)/\u.cell? (ob,9)=some (int i64 y.x)/\u.cell? (ob,10)=some (int i64 y.y)/\u.cell? (ob,11)=some (int i64 y.D):=⟨bC h.box 0,bC h.box 1,bC h.box 2,bC h.box 3,bC h.box 4,bC h.box 5,bC h.box 6,bC h.box 7,bC h.box 8,bC h.box 9,bC h.box 10,bC h.box 11⟩
theorem RU.j0 {f:World}(h:RU w u ob rb y alg clg p1 p2)(d:Below u u f):RU w f ob rb y alg clg p1 p2:=⟨zb h.o d,h.rl,h.ban,h.Q,h.pok,h.j4,za h.box d,za h.j3 d,λa c e=>zm d (h.h1 a c e),λb e=>⟨(h.h2 b e).1,(h.h2 b e).2.1,za (h.h2 b e).2.2 d⟩⟩
theorem RU.c1 (h:RU w u ob rb y alg clg none p2):Calls prog 212 #[(alg,y.c,clg)] u λe f=>∃ a c,e=.returned (a,y.c,c)/\Hid (RU w f ob rb y alg clg (some (a,c)) p2):=by
 have h1:=h.pok.2;have hn:1<=y.c/\y.c<=3:=by unfold In at h1;omega
 obtain⟨b,o,g,_⟩:=h.j4 0 oM;subst g;have j:=h.j4;refine(Hd (b,o) y.c clg y.J u oM (j.j0 h.o)).mono ?_;rintro e f ⟨⟨v,rfl,d⟩,i⟩;obtain⟨a,c,rfl,_⟩:=zn d;have k:=h.j0 i;exact⟨a,c,rfl,k.o,k.rl,k.ban,k.Q,k.pok,k.j4,k.box,k.j3,λa' c' e=>(by cases e;exact zo d h.o.size),k.h2⟩
theorem RU.c2 (h:RU w u ob rb y alg clg p1 p2):Calls prog 202 #[.agg (y,alg,clg)] u λe c=>e=.returned (zP ⟨y.v,y.f,y.j,y.w,y.h,y.x⟩ y.c)/\Hid (RU w c ob rb y alg clg p1 p2) :=
 (Dv y alg clg u (h.ban.j0 h.o) (h.Q.j0 h.o) h.pok).mono λ_ _ ⟨a,b⟩=>⟨a,h.j0 b⟩
theorem RU.al (h:RU w u ob rb y alg clg p1 none):RU w (u.alloc (.cells #[(),(),False,True,(),(),(),(),.bool false,(),(),(),()] 150)) ob rb y alg clg p1 (some u.heap.size):=by
 have k:=h.j0 (zd (Ji _ u) (.cells #[(),(),False,True,(),(),(),(),.bool false,(),(),(),()] 150));exact⟨k.o,k.rl,k.ban,k.Q,k.pok,k.j4,k.box,k.j3,k.h1,λb e=>(by cases e;exact⟨h.o.size,λe=>by have:=zD h.j3;omega,Jb u _⟩)⟩
end
theorem KR (nm f:Int)(y:qD)(l:Option Addr)(n:Nat)(w:World)(hB:Zn w)(o:Zp w)(hp:QO ⟨y.v,y.f,y.j,y.w,y.h,y.x⟩ y.c)(O:zS w l y.c y.J)(st:Int)(T:(y.d=2->st=1)/\(y.d≠2->st=2)) :
  Calls prog 203 #[nm,f,.agg (y,l,n)] w λe w'=>(∃ la j,e=.returned (.agg #[nm,f,y.j1,.slice la y.c j,y.v,y.f,y.j,y.w,y.h,y.x,st,y.y,(zP ⟨y.v,y.f,y.j,y.w,y.h,y.x⟩ y.c)])/\w'.ownsRow w 3 1 (.slice la y.c j) y.c (qp y.J y.c))/\Below w w w':=by
 have c:Hid (RU w ((w.alloc (.cells (y,l,n) 47)).alloc (.cells #[(),(),False,True,(),(),(),(),.bool false,(),(),(),()] 150)).drew w.heap.size (w.heap.size+1) y l n none none) :=
  ⟨(zd (zd bZ _) _).drew,by omega,hB,o,hp,O,zK (zg (Jb w _) _),zK (by simpa using Jb (w.alloc (.cells (y,l,n) 47)) _),λ_ _ e=>(by cases e),λ_ e=>(by cases e)⟩
 have S:Hid ((y.d=2->st=1)/\(y.d≠2->st=2)):=T;clear hB o hp O T;go_enter func203,ntmps203;go_upto_region 1 with fail;go_cut [7] (λs7 U=>∃ nb la j,s7=.pointer (some ⟨nb,0,none⟩)/\w.heap.size<=nb/\nb≠w.heap.size+1/\nb≠w.heap.size/\Hid (U.heap[nb]?=some (.cells #[nm,f,y.j1,.slice la y.c j,y.v,y.f,y.j,y.w,y.h,y.x,int i64 2,y.y,(zP ⟨y.v,y.f,y.j,y.w,y.h,y.x⟩ y.c)] 150 (0,0)))/\Hid (U.heap[w.heap.size]?=some (.cells (y,l,n) 47 (0,0)))/\Hid (U.heap[w.heap.size+1]?=some (.cells #[int i64 0,int i64 0,.string ⟨#[]⟩,.slice none 0 0,int i64 0,int i64 0,int i64 0,int i64 0,.bool false,int i64 0,int i64 0,int i64 0,int i64 0] 150 (0,0)))/\Hid (U.ownsRow w 3 1 (.slice la y.c j) y.c (qp y.J y.c))/\Below w w U)
 case first =>
  refine qt 16 16 (λu=>u.cell? (w.heap.size,0)=some (int i64 y.d)/\u.cell? (w.heap.size,1)=some (.string y.j1)/\u.cell? (w.heap.size,2)=some (int i64 y.k)/\u.cell? (w.heap.size,3)=some (l,y.c,n)/\u.cell? (w.heap.size,4)=some (int i64 y.v)/\u.cell? (w.heap.size,5)=some (int i64 y.f)/\u.cell? (w.heap.size,6)=some (int i64 y.j)/\u.cell? (w.heap.size,7)=some (int i64 y.w)/\u.cell? (w.heap.size,8)=some (.bool y.h)/\u.cell? (w.heap.size,9)=some (int i64 y.x)/\u.cell? (w.heap.size,10)=some (int i64 y.y)/\u.cell? (w.heap.size,11)=some (int i64 y.D)) rfl kR c.s (λq=>?_)
  simp only[List.replicate_succ,List.replicate_zero];generalize ((w.alloc (.cells (y,l,n) 47)).alloc (.cells #[(),(),False,True,(),(),(),(),.bool false,(),(),(),()] 150)).drew=u0 at c q ⊢
  iterate 6 refine QD 0 ?_
  iterate 5 refine QD 7 ?_
  refine eq 6 14 (λK i=>?_) λK i=>?_
  focus
   go_simp;go_at_call 212;refine Jm (c.c1) ?_;rintro e u1 ⟨la,j,rfl,c⟩;dsimp only;refine i _ _ c.s (λq=>?_)
   clear i K;refine eq 12 14 (λK i=>?_) λK i=>?_
   focus
    go_simp;go_at_call 202;refine Jm (c.c2) ?_;rintro e u2 ⟨rfl,c⟩;dsimp only;refine i _ _ c.s (λq=>?_)
    clear i K;refine QD 13 ?_;refine Ay 14 λK i=>?_
    focus
     go_simp;replace c:Hid _:=c.al;refine i _ _ c.s (λq=>?_)
     clear i K;generalize u2.alloc (.cells #[(),(),False,True,(),(),(),(),.bool false,(),(),(),()] 150)=u3 at c q ⊢;generalize u2.heap.size=nb at c ⊢
   rotate_left 1
   focus
    go_simp;replace c:Hid _:=c.al;refine i _ _ c.s (λq=>?_)
    clear i K;generalize u1.alloc (.cells #[(),(),False,True,(),(),(),(),.bool false,(),(),(),()] 150)=u2 at c q ⊢;generalize u1.heap.size=nb at c ⊢;refine Ay 12 λK i=>?_
    focus
     go_simp;go_at_call 202;refine Jm (c.c2) ?_;rintro e u3 ⟨rfl,c⟩;dsimp only;refine i _ _ c.s (λq=>?_)
     clear i K;refine QD 13 ?_
  rotate_left 2
  focus
   go_simp;replace c:Hid _:=c.al;refine i _ _ c.s (λq=>?_)
   clear i K;generalize u0.alloc (.cells #[(),(),False,True,(),(),(),(),.bool false,(),(),(),()] 150)=u1 at c q ⊢;generalize u0.heap.size=nb at c ⊢;refine Ay 6 λK i=>?_
   focus
    go_simp;go_at_call 212;refine Jm (c.c1) ?_;rintro e u2 ⟨la,j,rfl,c⟩;dsimp only;refine i _ _ c.s (λq=>?_)
    clear i K;refine Ay 12 λK i=>?_
    focus
     go_simp;go_at_call 202;refine Jm (c.c2) ?_;rintro e u3 ⟨rfl,c⟩;dsimp only;refine i _ _ c.s (λq=>?_)
     clear i K;refine QD 13 ?_
  all_goals
   obtain⟨z,A,V⟩:=c.h2 nb rfl;have B:Hid _:=V;have L:nb≠w.heap.size:=λe=>by have h:=c.box;rw[← e,V] at h;simp at h
   have D:Hid _:=He u3 nb nm f y.j1 (la,y.c,j) y.v y.f y.j y.w y.h y.x (int i64 2) y.y (zP ⟨y.v,y.f,y.j,y.w,y.h,y.x⟩ y.c);have R:Hid _:=KO V nm f y.j1 (la,y.c,j) y.v y.f y.j y.w y.h y.x (int i64 2) y.y (zP ⟨y.v,y.f,y.j,y.w,y.h,y.x⟩ y.c);have Y:Hid _:=KQ c.o z nm f y.j1 (la,y.c,j) y.v y.f y.j y.w y.h y.x (int i64 2) y.y (zP ⟨y.v,y.f,y.j,y.w,y.h,y.x⟩ y.c);obtain⟨q0,q1,q2,q3,q4,q5,q6,q7,q8,q9,N,a3,a4⟩:=Cl B;obtain⟨g0,g1,g2,g3,g4,g5,g6,g7,g8,g9,G,a1,a2⟩:=jv B;refine Ay 15 λK i=>?_
   go_simp;have d:Hid _:=D.blk c.box (show ¬ w.heap.size=nb from λe=>L e.symm)
   have X:Hid _:=D.blk c.j3 (show ¬ w.heap.size+1=nb from λe=>A e.symm)
   have a0:Hid _:=D.j1 (c.h1 la j rfl) (λg h1 h2=>zQ (c.h1 la j rfl) B dC g h1 h2)
   refine i _ _ ⟨bC d 0,bC d 1,bC d 2,bC d 3,bC d 4,bC d 5,bC d 6,bC d 7,bC d 8,bC d 9,bC d 10,bC d 11⟩ (λq=>?_)
   clear i K q0 g0 q1 g1 q2 g2 q3 g3 q4 g4 q5 g5 q6 g6 q7 g7 q8 g8 q9 g9 N G a3 a1 a4 a2 V;refine qh kR ?_ _;go_wp2;go_meet;exact⟨nb,la,j,rfl,z,A,L,R,d,X,a0,Y⟩
 case rest =>
 clear c;obtain⟨nb,la,j,rfl,z,A,L,E,HO,c,Q,x⟩:=hcut;have y0:=bC HO 0
 by_cases k2:y.d=2
 ·have d2:(y.d == 2)=true:=by simpa using k2
  have C:Hid (st=1):=S.1 k2;clear k2;have N:=bC E 10;have G:=zc E 10;have I:zl wc (wc.setCell (nb,10) (int i64 1)) (λb=>b=nb):=(zl.refl wc (λb=>b=nb)).set (a:=(nb,10)) rfl _
  have s:(wc.setCell (nb,10) (int i64 1)).heap[nb]?=some (.cells #[nm,f,y.j1,(la,y.c,j),y.v,y.f,y.j,y.w,y.h,y.x,int i64 1,y.y,(zP ⟨y.v,y.f,y.j,y.w,y.h,y.x⟩ y.c)] 150 (0,0)):=by simpa using zk E 10 (int i64 1)
  have m:=I.blk c (show ¬ w.heap.size+1=nb from λe=>A e.symm)
  have r:=I.j1 Q (λg h1 h2=>zQ Q E dC g h1 h2)
  have t:=x.setCell (p:=(nb,10)) z (int i64 1);go_upto_region 4 with fail;generalize wc.setCell (nb,10) (int i64 1)=W at s m r t ⊢;clear N G I E c Q x HO y0;refine wp_region_lit ?_;refine wpList_load_row rfl _ _ rfl nb rfl _ _ (0,0) _ s underlying150 rfl Tryz.sizeBk ?_;refine wpList_store_row rfl _ _ _ rfl (w.heap.size+1) _ rfl rfl _ _ m Tryz.sizeBk rfl (by simp[Value.oneCell']) ?_
  obtain⟨F,o⟩:=nM (W.setRow (w.heap.size+1) #[nm,f,y.j1,(la,y.c,j),y.v,y.f,y.j,y.w,y.h,y.x,int i64 1,y.y,(zP ⟨y.v,y.f,y.j,y.w,y.h,y.x⟩ y.c)]);have RF:F.heap[w.heap.size+1]?=some (.cells #[nm,f,y.j1,(la,y.c,j),y.v,y.f,y.j,y.w,y.h,y.x,int i64 1,y.y,(zP ⟨y.v,y.f,y.j,y.w,y.h,y.x⟩ y.c)] 150 (0,0)):=by rw[o];exact setRow_heap _ _ _ _ _ _ m
  have Z:Below w w F:=by rw[o];exact below_setRow t oM _
  have M:F.ownsRow w 3 1 (la,y.c,j) y.c (qp y.J y.c):=by
   have H:zl W F (λb=>b=w.heap.size+1):=by rw[o];exact⟨rfl,rfl,rfl,(below_setRow (Ji 0 W) (Jq _) _).size,λk _ J=>setRow_other _ _ _ _ J⟩
   exact H.j1 r (λg h1 h2=>zQ r m dC g h1 h2)
  rw[← o];clear o;have O:=run_loadVar_row (P:=prog) F (w.heap.size+1) 150 150 _ (0,0) _ RF underlying150 rfl Tryz.sizeBk;go_wp2;exact Jj (v:=.agg #[nm,f,y.j1,(la,y.c,j),y.v,y.f,y.j,y.w,y.h,y.x,int i64 1,y.y,(zP ⟨y.v,y.f,y.j,y.w,y.h,y.x⟩ y.c)]) (QP results203 rfl O) rfl ⟨⟨la,j,by rw[C.out],M⟩,Z⟩
 ·have d2:(y.d == 2)=false:=by simpa using k2
  have C:Hid (st=2):=S.2 k2;clear k2;have s:=E;have m:=c;have r:=Q;have t:=x;go_upto_region 4 with fail;clear E c Q x HO y0;refine wp_region_lit ?_;refine wpList_load_row rfl _ _ rfl nb rfl _ _ (0,0) _ s underlying150 rfl Tryz.sizeBk ?_;refine wpList_store_row rfl _ _ _ rfl (w.heap.size+1) _ rfl rfl _ _ m Tryz.sizeBk rfl (by simp[Value.oneCell']) ?_
  obtain⟨F,o⟩:=nM (wc.setRow (w.heap.size+1) #[nm,f,y.j1,(la,y.c,j),y.v,y.f,y.j,y.w,y.h,y.x,int i64 2,y.y,(zP ⟨y.v,y.f,y.j,y.w,y.h,y.x⟩ y.c)]);have RF:F.heap[w.heap.size+1]?=some (.cells #[nm,f,y.j1,(la,y.c,j),y.v,y.f,y.j,y.w,y.h,y.x,int i64 2,y.y,(zP ⟨y.v,y.f,y.j,y.w,y.h,y.x⟩ y.c)] 150 (0,0)):=by rw[o];exact setRow_heap _ _ _ _ _ _ m
  have Z:Below w w F:=by rw[o];exact below_setRow t oM _
  have M:F.ownsRow w 3 1 (la,y.c,j) y.c (qp y.J y.c):=by
   have H:zl wc F (λb=>b=w.heap.size+1):=by rw[o];exact⟨rfl,rfl,rfl,(below_setRow (Ji 0 wc) (Jq _) _).size,λk _ J=>setRow_other _ _ _ _ J⟩
   exact H.j1 r (λg h1 h2=>zQ r m dC g h1 h2)
  rw[← o];clear o;have O:=run_loadVar_row (P:=prog) F (w.heap.size+1) 150 150 _ (0,0) _ RF underlying150 rfl Tryz.sizeBk;go_wp2;exact Jj (v:=.agg #[nm,f,y.j1,(la,y.c,j),y.v,y.f,y.j,y.w,y.h,y.x,int i64 2,y.y,(zP ⟨y.v,y.f,y.j,y.w,y.h,y.x⟩ y.c)]) (QP results203 rfl O) rfl ⟨⟨la,j,by rw[C.out],M⟩,Z⟩
end
section
theorem Sm (S:Nat->qO)(n:Nat)(x many:Int):Z0 (Z2 S n x many) (n+1)=Z0 S n+many:=by
 unfold Z2;rw[Z0,Gg n (λj a=>Dk a),Ev]
section
variable {s : qe} {v : Wk} {l : zw} {w' : World} {base t : Nat} {e : Ending}
theorem mj (g:qf s l)(hr:v.j3=0)(f:v.E=false)(n:In v.e 1 9999)(d:Ce v.p.f v.p.j)(j:¬ Qh (Zm l.K) l.r v.e)(h:GG w' base t s.la l.r l.K v.e v.p.f v.p.j e) :
  (∃ (k:Nat) (u:Value),e=.returned (.tuple #[u,(k:Int),.bool true])/\qE s v l 0 (l.k2 ⟨v.e,(k:Int),v.p.f,v.p.j⟩)/\w'.ownsRow base t 4 u (l.r+1) (zH (l.k2 ⟨v.e,(k:Int),v.p.f,v.p.j⟩).K (l.r+1))) ∨
  (∃ (u:Value) (z:Int),e=.returned (.tuple #[u,z,.bool false])/\qE s v l 5 l/\w'.ownsRow base t 4 u 0 []):=by
 obtain⟨u,rfl,a⟩:=h;have i:=(QQ _ _ _).1 g.1
 cases hp:BZ s.la l.r l.K v.e v.p.f v.p.j with
 |some k =>
  have b:=NV hp;unfold AJ GF Ea Ld at *;unfold AJ at a;rw[hp] at a ⊢;exact .inl ⟨k,u,rfl,.addStay k hr f (.inl ⟨k,rfl,b.2.1,b.2.2.2.2.2.2⟩),a⟩
 |none =>
  unfold AJ GF Ea Ld at *;unfold AJ at a;rw[hp] at a ⊢;refine .inr ⟨u,0,rfl,.deck hr f (.inr ⟨rfl,?_⟩),a⟩
  by_cases c:l.r=60
  ·exact .inl c
  ·refine .inr λk m=>?_
   rw[Iy ⟨i,c,j,n,d.1,d.2,m⟩] at hp
   cases hp
theorem ml (g:qf s l)(hr:v.j3=1)(f:v.E=false)(d:v.p.h=true)(o:In v.e 1 9999)(i:In v.p.w 1 3)(n:In v.p.v 1 20)(j:¬ Qh (Zl l.I) l.m v.e)(h:GA w' base t s.M l.m l.I v.e v.p.w v.p.v e) :
  (∃ (k:Nat) (u:Value),e=.returned (.tuple #[u,(k:Int),.bool true])/\qE s v l 0 (l.j6 ⟨v.e,(k:Int),s.M.B k,true⟩)/\w'.ownsRow base t 4 u (l.m+1) (zF (l.j6 ⟨v.e,(k:Int),s.M.B k,true⟩).I (l.m+1))) ∨
  (∃ (u:Value) (z:Int),e=.returned (.tuple #[u,z,.bool false])/\qE s v l 6 l/\w'.ownsRow base t 4 u 0 []):=by
 obtain⟨u,rfl,a⟩:=h
 cases hp:DD s.M l.m l.I v.e v.p.w v.p.v with
 |some k =>
  have b:=Ip hp;unfold Cz Gz DW Er at *;unfold Cz at a;rw[hp] at a ⊢;exact .inl ⟨k,u,rfl,.addWhole k hr f d (.inl ⟨k,rfl,b.1.1.2.1,b.2⟩),a⟩
 |none =>
  unfold Cz Gz DW Er at *;unfold Cz at a;rw[hp] at a ⊢;refine .inr ⟨u,0,rfl,.allof hr f d (.inr ⟨rfl,?_⟩),a⟩
  by_cases c:l.m=60
  ·exact .inl c
  ·refine .inr λk m=>?_
   have:=Ep (G:=NM _ _ _ _ _ _) ⟨⟨g.2.1,c,j,o⟩,i,n⟩ m;unfold DD at hp;rw[this] at hp
   cases hp
theorem mm (g:qf s l)(hr:v.j3=1)(f:v.E=false)(d:v.p.h=false)(o:In v.e 1 9999)(i:In v.p.w 1 3)(n:In v.p.x 1 4)(j:¬ Qh (Zl l.I) l.m v.e)(h:GC w' base t s.M l.m l.I v.e v.p.w v.p.x e) :
  (∃ (k:Nat) (u:Value),e=.returned (.tuple #[u,(k:Int),.bool true])/\qE s v l 0 (l.j6 ⟨v.e,(k:Int),v.p.x,false⟩)/\w'.ownsRow base t 4 u (l.m+1) (zF (l.j6 ⟨v.e,(k:Int),v.p.x,false⟩).I (l.m+1))) ∨
  (∃ (u:Value) (z:Int),e=.returned (.tuple #[u,z,.bool false])/\qE s v l 6 l/\w'.ownsRow base t 4 u 0 []):=by
 obtain⟨u,rfl,a⟩:=h
 cases hp:Es s.M l.m l.I v.e v.p.w v.p.x with
 |some k =>
  have b:=Ip hp;unfold CA GB DX Et at *;unfold CA at a;rw[hp] at a ⊢;exact .inl ⟨k,u,rfl,.addBerth k hr f d (.inl ⟨k,rfl,b.1.1.2.1,b.2⟩),a⟩
 |none =>
  unfold CA GB DX Et at *;unfold CA at a;rw[hp] at a ⊢;refine .inr ⟨u,0,rfl,.berth hr f d (.inr ⟨rfl,?_⟩),a⟩
  by_cases c:l.m=60
  ·exact .inl c
  ·refine .inr λk m=>?_
   have:=Ep (G:=NP _ _ _ _ _ _) ⟨⟨g.2.1,c,j,o⟩,i,n⟩ m;unfold Es at hp;rw[this] at hp
   cases hp
theorem oh (b:qf s l)(hr:v.j3=2)(d:v.E=false)(j:In v.e 1 9999)(i:In v.p.v 1 20)(g:¬ Qh (ZZ l.L) l.t v.e)(h:GD w' base t s.N l.t l.L v.e v.p.v e) :
  (∃ u:Value,e=.returned (.tuple #[u,.bool true])/\qE s v l 0 (l.k0 ⟨v.e,v.p.v⟩)/\w'.ownsRow base t 2 u (l.t+1) (zL (l.k0 ⟨v.e,v.p.v⟩).L (l.t+1))) ∨
  (∃ u:Value,e=.returned (.tuple #[u,.bool false])/\qE s v l 7 l/\w'.ownsRow base t 2 u 0 []):=by
 obtain⟨u,rfl,a⟩:=h
 by_cases hT:CL s.N l.t l.L v.e v.p.v
 ·unfold DY at a
  rw[Ff hT] at a ⊢;have h2:=hT.2;have f:Z0 (Z2 _ _ v.e _) _=Z0 l.L l.t+v.p.v:=Sm _ _ _ _;refine .inl ⟨u,rfl,.addSeat hr d (by have:=h2.2.1;omega) (by have:=h2.2.2.2;rw[f] at this;exact this),a⟩
 ·unfold DY at a
  rw[Gf hT] at a ⊢;refine .inr ⟨u,rfl,.seats hr d ?_,a⟩
  by_cases c:l.t=60
  ·exact .inl c
  ·by_cases c2:Z0 l.L l.t+v.p.v<=s.N
   ·exact absurd ⟨b.2.2,(b.k0 c j i g c2).2.2⟩ hT
   ·exact .inr oM
end
end
theorem qS.apt_goes {o:zY}(h:qS o){m:Nat}(t:m<o.g)(s:CB (o.u m)){p:ZP}(b:p.f=(o.u m).f)(f:p.w=(o.u m).w){v:Wk}(u:v ∈ Za true (o.u m).e p (o.u m).J (o.u m).c):ex o o.F v:=by
 have g:Q1 p.f p.w 0=true->0<p.f:=by simp[Q1]
 have j:Q1 p.f p.w 1=true->0<p.w:=by simp[Q1]
 obtain⟨⟨i,q,e⟩,hr,n,w,_,a⟩:=Bm u;refine⟨hr,λk r l=>?_⟩
 rw[Jf n,w];obtain⟨h1,h2,h3⟩:=h.here r t ⟨s,i,q,by rw[l,e]⟩
 unfold Eb
 by_cases c:v.j3=0
 ·rw[Jf c]
  rw[c] at a;exact h2 (by rw[← b];exact g a)
 ·rw[Je c]
  by_cases d:v.j3=1
  ·rw[Jf d]
   rw[d] at a;exact h3 (by rw[← f];exact j a)
  ·rw[Je d]
   exact h1
theorem qS.apt_comes {o:zY}(h:qS o){x:Int}(e:∀ i,i<o.g->(o.u i).e≠x){p:ZP}{F:Nat->Int}{n:Nat}{v:Wk}(c:v ∈ Za false x p F n):ex o o.F v:=by
 obtain⟨_,hr,a,d,_,_⟩:=Bm c;refine⟨hr,λk b _=>?_⟩
 rw[Je (by rw[a];decide),d]
 obtain⟨h1,h2,h3⟩:=h.fresh e b;unfold Eb
 split
 ·exact h2
 ·split
  ·exact h3
  ·exact h1
theorem lj {n:Nat}{w':World}(h:Below n w w'){o:Nat}(a:n<=g)(v:Value):Below n w (w'.setCell (g,o) v):=h.setCell (p:=(g,o)) a v
theorem pf (h:w.heap[g]?=some (.cells #[u0,u1,u2] t (0,0)))(v0 v1 v2:Value) :
  (((w.setCell (g,0) v0).setCell (g,1) v1).setCell (g,2) v2).heap[g]?=some (.cells #[v0,v1,v2] t (0,0)):=by
 have a:=by simpa using zk h 0 v0
 have b:=by simpa using zk a 1 v1
 simpa using zk b 2 v2
theorem bz {u3 u4:Value}(h:w.heap[g]?=some (.cells #[u0,u1,u2,u3,u4] t (0,0)))(v:Value):(w.setCell (g,3) v).heap[g]?=some (.cells #[u0,u1,u2,v,u4] t (0,0)):=by simpa using zk h 3 v
theorem SX {u3 u4:Value}(h:w.heap[g]?=some (.cells #[u0,u1,u2,u3,u4] t (0,0)))(v:Value):(w.setCell (g,4) v).heap[g]?=some (.cells #[u0,u1,u2,u3,v] t (0,0)):=by simpa using zk h 4 v
theorem OA (x:zY)(I d7 a9:Option Addr)(P a3 d8 k:Nat)(z:Int)(w:World)(hs:zY.Short x 1048576)(e4:qy w I x.i x.G)(M:ZA w d7 x.l x.F)(e0:qL w a9 x.g x.u)(j3:x.g<=30)(e2:zX x.G z x.i=k)(j6:k<x.i)(i4:x.l=x.i) :
  Calls prog 170 #[.agg #[(I,x.i,P),(d7,x.l,a3),(a9,x.g,d8)],z] w λe w'=>(∃ v,e=.returned v/\w'.ownsRow w 203 5 v (ZU (x.F k) x.u z x.g).length (Zh (BS (ZU (x.F k) x.u z x.g)) (ZU (x.F k) x.u z x.g).length))/\Below w w w':=by
 obtain⟨j0,ji,i6,i7,i8⟩:=info_parts Tryz.infoRow;have g4:=hI e4;have f5:=hI e0;have g5:=hI hs;have n1:=hs.1.1;have f7:=hI e2;obtain⟨C,hC,hI⟩:=M;obtain⟨lb,lo,rfl,y⟩:=hC k oM;obtain⟨l,M⟩:=nM (x.F k);obtain⟨a1,b3,a0,b1,b0,b2,t,b8,f4,b7,e8,e5,e9⟩:=hI k oM;rw[← M] at t b8 f4 b7 e8 e5 e9;have a5:=hs.2.1.2 k oM;rw[← M] at a5;have n2:=a5.1;have n3:=a5.2.1;rw[← M];have g6:Hid (qx w a1 _ _):=b8;have g0:Hid (qn w a0 _ _):=b7;have d2:lb<w.heap.size:=Ja w _ (y 0 dC);have j4:=n0 k;have j5:(k:Int)<(x.l:Int):=oM;have Z:Hid (w.cell? ⟨lb,lo+_,_⟩=some (.slice a1 _ b3)/\w.cell? _=some (.slice a0 _ b1)/\w.cell? _=some (.slice b0 _ b2)) :=
  ⟨by have:=y 0 dC;rw[t] at this;exact this,by have:=y 1 dC;rw[t] at this;exact this,by have:=y 2 dC;rw[t] at this;exact this⟩
 have d4:Hid (∀ w',_->Calls _ 161 _ w' λe w2=>e=.returned _/\_):=λw' h =>
  (BB I _ P _ z w' n1 (g4.j0 h)).mono λe w2 ⟨a,b⟩=>⟨by
   rw[f7.out] at a
   rcases a with⟨_,rfl⟩|⟨h,_⟩
   ·rfl
   ·omega,b⟩
 have E:Below _ w (w.alloc (.cells #[(I,x.i,P),(some (lb,lo),x.l,a3),(a9,x.g,d8)] 38)):=zd bZ _;have bO:=Qc E;clear e4 e0 hs e2 hC hI y t b8 f4 b7 e8 e5 e9 a5 M i4;go_enter func170,ntmps170;go_upto_region 1 with fail;generalize w.alloc _=V at E bO ⊢;have h7:=E.size;have BW:Hid (∀ w',_->Below _ w w'):=λw' h=>zb E h
 have g9:=zD bO;have KS:Hid (∀ w',Below _ V w'->(w'.cell? _=some (.slice I _ P)/\w'.cell? _=some (.slice _ _ a3)/\_/\_/\_)):=λw' h=>by
  have g1:=za bO h;have g2:=zb E h;exact⟨bC g1 0,bC g1 1,tR g2 Z.1 d2,tR g2 Z.2.1 d2,tR g2 Z.2.2 d2⟩
 go_cut [5] (λs5 wc=>∃ B,s5=.pointer (some ⟨B,0,none⟩)/\wc.heap[B]?=some (.cells #[.slice a1 l.r b3,.slice a0 l.m b1,.slice b0 l.t b2] 145 (0,0))/\Below V V wc)
 case first =>
  go_region_held3 (λw'=>w'.cell? (w.heap.size,0)=some (I,x.i,P)/\w'.cell? (w.heap.size,1)=some (some (lb,lo),x.l,a3)/\w'.cell? (lb,lo+k*3)=some (a1,l.r,b3)/\w'.cell? (lb,lo+k*3+1)=some (a0,l.m,b1)/\w'.cell? (lb,lo+k*3+2)=some (b0,l.t,b2))
   ((refine KS _ ?_;exact(by repeat(first|exact bZ|refine Jh ?_|refine zd ?_ _|refine lj ?_ oM _|refine zb ?_ L))))
   (first|(go_at_call 161;refine Jm (d4 _ (BW _ (by repeat(first|exact bZ|refine Jh ?_|refine zd ?_ _|refine lj ?_ oM _|refine zb ?_ L)))) ?_;rintro e w4 ⟨rfl,L⟩;have s4:V.heap.size<=w4.heap.size:=(by have:=L.size;first|omega|(simp at this;omega));(first|(have m:w4.heap[V.heap.size]?=_:=za (Jb V.drew (.cells _ 145)) L;have y0:=bC m 0;have y1:=bC m 1;have y2:=bC m 2;have f0:=zc m 0;have f1:=zc m 1;have f2:=zc m 2)|skip)))
  all_goals
   go_wp2;go_meet
   first|exact⟨_,rfl,Jb w4 _,(by repeat(first|exact bZ|refine Jh ?_|refine zd ?_ _|refine lj ?_ oM _|refine zb ?_ L))⟩|exact⟨_,rfl,pf m _ _ _,(by repeat(first|exact bZ|refine Jh ?_|refine zd ?_ _|refine lj ?_ oM _|refine zb ?_ L))⟩
 case rest =>
 obtain⟨B,rfl,bL,b4⟩:=hcut;have g8:=za bO b4;have Q:=zb E b4;clear bO E b4 KS BW d4 Z g9 h7;have z2:=bC g8 2;go_wp2;clear z2;go_loopw [6,8,9,11,13,25] (λv _ _ _ _ q wr=>∃ (i r:Nat),i<=x.g/\q=int i64 i/\r=(ZU l x.u z i).length/\wr.ownsRow wc 203 5 v r (Zh (BS (ZU l x.u z i)) r)/\Below wc wc wr) (λ_ _ _ _ _ q _=>x.g - (intOf q).toNat)
 case atStart=>exact⟨0,0,Jq _,rfl,rfl,⟨rfl,.inl ⟨rfl,rfl⟩⟩,bZ⟩
 case round =>
  obtain⟨i,r,hi,rfl,e3,T,R⟩:=hrel;have N:=hI e3;have i9:r<=30:=by have:=PS l x.u z i;omega
  clear e3;have c:=zb Q R
  by_cases hlt2:i<x.g
  ·obtain⟨D,hD,hJ⟩:=f5
   obtain⟨bb,bo,rfl,y⟩:=hD i hlt2;obtain⟨b,a4⟩:=nM (x.u i);obtain⟨H,J,t,b6,e7⟩:=hJ i hlt2;rw[← a4] at t b6 e7;have X:=hI a4;have f6:Hid (zA.Short b 1048576):=by rw[a4];exact g5.2.2.2 i hlt2
   have f8:=hI b6;have f:bb<w.heap.size:=Ja w _ (y 0 dC);have c0:wr.cell? _=some (.int _ _):=(c.cell (p:=⟨bb,bo+_,_⟩) f).trans (rC t (y 0 dC));have c1:wr.cell? _=some (.int _ _):=(c.cell f).trans (rC t (y 1 dC));have c2:wr.cell? _=some (.string _):=(c.cell f).trans (rC t (y 2 dC));have c3:wr.cell? _=some (.slice H _ J):=(c.cell f).trans (rC t (y 3 dC));have c4:wr.cell? _=some (.int _ _):=(c.cell f).trans (rC t (y 4 dC));have c5:wr.cell? _=some (.int _ _):=(c.cell f).trans (rC t (y 5 dC));have c6:wr.cell? _=some (.int _ _):=(c.cell f).trans (rC t (y 6 dC));have c7:wr.cell? _=some (.int _ _):=(c.cell f).trans (rC t (y 7 dC));have c8:wr.cell? _=some (.bool _):=(c.cell f).trans (rC t (y 8 dC));have c9:wr.cell? _=some (.int _ _):=(c.cell f).trans (rC t (y 9 dC));have h4:wr.cell? _=some (.int _ _):=(c.cell f).trans (rC t (y 10 dC));have h5:wr.cell? _=some (.int _ _):=(c.cell f).trans (rC t (y 11 dC));have h6:wr.cell? _=some (.int _ _):=(c.cell f).trans (rC t (y 12 dC));clear hD hJ y t a4 b6 e7;go_wp2_with fail;have bB:=Jb wr (.cells (b,H,J) 150);have b5:Below _ wc (wr.alloc (.cells (b,H,J) 150)):=zd R _;have G:=T.alloc (.cells (b,H,J) 150);generalize wr.alloc _=Y at bB b5 G ⊢;generalize wr.heap.size=j1 at bB ⊢;clear c0 c1 c2 c3 c4 c5 c6 c7 c8 c9 h4 h5 h6 R c T;refine bM (Gl b H J _) λY1 m=>?_
   have A:=za bB m;have n:=zb b5 m;have s:=zm m G;clear bB b5 m G;obtain⟨t1,b9⟩:=nM (decide (CB b));rw[← b9];have a7:Hid (t1=true↔CB b):=by show _↔_;rw[b9,decide_eq_true_eq]
   clear b9
   cases t1 with
   |false =>
    have HN:Hid (¬ jt (x.u i) z):=λh=>by rw[← X.out] at h;have:=a7.2 h.1;cases this
    go_wp2;go_roundw
    case rel=>exact⟨i+1,r,by omega,by go_num,by rw[Ed HN.out];exact N,by rw[Ed HN.out];exact s,n⟩
    case measure=>simp[intOf];omega
   |true =>
    have d5:=hI (a7.1 rfl);clear a7;have y3:=bC A 3;go_wp2_with fail;refine(Nq H _ J _ z _ f6.2 (f8.j0 (zb Q n))).mono ?_;rintro e Y2 ⟨⟨t2,rfl,e6⟩,d1⟩;have d1:=d1.symm;subst d1;have a8:Hid (_↔Sa b z):=e6;clear e6 y3
    cases t2 with
    |false =>
     have HN:Hid (¬ jt (x.u i) z):=λh=>by rw[← X.out] at h;have:=a8.2 h.2;cases this
     go_wp2;go_roundw
     case rel=>exact⟨i+1,r,by omega,by go_num,by rw[Ed HN.out];exact N,by rw[Ed HN.out];exact s,n⟩
     case measure=>simp[intOf];omega
    |true =>
     have d6:Hid (jt (x.u i) z):=by show jt _ z;rw[← X.out];exact⟨d5,a8.1 rfl⟩
     clear a8 d5;have y0:=bC A 0;have y2:=bC A 2;have y4:=bC A 4;have l0:=aC (za bL n) 0;go_wp2;have bR:=Jb Y1 (.cells #[b.k,b.j1,b.v,int i64 (-1),int i64 (-1)] 203);have S:Below _ wc (Y1.alloc (.cells #[b.k,b.j1,b.v,int i64 (-1),int i64 (-1)] 203)):=zd n _;have U:=s.alloc (.cells #[b.k,b.j1,b.v,int i64 (-1),int i64 (-1)] 203);have a2:=zg A (.cells #[b.k,b.j1,b.v,int i64 (-1),int i64 (-1)] 203);have d0:=λg hg=>And.right (World.ownsRow.lt s g hg)
     have i0:=n.size;have d9:=zD A;generalize Y1.alloc _=R0 at bR S U a2 ⊢;generalize Y1.heap.size=rb at bR i0 d9 d0 ⊢;clear y0 y2 y4 l0 n A s;have g7:=hI d0;clear d0;have j2:=zD bL;go_loopw [11,50] (λ_ q wr=>∃ j,j<=l.r/\q=int i64 j/\wr.heap[rb]?=some (.cells #[b.k,b.j1,b.v,(As l.K b.e j),int i64 (-1)] 203 (0,0))/\zl R0 wr (λb=>b=rb)) (λ_ q _=>l.r - (intOf q).toNat)
     case atStart=>exact⟨0,Jq _,rfl,bR,zl.refl _ _⟩
     case round =>
      obtain⟨j,hj,rfl,K,d⟩:=hrel;have F:=zl.j0 S S.size d (λg e=>by have e:=e;omega)
      have c:=zb Q F;have O:=d.blk a2 oM
      by_cases hjl:j<l.r
      ·obtain⟨sb,so,rfl,h0,h1,h2,h3⟩:=g6 j hjl
       have d3:=Ja w _ h0;obtain⟨c0,c1,c2,c3⟩:=OP c h0 h1 h2 h3 d3;clear h0 h1 h2 h3;have y1:=aC O 1;have r3:=aC K 3;have g3:=λo=>zc (zg K o) 3
       have i1:=n0 j;have i2:(j:Int)<(l.r:Int):=oM
       by_cases he:(l.K j).e=b.e
       ·have e1:((l.K j).e == b.e)=true:=by simpa using he
        have HE:=hI he;clear he;go_wp2;go_roundw
        case rel=>exact⟨j+1,by omega,by go_num,by rw[show As l.K b.e (j+1)=(l.K j).ln by rw[As,Jf HE.out]];exact bz (zg K _) _,(d.trans (zl.of_below (zd bZ _))).set rfl _⟩
        case measure=>simp[intOf];omega
       ·have e1:((l.K j).e == b.e)=false:=by simpa using he
        have HE:=hI he;clear he;go_wp2;go_roundw
        case rel=>exact⟨j+1,by omega,by go_num,by rw[show As l.K b.e (j+1)=As l.K b.e j by rw[As,Je HE.out]];exact zg K _,d.trans (zl.of_below (zd bZ _))⟩
        case measure=>simp[intOf];omega
      ·obtain rfl:j=l.r:=by omega
       have l1:=bC (za bL F) 1;clear F c O bR hj hjl;go_wp2;clear l1;have bR:=K;have a6:=d;clear K d;go_loopw [13,66] (λ_ q wr=>∃ j,j<=l.m/\q=int i64 j/\wr.heap[rb]?=some (.cells #[b.k,b.j1,b.v,(As l.K b.e l.r),(QT l.I b.e j)] 203 (0,0))/\zl R0 wr (λb=>b=rb)) (λ_ q _=>l.m - (intOf q).toNat)
       case atStart=>exact⟨0,Jq _,rfl,bR,a6⟩
       case round =>
        obtain⟨j,hj,rfl,K,d⟩:=hrel;have F:=zl.j0 S S.size d (λg e=>by have e:=e;omega)
        have c:=zb Q F;have O:=d.blk a2 oM
        by_cases hjl:j<l.m
        ·obtain⟨sb,so,rfl,h0,h1,h2,h3⟩:=g0 j hjl
         have d3:=Ja w _ h0;obtain⟨c0,c1,c2,c3⟩:=OP c h0 h1 h2 h3 d3;clear h0 h1 h2 h3;have y1:=aC O 1;have r3:=aC K 4;have g3:=λo=>zc (zg K o) 4
         have i1:=n0 j;have i2:(j:Int)<(l.m:Int):=oM
         by_cases he:(l.I j).e=b.e
         ·have e1:((l.I j).e == b.e)=true:=by simpa using he
          have HE:=hI he;clear he;go_wp2;go_roundw
          case rel=>exact⟨j+1,by omega,by go_num,by rw[show QT l.I b.e (j+1)=(l.I j).H by rw[QT,Jf HE.out]];exact SX (zg K _) _,(d.trans (zl.of_below (zd bZ _))).set rfl _⟩
          case measure=>simp[intOf];omega
         ·have e1:((l.I j).e == b.e)=false:=by simpa using he
          have HE:=hI he;clear he;go_wp2;go_roundw
          case rel=>exact⟨j+1,by omega,by go_num,by rw[show QT l.I b.e (j+1)=QT l.I b.e j by rw[QT,Je HE.out]];exact zg K _,d.trans (zl.of_below (zd bZ _))⟩
          case measure=>simp[intOf];omega
        ·obtain rfl:j=l.m:=by omega
         have W:=d.j1 U (λg hg e=>by have:=g7 g hg;have e:=e;omega)
         obtain⟨r0,r1,r2,r3,r4⟩:=nk K;have j7:=F.size;clear O a2 c bR d a6 K hj hjl;have f9:Hid (∀ ad,(some ⟨wr.heap.size,0,none⟩:Option Addr)=some ad->∀ j u,([int i64 b.k,.string b.j1,int i64 b.v,int i64 (As l.K b.e l.r),int i64 (QT l.I b.e l.m)]:_)[j]?=some u->(wr.alloc (.cells #[int i64 b.k,.string b.j1,int i64 b.v,int i64 (As l.K b.e l.r),int i64 (QT l.I b.e l.m)] 203)).cell? (ad.add j)=some u):=by
          intro ad e
          cases e
          exact Jo (Jb wr _)
         go_wp2_with (first|(at_builtin;refine zu _ rfl _ _ 39 rfl _ 203 j0 _ 5 48 underlying39 ji i6 i7 i8 rfl dC _ r _ (by rfl) (W.alloc _) _ 1 1 _ rfl (λh=>(by cases h)) rfl f9 (by intro u hu;simp at hu;rcases hu with rfl|rfl|rfl|rfl|rfl <;> rfl) (by unfold maxLen;omega) oM (by simp;omega) ?_;intro v' w3 i5 i3))
         go_roundw
         case rel =>
          refine⟨i+1,r+1,by omega,by go_num,?_,?_,(zd F _).grown i3 (by simp;omega) (λj hj=>(W.lt j hj).1)⟩
          ·rw[FF d6.out,List.length_append,← N.out];rfl
          ·have e:=Ot (ZU l x.u z i) (IM l (x.u i))
           rw[← N.out] at e;rw[FF d6.out,e,← X.out];exact i5
         case measure=>simp[intOf];omega
  ·obtain rfl:i=x.g:=by omega
   go_wp2;go_ret;exact⟨⟨_,rfl,by rw[← N.out];exact zo T Q.size⟩,c⟩
theorem Ra (g base N R b2 b1 b0 H:Nat)(a2 a1 a0 m:Option Addr)(c:Int)(y:qD)(x:zY)(L C A B D E:Nat->Value)(w:World)(hq:w.heap[g]?=some (.cells #[(a2,N,b2),(a1,N,b1),(a0,R,b0)] 38 (0,0)))(ho:zz w base (a2,N,b2) (a1,N,b1) (a0,R,b0) N N R x L C A B D E)(i8:x.g=R)(q:base<=w.heap.size)(i3:y.d=2∨y.d=3)(j2:In y.v 0 20)(k8:y.c<=3)(i4:zS w m y.c y.J)(i7:qm m y.c H)(i5:0<y.c->∀ a,m=some a->a.block<base)(hR:R<30) :
  Calls prog 93 #[.pointer (some (g,0)),c,.agg (y,m,H)] w λe w'=>Ct g base N b2 b1 a2 a1 (λb=>b=g∨(Value.slice a0 R b0).ownBlock=some b) { x with g:=R+1,u:=Qq x.u R (Aw R c y) } 0 ((R:Int)+1) (zP ⟨y.v,y.f,y.j,y.w,y.h,y.x⟩ (y.c:Int)) (λ_ v=>v=.slice none 0 0) L C A B D w e w':=by
 obtain⟨n0,ni,g3,g4,g5⟩:=info_parts Tryz.infoInt;obtain⟨r0,ri,j5,j6,j7⟩:=info_parts Tryz.infoBookingO;obtain⟨κ,hκ⟩:=nM y.d;rw[← hκ] at i3 ⊢;have HO:=hI ho;have HQ:=hI hq;have g9:=hI hκ;have k2:=hI i8;have g6:=hI q;have i9:=hI i4;have d0:=hI i7;have k1:=hI i5;clear ho hq hκ i8 q i4 i7 i5;obtain⟨s,g1⟩:=nM (zP ⟨y.v,y.f,y.j,y.w,y.h,y.x⟩ (y.c:Int));have c9:=hI g1;have o:Below _ w ((w.alloc (.cells #[κ,y.j1,y.k,(m,y.c,H),y.v,y.f,y.j,y.w,y.h,y.x,y.y,y.D] 47)).alloc (.cells #[(),(),(),True] 41)):=zd (zd bZ _) _;have S:=zg (Jb w (.cells #[κ,y.j1,y.k,(m,y.c,H),y.v,y.f,y.j,y.w,y.h,y.x,y.y,y.D] 47)) (.cells #[(),(),(),True] 41);have bA:=EB w (.cells #[κ,y.j1,y.k,(m,y.c,H),y.v,y.f,y.j,y.w,y.h,y.x,y.y,y.D] 47) (.cells #[(),(),(),True] 41)
 rcases i3 with rfl|rfl
 all_goals
  go_enter func93,ntmps93;go_wp2_with fail;generalize ((w.alloc _).alloc _)=W at o S bA ⊢;refine bM (Z6 _ _ _ _ _ _ _ _ j2 (by unfold In;omega)) λV b5=>?_
  rw[← g1];clear g1;replace o:=zb o b5;replace S:=za S b5;replace bA:=za bA b5;clear b5 W;have o0:=bC S 0;have k3:((R:Int) == 30)=false:=by simp;omega
  have k4:(R == 30)=false:=by simp;omega
  have k9:IntKind.i64.wrap ((R:Int)+1)=(R:Int)+1:=by rw[Jk];omega
  have zq:=bC (za HQ o) 2;have b8:Hid (∀ z,_->zS z m _ _):=λz h=>i9.j0 (zb o h)
  have KS:Hid (∀ z,Below _ V z->z.cell? _=some (a0,R,b0)/\z.cell? _=some (.string _)/\z.cell? _=some (.slice m _ H)/\z.cell? _=some (.int _ _)/\z.cell? _=some (.int _ _)/\z.cell? _=some (.int _ _)/\z.cell? _=some (.int _ _)/\z.cell? _=some (.bool _)/\z.cell? _=some (.int _ _)):=λz h=>⟨bC (za HQ (zb o h)) 2,bC (za S h) 1,bC (za S h) 3,bC (za S h) 4,bC (za S h) 5,bC (za S h) 6,bC (za S h) 7,bC (za S h) 8,bC (za S h) 9⟩
  go_upto_region 11 with fail;refine qt 18 19 (λw'=>w'.cell? _=_/\w'.cell? _=_/\w'.cell? _=_/\w'.cell? _=_/\w'.cell? _=_/\w'.cell? _=_/\w'.cell? _=_/\w'.cell? _=_/\w'.cell? _=_) rfl kR (KS _ (Jh bZ)) (λU=>?_)
  simp only[List.replicate_succ,List.replicate_zero]
  iterate 9 refine Ax 0 ?_
  iterate 2 refine Ax 10 ?_
  iterate 3 refine Ax 13 ?_
  refine eq 9 17 (λK d=>?_) λK d=>?_
  focus
   go_simp;refine d _ _ (KS _ (by repeat(first|with_reducible exact k|with_reducible exact bZ|with_reducible refine Jh ?_|with_reducible refine zd ?_ _))) (λU=>?_)
   clear d K;refine eq 12 17 (λK d=>?_) λK d=>?_
   focus
    refine zZ rfl _ _ 27 rfl 3 n0 _ 1 8 underlying27 ni g3 g4 g5 rfl dC _ _ rfl (by first|exact Jr _|omega|(simp;done)|(simp;omega)) (by repeat(first|((with_reducible refine Qu _ _ _ ?_);(first|with_reducible rfl|(simp;done)))|with_reducible refine zK ?_|with_reducible refine zg ?_ _)) m _ H _ rfl d0.2.2 (by rw[Qy,Nat.mul_one]) (Ci (b8 _ dB)) (Az _ _) (by unfold maxLen;omega) oM ?_;intro I J u1 P Q O;clear O;have k:Hid (Below _ V u1):=(by show Below _ _ _;refine zb ?_ (zp P);exact dB);refine d _ _ (KS _ k) (λU=>?_)
    clear d K;simp only[Act.put,sB,sZ,sS];refine Ax 16 ?_;refine Ay 17 λK d=>?_
    focus
     go_simp;refine d.out _ _ (KS.out _ (by repeat(first|with_reducible exact k.out|with_reducible exact bZ|with_reducible refine Jh ?_|with_reducible refine zd ?_ _))) (λU=>?_)
     clear d K;refine kc λK d=>?_
     go_simp;refine d _ _ ?_;clear d K;refine qh kR ?_ _;have f:=Jb u1 (.cells #[int i64 ((R:Int)+1),c,y.j1,(I,y.c,J),y.v,y.f,y.j,y.w,y.h,y.x,int i64 2,(),s] 150);have l:=zd k (.cells #[int i64 ((R:Int)+1),c,y.j1,(I,y.c,J),y.v,y.f,y.j,y.w,y.h,y.x,int i64 2,(),s] 150);have n:Hid _:=zm (zd bZ (.cells #[int i64 ((R:Int)+1),c,y.j1,(I,y.c,J),y.v,y.f,y.j,y.w,y.h,y.x,int i64 2,(),s] 150)) Q;generalize u1.alloc _=F at f l n ⊢;have G:=k.size;generalize u1.heap.size=bb at f G ⊢
   rotate_left 1
   focus
    go_simp;refine d _ _ (KS _ (by repeat(first|with_reducible exact k|with_reducible exact bZ|with_reducible refine Jh ?_|with_reducible refine zd ?_ _))) (λU=>?_)
    clear d K;refine Ay 12 λK d=>?_
    focus
     refine zZ rfl _ _ 27 rfl 3 n0 _ 1 8 underlying27 ni g3 g4 g5 rfl dC _ _ rfl (by first|exact Jr _|omega|(simp;done)|(simp;omega)) (by repeat(first|((with_reducible refine Qu _ _ _ ?_);(first|with_reducible rfl|(simp;done)))|with_reducible refine zK ?_|with_reducible refine zg ?_ _)) m _ H _ rfl d0.2.2 (by rw[Qy,Nat.mul_one]) (Ci (b8 _ dB)) (Az _ _) (by unfold maxLen;omega) oM ?_;intro I J u1 P Q O;clear O;have k:Hid (Below _ V u1):=(by show Below _ _ _;refine zb ?_ (zp P);exact dB);refine d _ _ (KS _ k) (λU=>?_)
     clear d K;simp only[Act.put,sB,sZ,sS];refine Ax 16 ?_;have r:u1.heap[V.heap.size+1]?=some (.cells _ 150 _):=za (by repeat(first|((with_reducible refine Qu _ _ _ ?_);(first|with_reducible rfl|(simp;done)))|with_reducible refine zK ?_|with_reducible refine zg ?_ _)) (zp P)
     obtain⟨e6,e7,e8,e9,f0,f1,f2,f4,f5,f6,a7,a8,a9⟩:=Cl r;obtain⟨d2,d3,d4,d5,d6,d7,d8,d9,e4,e5,a4,a5,a6⟩:=jv r;refine kc λK d=>?_
     go_simp;refine d _ _ ?_;clear d K;refine qh kR ?_ _;have f:=KO r (int i64 ((R:Int)+1)) c y.j1 (I,y.c,J) y.v y.f y.j y.w y.h y.x (int i64 2) () s;have l:=KQ k (b:=V.heap.size+1) oM (int i64 ((R:Int)+1)) c y.j1 (I,y.c,J) y.v y.f y.j y.w y.h y.x (int i64 2) () s;have n:Hid _:=(He u1 _ (int i64 ((R:Int)+1)) c y.j1 (I,y.c,J) y.v y.f y.j y.w y.h y.x (int i64 2) () s).j1 Q (zQ Q r dC);clear r e6 d2 e7 d3 e8 d4 e9 d5 f0 d6 f1 d7 f2 d8 f4 d9 f5 e4 f6 e5 a7 a4 a8 a5 a9 a6;generalize (((((((((((((u1.setCell _ _).setCell _ _).setCell _ _).setCell _ _).setCell _ _).setCell _ _).setCell _ _).setCell _ _).setCell _ _).setCell _ _).setCell _ _).setCell _ _).setCell _ _)=F at f l n ⊢;have G:V.heap.size<=V.heap.size+1:=oM;generalize V.heap.size+1=bb at f G ⊢
  rotate_left 2
  focus
   go_simp;refine d _ _ (KS _ (by repeat(first|with_reducible exact k|with_reducible exact bZ|with_reducible refine Jh ?_|with_reducible refine zd ?_ _))) (λU=>?_)
   clear d K;refine Ay 9 λK d=>?_
   focus
    go_simp;refine d _ _ (KS _ (by repeat(first|with_reducible exact k|with_reducible exact bZ|with_reducible refine Jh ?_|with_reducible refine zd ?_ _))) (λU=>?_)
    clear d K;refine Ay 12 λK d=>?_
    focus
     refine zZ rfl _ _ 27 rfl 3 n0 _ 1 8 underlying27 ni g3 g4 g5 rfl dC V.heap.size _ rfl (by first|exact Jr _|omega|(simp;done)|(simp;omega)) (by repeat(first|((with_reducible refine Qu _ _ _ ?_);(first|with_reducible rfl|(simp;done)))|with_reducible refine zK ?_|with_reducible refine zg ?_ _)) m _ H _ rfl d0.2.2 (by rw[Qy,Nat.mul_one]) (Ci (b8 _ dB)) (Az _ _) (by unfold maxLen;omega) oM ?_;intro I J u1 P Q O;clear O;have k:Hid (Below _ V u1):=(by show Below _ _ _;refine zb ?_ (zp P);exact dB);refine d _ _ (KS _ k) (λU=>?_)
     clear d K;simp only[Act.put,sB,sZ,sS];refine Ax 16 ?_;have r:u1.heap[V.heap.size]?=some (.cells _ 150 _):=za (by repeat(first|((with_reducible refine Qu _ _ _ ?_);(first|with_reducible rfl|(simp;done)))|with_reducible refine zK ?_|with_reducible refine zg ?_ _)) (zp P)
     obtain⟨e6,e7,e8,e9,f0,f1,f2,f4,f5,f6,a7,a8,a9⟩:=Cl r;obtain⟨d2,d3,d4,d5,d6,d7,d8,d9,e4,e5,a4,a5,a6⟩:=jv r;refine kc λK d=>?_
     go_simp;refine d _ _ ?_;clear d K;refine qh kR ?_ _;have f:=KO r (int i64 ((R:Int)+1)) c y.j1 (I,y.c,J) y.v y.f y.j y.w y.h y.x (int i64 2) () s;have l:=KQ k (b:=V.heap.size) oM (int i64 ((R:Int)+1)) c y.j1 (I,y.c,J) y.v y.f y.j y.w y.h y.x (int i64 2) () s;have n:Hid _:=(He u1 _ (int i64 ((R:Int)+1)) c y.j1 (I,y.c,J) y.v y.f y.j y.w y.h y.x (int i64 2) () s).j1 Q (zQ Q r dC);clear r e6 d2 e7 d3 e8 d4 e9 d5 f0 d6 f1 d7 f2 d8 f4 d9 f5 e4 f6 e5 a7 a4 a8 a5 a9 a6;generalize (((((((((((((u1.setCell _ _).setCell _ c).setCell _ _).setCell _ _).setCell _ _).setCell _ _).setCell _ _).setCell _ _).setCell _ _).setCell _ _).setCell _ _).setCell _ ()).setCell _ s)=F at f l n ⊢;obtain⟨bb,i0⟩:=nM V.heap.size;rw[← i0] at f ⊢;have G:V.heap.size<=bb:=oM;clear i0
  all_goals
   clear U P Q k;have q:=zb o l;have T:=za S l;have a3:=za bA l;have o0:=bC T 0;have k5:=zD bA;have f7:=bC f 10;have f8:=bC f 11;have f9:=zc f 10;have g0:=zc f 11
   first
   |have j3:∀ v,(F.setCell _ v).cell? _=some (.int _ _):=λv=>bC (zG (b':=bb) T 10 v oM) 10
    go_upto_region 15 with fail;have t:((F.setCell (bb,10) (int i64 1)).setCell (bb,11) y.y).heap[bb]?=some (.cells #[int i64 ((R:Int)+1),c,y.j1,(I,y.c,J),y.v,y.f,y.j,y.w,y.h,y.x,int i64 1,y.y,s] 150 (0,0)):=by simpa using zk (zk f 10 _) 11 _
    have X:Below V V ((F.setCell _ (int i64 1)).setCell _ y.y):=Below.setCell (p:=(bb,11)) (Below.setCell (p:=(bb,10)) l G _) G _;have b4:=hI ((((zl.refl F (λb=>b=bb)).set (a:=(bb,10)) rfl (int i64 1)).set (a:=(bb,11)) rfl y.y).j1 n.out (zQ n.out f dC))
    generalize (F.setCell _ _).setCell _ _=F2 at t X b4 ⊢;obtain⟨st,e1⟩:∃ st:Int,st=1:=⟨_,rfl⟩;obtain⟨Y,e2⟩:=nM y.y;have b9:Hid (Aw R c y=⟨(R:Int)+1,c,y.j1,y.c,y.J,y.v,y.f,y.j,y.w,y.h,y.x,st,Y,s⟩):=by show _=_;unfold Aw;rw[← g9.out,← c9.out,e1,e2];rfl
    replace t:F2.heap[bb]?=some (.cells #[int i64 ((R:Int)+1),c,y.j1,(I,y.c,J),y.v,y.f,y.j,y.w,y.h,y.x,st,Y,s] 150 (0,0)):=by rw[e1,e2];exact t
    clear f7 f8 f9 g0 o0 j3 f l n q T a3 F e1 e2
   |go_upto_region 15 with fail
    have t:=f;have X:=l;have b4:Hid (F.ownsRow _ 3 1 _ _ _):=n;generalize F=F2 at t X b4 f l n q T a3 o0 f7 f8 f9 g0 ⊢;obtain⟨st,e1⟩:∃ st:Int,st=2:=⟨_,rfl⟩;obtain⟨Y,e2⟩:∃ Y:Int,Y=0:=⟨_,rfl⟩;have b9:Hid (Aw R c y=⟨(R:Int)+1,c,y.j1,y.c,y.J,y.v,y.f,y.j,y.w,y.h,y.x,st,Y,s⟩):=by show _=_;unfold Aw;rw[← g9.out,← c9.out,e1,e2];rfl
    replace t:F2.heap[bb]?=some (.cells #[int i64 ((R:Int)+1),c,y.j1,(I,y.c,J),y.v,y.f,y.j,y.w,y.h,y.x,st,Y,s] 150 (0,0)):=by rw[e1,e2];exact t
    clear f7 f8 f9 g0 o0 f l n q T a3 e1 e2
   have q:=zb o X;have T:=za S X;have a3:=za bA X;have qF:=za HQ q;have k6:=zD HQ;have d1:Hid (∀ z:World,z.heap[g]?=some (.cells #[(a2,N,b2),(a1,N,b1),_] 38 _)->z.heap[bb]?=some (.cells #[_,c,_,_,_,_,_,_,_,y.x,st,Y,s] 150 (0,0))->z.cell? (g,2)=some (a0,R,b0)/\z.cell? (bb,0)=some (int i64 ((R:Int)+1))/\z.cell? (bb,1)=some (int i64 c)/\z.cell? (bb,2)=some (.string y.j1)/\z.cell? (bb,3)=some (I,y.c,J)/\z.cell? (bb,4)=some (int i64 y.v)/\z.cell? (bb,5)=some (int i64 y.f)/\z.cell? (bb,6)=some (int i64 y.j)/\z.cell? (bb,7)=some (int i64 y.w)/\z.cell? (bb,8)=some (.bool y.h)/\z.cell? (bb,9)=some (int i64 y.x)/\z.cell? (bb,10)=some (int i64 st)/\z.cell? (bb,11)=some (int i64 Y)/\z.cell? (bb,12)=some (int i64 s)):=λz h1 h2=>⟨bC h1 2,bC h2 0,bC h2 1,bC h2 2,bC h2 3,bC h2 4,bC h2 5,bC h2 6,bC h2 7,bC h2 8,bC h2 9,bC h2 10,bC h2 11,bC h2 12⟩
   refine qt 10 11 (λw'=>w'.cell? _=_/\w'.cell? _=_/\w'.cell? _=_/\w'.cell? _=_/\w'.cell? _=_/\w'.cell? _=_/\w'.cell? _=_/\w'.cell? _=_/\w'.cell? _=_/\w'.cell? _=_/\w'.cell? _=_/\w'.cell? _=_/\w'.cell? _=_/\w'.cell? _=_) rfl kR (d1.out _ qF t) (λU=>?_)
   simp only[List.replicate_succ,List.replicate_zero]
   iterate 6 refine Ax 0 ?_
   refine Ay 6 λK d=>?_
   refine Ka rfl 36 150 1 _ rfl underlying36 _ (Eq.trans (congrArg (Program.builtSlice prog 150 1) (show _=[(0,Value.agg #[int i64 ((R:Int)+1),c,y.j1,(I,y.c,J),y.v,y.f,y.j,y.w,y.h,y.x,st,Y,s])] from by first|(simp[go_sem];done)|rfl|kernel_rfl)) (Hr ((R:Int)+1) c y.v y.f y.j y.w y.x st Y s y.j1 y.h I y.c J)) ?_
   refine d _ _ (d1 _ (zg qF _) (zg t _)) (λU=>?_)
   clear d K;simp only[Act.put,sB,sZ,sS];have k0:F2.drew.heap.size=F2.heap.size:=rfl;refine Ay 7 λK d=>?_
   have Z:Hid (zz (F2.drew.alloc (.cells #[int i64 ((R:Int)+1),c,y.j1,(I,y.c,J),y.v,y.f,y.j,y.w,y.h,y.x,st,Y,s] 150)) _ _ _ _ N N R x L C A B D E):=HO.j0 (zd (Jh q) _);refine step_append_lies _ rfl _ _ 36 rfl _ 150 r0 _ 13 128 underlying36 ri j5 j6 j7 rfl dC _ R _ (by rfl) Z.u.row _ 1 1 [_,c,_,_,_,_,_,_,_,_,st,Y,s] rfl rfl (Jo (Jb F2.drew _)) (by intro u hu;simp at hu;rcases hu with rfl|rfl|rfl|rfl|rfl|rfl|rfl|rfl|rfl|rfl|rfl|rfl|rfl <;> rfl) dC (by unfold maxLen;omega) oM (by have:=g6.out;have:=q.size;simp;omega) _ rfl ?_
   intro g2 M u2 i6 b3 j8 j9;have qU:=(qY b3).blk (zg (zK qF) _) (λe=>by obtain⟨cs,e2⟩:=zC Z.u.row g e;rw[zg (zK qF) _] at e2;simp at e2)
   have bU:=(qY b3).blk (zg (zK t) _) (λe=>by have h1:=(HO.u.row.lt bb e).2;have:=o.size;omega)
   have aU:=(qY b3).blk (zg (zK a3) _) (λe=>by have h1:=(HO.u.row.lt _ e).2;omega)
   refine d _ _ (d1 _ qU bU) (λU=>?_)
   clear d K;simp only[Act.put,sB,sZ,sS]
   iterate 2 refine Ax 8 ?_
   have q0:=bC qU 2;have j4:=zc qU 2;refine kc λK d=>?_
   go_simp;refine d _ _ ?_;clear d K;refine qh kR ?_ _;have qG:=Tq qU (some (g2,0),R+1,M);have bG:=zG (b':=g) bU 2 (some (g2,0),R+1,M) oM;have aG:=zG (b':=g) aU 2 (some (g2,0),R+1,M) oM;have j1:Hid (zz _ _ _ _ _ N N R { x with g:=R+1,u:=Qq _ R (Aw R c y) } L C A B D E):=⟨Z.G,Z.F,Z.u.congr (λi hi=>(Au _ _ _ oM).symm)⟩
   have j0:Hid (zz u2 base (a2,N,b2) (a1,N,b1) (some (g2,0),R+1,M) N N (R+1) { x with g:=R+1,u:=Qq x.u R (Aw R c y) } L C A B D (AP E R (I,y.c,J))):=by
    refine j1.book (λi hi b e=>by have h1:=((HO.u.j4 i hi).lt b e).2;have:=o.size;omega) ?_ (Jp g6 o.size) b3 ?_
    ·dsimp only
     rw[ZS,b9.out];exact zm (zd (Jh bZ) _) b4
    ·have e1:AQ (Qq _ R (Aw R c y)) E R=AQ x.u E R:=List.map_congr_left λj hj=>by
      have k7:=by simpa using hj
      unfold qd AM;rw[Au _ _ _ oM]
     dsimp only;rw[e1];unfold AM;rw[ZS,qg,b9.out];exact i6
   have b6:zl u2 (u2.setCell _ (some (g2,0),R+1,M)) _:=(zl.refl u2 (λb=>b=g)).set (a:=(g,2)) rfl _
   have h6:=hI (j0.box b6 qU dC);have h4:Hid (zl w _ (λb=>_∨_)):=((zl.of_below (zd (Jh q) _)).trans ((qY b3).mono (λb e=>.inr e))).trans (b6.mono (λb e=>.inl e))
   have c0:=bC bG 0;generalize u2.setCell _ _=Z1 at qG bG aG b6 h6 h4 c0 ⊢;obtain⟨h5,h7,h0,bF⟩:=BY h4 h6 qG aG oM () (int i64 ((R:Int)+1)) s True rfl;obtain⟨v0,v1,v2,v3⟩:=Qk aG;obtain⟨e0,e1,e2,e3⟩:=EV aG;have b7:=hI h5;have g8:=hI h7;have g7:=hI h0;clear h5 h7 h0;clear q0 j4 U b6 i6;go_wp2;obtain⟨x0,x1,x2,x3⟩:=Qk bF;refine Jj (v:=.agg #[(),int i64 ((R:Int)+1),s,True]) (by simp[results,results93,go_sem,x0,x1,x2,x3]) rfl ?_
   rw[c9.out] at b7 g8 g7 ⊢;exact⟨_,_,_,_,rfl,rfl,b7,g8,g7⟩
end Go.Proofs.YtmdnjgihooflfaaGreatDoor
