/-
  OWN TEXT: StepOwn, SpecOld, SpecOwA, SettF, SettG, FormsI, WhereI.
-/
import Derived.Deep.RegionLawGrows
import Derived.Deep.AppendLies
import Derived.Deep.RegionHeld3
import Derived.Deep.DeepCutAuto
import Derived.Great.Walk
import Derived.Laws.Tables
import Derived.Test.YtmdnjgihooflfaaGreatDoorRows
import Derived.Test.YtmdnjgihooflfaaGreatDoorB22
namespace Go.Proofs.YtmdnjgihooflfaaGreatDoor
open Go.RowKit
open Go.Value (int)
open Go.IntKind (i64)
open Tryz
set_option maxHeartbeats 64000000
set_option maxRecDepth 100000
theorem zP {P:Program}{A:Array Oper}{o:Oper}{a:Act}{w:World}{K:Act->World->Prop}{Q:Exit->Act->World->Prop}{E:Prop}
  (l:o.guard=none) (s x:Operand) (t:TypeId) (r:o.op=Op.call { callee:=Callee.builtin Builtin.append,args:=#[s,x],argTypes:=#[t,t] })
  (e:TypeId) (i:TypeInfo) (z:Value) (size bytes:Nat) (h1:P.underlying t=some (.slice e)) (h2:P.info? e=some i) (h3:i.zero=some z) (F:i.size=size) (L:i.bytes=bytes) (M:z.cells.size=size) (N:0<size)
  (base b:Nat) (C:a.eval s=.slice (some (b,0)) 0 0) (O:base<=b) (v:w.heap[b]?=some (.cells #[] e (0,0)))
  (bo:Option Addr) (m c:Nat) (f:List Value) (D:a.eval x=.slice bo m c) (n:bo=none->m=0/\c=0) (I:f.length=m*size) (S:∀ ad,bo=some ad->∀ j u,f[j]?=some u->w.cell? (ad.add j)=some u) (B:∀ u ∈ f,u.oneCell'=true)
  (b1:m<=maxLen) (J:m*bytes<=140737488355328)
  (G:∀ k c' w',w.grownBy w' none->w'.ownsRow base e size (k,m,c') m f->(∀ g,(Value.slice k m c').ownBlock=some g->g=b∨w.heap.size<=g)->K (a.put o.dst (k,m,c')) w') :
  if Region.wanted o (yielded A a.tmps)=true then Oper.wp P o a w K Q else E:=by
 have R:=zM v
 by_cases hm:m=0
 ·subst hm
  have q:=List.eq_nil_of_length_eq_zero (by simpa using I)
  subst q;have H:=G _ 0 w (World.grownBy.refl w _) ⟨by simp,.inr ⟨b,0,#[],rfl,O,v,Jr _,Jq _,by simp,by simp⟩⟩ (λg l=>by simp only[Value.ownBlock,Option.some.injEq] at l;exact .inl l.symm)
  have V:Region.wanted o (yielded A a.tmps)=true:=by simp[Region.wanted,l]
  cases bo with
  | none =>
   obtain⟨_,rfl⟩:=n rfl;rw[Jf V];unfold Oper.wp;have y:(Builtin.append_ #[t,t] o.type #[(some (b,0),0,0),True]).run P w=.ok (some (b,0),0,0) w:=by
    simp[Builtin.append_,run_underlying h1,sizeOf,typeInfo,h2,Builtin.lenOf,Builtin.firstCells,storeCells]
   simp[execOp,r,resolve,invoke,builtin,C,D,y,Result.andThen];exact H
  | some ad=>exact step_append_room l s x t r e i _ h1 h2 F b 0 0 0 C ad 0 c [] D (by simp) (by simp) (by simp) (Jr _) (by simp) (by simpa [World.setCells] using H)
 ·cases bo with
  | none=>exact absurd (n rfl).1 hm
  | some ad =>
   refine step_append_grows l s x t r e i z _ _ h1 h2 h3 F L M N _ 0 0 [] C (by intro h;cases h) (by simp) (by simp) ad m c _ D I (S ad rfl) B (by omega) (by omega) (by rw[Nat.zero_add];exact J) ?_
   intro v' w' d p;rw[Nat.zero_add,List.nil_append] at d;obtain⟨k,c',rfl,T,U,_⟩:=zp d;exact G k c' w' p (zu d (by omega)) (λg l=>.inr (d.lt g l).1)
theorem zfT (w:World)(o p:Obj):((w.alloc o).alloc p).heap[w.heap.size+1]?=some p:=by simpa using Jb (w.alloc o) p
theorem Qa (w:World)(o:Obj)(b:Nat)(h:b=w.heap.size):(w.alloc o).heap[b]?=some o:=by rw[h];exact Jb w o
theorem zeN {w:World}{g t:Nat}{u0 u1 u2:Value}(h:w.heap[g]?=some (.cells #[u0,u1,u2] t (0,0)))(v0 v1 v2:Value):(((w.setCell (g,0) v0).setCell (g,1) v1).setCell (g,2) v2).heap[g]?=some (.cells #[v0,v1,v2] t (0,0)):=by
 simpa using zm (zm (zm h 0 v0) 1 v1) 2 v2
theorem zkQ (w:World)(g:Nat)(v0 v1 v2:Value):zx w (((w.setCell (g,0) v0).setCell (g,1) v1).setCell (g,2) v2) (λb=>b=g):=(((zx.refl w (λb=>b=g)).set (a:=(g,0)) rfl v0).set (a:=(g,1)) rfl v1).set (a:=(g,2)) rfl v2
theorem ziZ (n o p:Option Addr)(c1 c2 c3:Nat)(x:zY)(w:World)(hs:zY.Short x 1048576)(h1:qw w n x.stn x.st)(h2:qp w o x.ron x.ro)(h3:qE w p x.sen x.se)(s1:qj n x.stn c1)(s2:qj o x.ron c2)(s3:qj p x.sen c3) :
  Calls prog 138 #[.agg #[(n,x.stn,c1),(o,x.ron,c2),(p,x.sen,c3)]] w λe w'=>(∃ v1 v2 v3,e=.returned (.agg #[v1,v2,v3])/\w'.ownsRow w.heap.size 220 4 v1 x.stn (zy x.st x.stn)/\w'.ownsRow w.heap.size 228 4 v2 x.ron (zw x.ro x.ron)/\w'.ownsRow w.heap.size 234 2 v3 x.sen (zB x.se x.sen))/\Below w.heap.size w w':=by
 obtain⟨i0,ii,V,W,Y⟩:=info_parts Tryz.infoStay;obtain⟨j0,ji,Z,a0,a4⟩:=info_parts Tryz.infoRoom;obtain⟨k0,ki,a5,a6,a7⟩:=info_parts Tryz.infoSeat;obtain⟨b1,b2,b3⟩:=hs;have R:=hI s1.2.2;have S:=hI s2.2.2;have T:=hI s3.2.2;have K:Hid (_/\_/\_):=⟨h1,h2,h3⟩;clear h1 h2 h3 s1 s2 s3;have l:Below _ w ((w.alloc (.cells #[(n,x.stn,c1),(o,x.ron,c2),(p,x.sen,c3)] 145)).alloc (.cells #[True,True,True] 145)):=zk (zk bZ _) _;have y:=zoQ l;have L:=zfT w (.cells #[(n,x.stn,c1),(o,x.ron,c2),(p,x.sen,c3)] 145) (.cells #[True,True,True] 145);go_enter func138,ntmps138;go_upto_region 1 with fail;generalize (w.alloc _).alloc _=X at l y L ⊢;have hX:=zM L;have O:Hid (∀ w',_->qw w' n _ _):=λw' h=>K.1.below (ze l h)
 have P:Hid (∀ w',_->qp w' o _ _):=λw' h=>K.2.1.below (ze l h)
 have Q:Hid (∀ w',_->qE w' p _ _):=λw' h=>K.2.2.below (ze l h)
 have KS:Hid (∀ w',Below _ X w'->w'.cell? _=some (.slice n _ c1)/\w'.cell? _=some (.slice o _ c2)/\w'.cell? _=some (.slice p _ c3)):=λw' h=>⟨za (zb y h) 0 _ rfl,za (zb y h) 1 _ rfl,za (zb y h) 2 _ rfl⟩
 have U:Hid (∀ z,Below _ X z->∀ v1 v2 v3 I,I=((z.setCell (w.heap.size+1,0) v1).setCell (w.heap.size+1,1) v2).setCell (w.heap.size+1,2) v3->I.cell? _=some (.slice n _ c1)/\I.cell? _=some (.slice o _ c2)/\I.cell? _=some (.slice p _ c3)):=λz N v1 v2 v3 I e=>by
  subst e;have b:=(zkQ z (w.heap.size+1) v1 v2 v3).blk (zb y N) (by show _;omega)
  exact⟨za b 0 _ rfl,za b 1 _ rfl,za b 2 _ rfl⟩
 have J:Hid (∀ w',Below _ X w'->_):=λw' h=>zb L h
 have f:=hI l;obtain⟨x0,x1,x2⟩:=KS X bZ;have m:Hid (∀ z,Below _ X z->∀ v1 v2 v3,_->_->_->∀ A,A=((z.setCell (w.heap.size+1,0) v1).setCell (w.heap.size+1,1) v2).setCell (w.heap.size+1,2) v3 ->
   A.heap[w.heap.size+1]?=_/\(A.ownsRow _ 220 4 v1 x.stn (zy x.st x.stn)/\A.ownsRow _ 228 4 v2 x.ron (zw x.ro x.ron)/\A.ownsRow _ 234 2 v3 x.sen (zB x.se x.sen))/\_):=λz N v1 v2 v3 o1 o2 o3 A e=>by
  subst e;have M:=zkQ z (w.heap.size+1) v1 v2 v3;have b:=J z N;have hB:=ze f N;exact⟨zeN b v1 v2 v3,⟨M.own (zu o1 f.size) (zQ (zu o1 f.size) b (by decide)),M.own (zu o2 f.size) (zQ (zu o2 f.size) b (by decide)),M.own (zu o3 f.size) (zQ (zu o3 f.size) b (by decide))⟩,zx.below hB hB.size M (λk e=>by have e:=e;omega)⟩
 clear y L l K;go_region_held3 (λw'=>w'.cell? (w.heap.size,0)=some (n,x.stn,c1)/\w'.cell? (w.heap.size,1)=some (o,x.ron,c2)/\w'.cell? (w.heap.size,2)=some (p,x.sen,c3))
  (first|(with_reducible exact U.out u3 j.out _ _ _ _ rfl)|(with_reducible exact U.out u2 i.out _ _ _ _ rfl)|(with_reducible exact U.out u1 g.out _ _ _ _ rfl)|(refine KS.out _ ?_;exact(by repeat(first|exact bZ|refine Jh ?_|refine zk ?_ _|refine ze ?_ (zr a)|refine ze ?_ (zr c)|refine ze ?_ (zr d)))))
  (first
   | (refine zP rfl _ _ 143 rfl 234 k0 _ 2 16 underlying143 ki a5 a6 a7 rfl (by decide) X.heap.size _ rfl (by first | exact Jr _ | omega | (simp;done) | (simp;omega) | (have h1:=g.size;simp;omega) | (have h1:=g.size;omega) | (have h1:=i.size;simp;omega) | (have h1:=i.size;omega)) (by repeat(first | ((with_reducible refine Qa _ _ _ ?_);(first | rfl | (simp;done))) | with_reducible refine zK ?_ | with_reducible refine zd ?_ _ | with_reducible refine zb ?_ (zr a) | with_reducible refine zb ?_ (zr c))) p _ c3 _ rfl T (Zo _ _) (zaP (Q _ (by repeat(first | exact bZ | refine Jh ?_ | refine zk ?_ _ | refine ze ?_ (zr a) | refine ze ?_ (zr c) | refine ze ?_ (zr d))))) (zar _ _) (by unfold maxLen;omega) (by omega) ?_;intro p3 q3 u3 d s H;clear H;have j:Hid (Below _ X u3):=(by repeat(first | exact bZ | refine Jh ?_ | refine zk ?_ _ | refine ze ?_ (zr a) | refine ze ?_ (zr c) | refine ze ?_ (zr d)));have v:=J u3 j;have y0:=za v 0 _ rfl;have y1:=za v 1 _ rfl;have y2:=za v 2 _ rfl;have f0:=zg v 0;have f1:=zg v 1;have f2:=zg v 2;clear v;have E:=hI s;(first | (refine(λ(C:Hid (u3.ownsRow X.heap.size 220 4 (p1,x.stn,q1) x.stn (zy x.st x.stn)))=>?_) (zo ?_ q);rotate_left;(focus(repeat(first | exact bZ | refine Jh ?_ | refine zk ?_ _ | refine ze ?_ (zr d) | refine ze ?_ (zr c))))) | skip);(first | (refine(λ(D:Hid (u3.ownsRow X.heap.size 228 4 (p2,x.ron,q2) x.ron (zw x.ro x.ron)))=>?_) (zo ?_ r);rotate_left;(focus(repeat(first | exact bZ | refine Jh ?_ | refine zk ?_ _ | refine ze ?_ (zr d) | refine ze ?_ (zr a))))) | skip))
   | (refine zP rfl _ _ 142 rfl 228 j0 _ 4 32 underlying142 ji Z a0 a4 rfl (by decide) X.heap.size _ rfl (by first | exact Jr _ | omega | (simp;done) | (simp;omega) | (have h1:=g.size;simp;omega) | (have h1:=g.size;omega) | (have h1:=j.size;simp;omega) | (have h1:=j.size;omega)) (by repeat(first | ((with_reducible refine Qa _ _ _ ?_);(first | rfl | (simp;done))) | with_reducible refine zK ?_ | with_reducible refine zd ?_ _ | with_reducible refine zb ?_ (zr a) | with_reducible refine zb ?_ (zr d))) o _ c2 _ rfl S (qK _ _) (Qv (P _ (by repeat(first | exact bZ | refine Jh ?_ | refine zk ?_ _ | refine ze ?_ (zr a) | refine ze ?_ (zr c) | refine ze ?_ (zr d))))) (Z5 _ _) (by unfold maxLen;omega) (by omega) ?_;intro p2 q2 u2 c r G;clear G;have i:Hid (Below _ X u2):=(by repeat(first | exact bZ | refine Jh ?_ | refine zk ?_ _ | refine ze ?_ (zr a) | refine ze ?_ (zr c) | refine ze ?_ (zr d)));have u:=J u2 i;have y0:=za u 0 _ rfl;have y1:=za u 1 _ rfl;have y2:=za u 2 _ rfl;have f0:=zg u 0;have f1:=zg u 1;have f2:=zg u 2;clear u;have D:=hI r;(first | (refine(λ(C:Hid (u2.ownsRow X.heap.size 220 4 (p1,x.stn,q1) x.stn (zy x.st x.stn)))=>?_) (zo ?_ q);rotate_left;(focus(repeat(first | exact bZ | refine Jh ?_ | refine zk ?_ _ | refine ze ?_ (zr c) | refine ze ?_ (zr d))))) | skip);(first | (refine(λ(E:Hid (u2.ownsRow X.heap.size 234 2 (p3,x.sen,q3) x.sen (zB x.se x.sen)))=>?_) (zo (w:=u3) ?_ s);rotate_left;(focus(repeat(first | exact bZ | refine Jh ?_ | refine zk ?_ _ | refine ze ?_ (zr c) | refine ze ?_ (zr a))))) | skip))
   | (refine zP rfl _ _ 141 rfl 220 i0 _ 4 32 underlying141 ii V W Y rfl (by decide) X.heap.size _ rfl (by first | exact Jr _ | omega | (simp;done) | (simp;omega) | (have h1:=i.size;simp;omega) | (have h1:=i.size;omega) | (have h1:=j.size;simp;omega) | (have h1:=j.size;omega)) (by repeat(first | ((with_reducible refine Qa _ _ _ ?_);(first | rfl | (simp;done))) | with_reducible refine zK ?_ | with_reducible refine zd ?_ _ | with_reducible refine zb ?_ (zr c) | with_reducible refine zb ?_ (zr d))) n _ c1 _ rfl R (ZR _ _) (zal (O _ (by repeat(first | exact bZ | refine Jh ?_ | refine zk ?_ _ | refine ze ?_ (zr a) | refine ze ?_ (zr c) | refine ze ?_ (zr d))))) (QQ _ _) (by unfold maxLen;omega) (by omega) ?_;intro p1 q1 u1 a q F;clear F;have g:Hid (Below _ X u1):=(by repeat(first | exact bZ | refine Jh ?_ | refine zk ?_ _ | refine ze ?_ (zr a) | refine ze ?_ (zr c) | refine ze ?_ (zr d)));have t:=J u1 g;have y0:=za t 0 _ rfl;have y1:=za t 1 _ rfl;have y2:=za t 2 _ rfl;have f0:=zg t 0;have f1:=zg t 1;have f2:=zg t 2;clear t;have C:=hI q;(first | (refine(λ(D:Hid (u1.ownsRow X.heap.size 228 4 (p2,x.ron,q2) x.ron (zw x.ro x.ron)))=>?_) (zo (w:=u2) ?_ r);rotate_left;(focus(repeat(first | exact bZ | refine Jh ?_ | refine zk ?_ _ | refine ze ?_ (zr a) | refine ze ?_ (zr d))))) | skip);(first | (refine(λ(E:Hid (u1.ownsRow X.heap.size 234 2 (p3,x.sen,q3) x.sen (zB x.se x.sen)))=>?_) (zo (w:=u3) ?_ s);rotate_left;(focus(repeat(first | exact bZ | refine Jh ?_ | refine zk ?_ _ | refine ze ?_ (zr a) | refine ze ?_ (zr c))))) | skip)))
 all_goals
  first
   | (have B:=hI (m u3 j _ _ _ C D E _ rfl))
   | (have B:Hid _:=m u2 i _ _ _ C D E _ rfl)
   | (have B:Hid _:=m u1 g _ _ _ C D E _ rfl)
  go_wp2;have rF:=B.1;obtain⟨t0,t1,t2⟩:=ce3 rF;exact Jj (by simp[results,results138,go_sem,t0,t1,t2]) rfl ⟨⟨_,_,_,rfl,B.2.1⟩,B.2.2⟩
section
open Go.RowKit
variable{w:World}{g t:Nat}{u0 u1 u2 u3 u4 u5 u6 u7:Value}
theorem Tryz.infoLoadO:(Tryz.prog.info? 145).map (λi=>(i.zero,i.size,i.bytes))=some (some (.agg #[True,True,True]),3,72):=by kernel_rfl
theorem Tryz.infoBookingO:(Tryz.prog.info? 150).map (λi=>(i.zero,i.size,i.bytes))=some (some (.agg #[(),(),False,True,(),(),(),(),.bool false,(),(),(),()]),13,128):=by kernel_rfl
theorem sbox_5 (h:w.heap[g]?=some (.cells #[u0,u1,u2,u3,u4,u5,u6,u7] t (0,0)))(v:Value):(w.setCell (g,5) v).heap[g]?=some (.cells #[u0,u1,u2,u3,u4,v,u6,u7] t (0,0)):=by simpa using zm h 5 v
theorem sbox_6 (h:w.heap[g]?=some (.cells #[u0,u1,u2,u3,u4,u5,u6,u7] t (0,0)))(v:Value):(w.setCell (g,6) v).heap[g]?=some (.cells #[u0,u1,u2,u3,u4,u5,v,u7] t (0,0)):=by simpa using zm h 6 v
theorem bbox_3 {u8 u9 u10 u11 u12:Value}(h:w.heap[g]?=some (.cells #[u0,u1,u2,u3,u4,u5,u6,u7,u8,u9,u10,u11,u12] t (0,0)))(v:Value):(w.setCell (g,3) v).heap[g]?=some (.cells #[u0,u1,u2,v,u4,u5,u6,u7,u8,u9,u10,u11,u12] t (0,0)):=by simpa using zm h 3 v
theorem QY {c:Option Addr}{n:Nat}{F:Nat->Int}(h:zT w c n F):∀ a,c=some a->∀ j u,(zS F n)[j]?=some u->w.cell? (a.add j)=some u:=by
 intro a e j u i;obtain⟨g,rfl⟩:=zcD F n j u i;obtain⟨b,off,d,f⟩:=h j g;rw[e] at d
 cases d
 rw[Addr.add_lit];exact f
theorem Tryz.sizeBookingO:(Tryz.prog.info? 150).map (·.size)=some 13:=by kernel_rfl
theorem zeO (n a pe len hei cl be st d c:Int)(o:ByteArray)(al:Bool)(la:Option Addr)(ln b:Nat) :
  Tryz.prog.builtSlice 150 1 [(0,.agg #[int i64 n,int i64 a,.string o,.slice la ln b,int i64 pe,int i64 len,int i64 hei,int i64 cl,.bool al,int i64 be,int i64 st,int i64 d,int i64 c])]=some #[int i64 n,int i64 a,.string o,.slice la ln b,int i64 pe,int i64 len,int i64 hei,int i64 cl,.bool al,int i64 be,int i64 st,int i64 d,int i64 c]:=by kernel_rfl
structure OwSt (w V a:World)(v1 v2 v3:Value)(c d e:Nat)(x:Off)(L C A B D E:Nat->Value):Prop where
 q:a.heap[w.heap.size+1+1]?=some (.cells #[v1,v2,v3] 38 (0,0))
 own:zF a V.heap.size v1 v2 v3 c d e x L C A B D E
 kp:zx V a (λb=>b=w.heap.size+1+1∨V.heap.size<=b)
theorem zdx (ao al bo:Option Addr)(N M R c cl cb:Nat)(x:Off)(w:World)(e1:x.san=N)(e2:x.ldn=M)(I:x.bkn=R)(hs:Off.Short x 1048576)(hz:qB w ao N x.sa)(hl:ZG w al M x.ld)(l6:qO w bo R x.bk) :
  Calls prog 70 #[.agg #[.slice ao N c,.slice al M cl,.slice bo R cb]] w λe w'=>(∃ a1 c1 a2 c2 m c3 L C A B D E,e=.returned (.agg #[.slice a1 N c1,.slice a2 M c2,.slice m R c3])/\zF w' w.heap.size (.slice a1 N c1) (.slice a2 M c2) (.slice m R c3) N M R x L C A B D E)/\Below w.heap.size w w':=by
 obtain⟨j0,ji,n7,n8,n9⟩:=info_parts Tryz.infoSailing;obtain⟨l0,li,o0,o4,o5⟩:=info_parts Tryz.infoLane;obtain⟨m0,mi,o6,o7,o8⟩:=info_parts Tryz.infoCabin;obtain⟨p0,pi,o9,p1,p2⟩:=info_parts Tryz.infoLoadO;obtain⟨r0,ri,p3,p4,p5⟩:=info_parts Tryz.infoBookingO;obtain⟨i0,ii,n4,n5,n6⟩:=info_parts Tryz.infoInt;have HS:Hid (QL N x.sa 1048576):=by have h:=hs.1.2;rw[e1] at h;exact h
 have k7:Hid (ZA M x.ld 1048576):=by have h:=hs.2.1.2;rw[e2] at h;exact h
 have m8:Hid (Z2 R x.bk 1048576):=by have h:=hs.2.2.2;rw[I] at h;exact h
 have hN:N<=1048576:=by have h:=hs.1.1;omega
 have hM:M<=1048576:=by have h:=hs.2.1.1;omega
 have hR:R<=1048576:=by have h:=hs.2.2.1;omega
 have HZ:=hI hz;have HL:=hI hl;have l9:=hI l6;clear hs hz hl l6 e1 e2 I;have n:Below _ w (((w.alloc (.cells #[(ao,N,c),(al,M,cl),(bo,R,cb)] 38)).alloc (.cells #[True,True,True] 38)).alloc (.cells #[True,True,True] 38)):=zk (zk (zk bZ _) _) _;have bO:=nw3B0 n;have bR:=nw3B1 n;have bQ:=nw3B2 n;go_enter func70,ntmps70;go_wp2;generalize ((w.alloc _).alloc _).alloc _=V at n bO bR bQ ⊢;have j8:=hI bO;have m1:=hI bR;have q5:=zM bQ;go_loopw [5,14] (λ_ i wr=>∃ (k:Nat) (v:Value) (L C:_),k<=N/\i=int i64 k/\wr.heap[w.heap.size+1+1]?=some (.cells #[v,True,True] 38 (0,0))/\qM wr V.heap.size v k x.sa L C/\zx V wr (λb=>b=w.heap.size+1+1∨V.heap.size<=b)) (λ_ i _=>N - (intOf i).toNat)
 case atStart=>exact⟨0,_,λ_=>.slice none 0 0,λ_=>.slice none 0 0,Jq _,rfl,bQ,qM.nil _ _ _ _ _,zx.refl _ _⟩
 case round =>
  clear bO bR bQ;obtain⟨k,v,L,C,hk,rfl,hQ,hO,b3⟩:=hrel;have d:=zx.below n n.size b3 (λb e=>by have e:=e;have:=n.size;omega)
  have b0:=b3.size
  by_cases hlt:k<N
  ·obtain⟨b,off,la,lc,ca,cc,rfl,h0,h1,h2,h3,h4,h5,h6,h7,h8,h9,i3,i4⟩:=HZ.out k hlt
   obtain⟨s,j6⟩:∃ s,s=x.sa k:=⟨_,rfl⟩;obtain⟨_,_,s3,s4⟩:=HS.out k hlt;rw[← j6] at h0 h1 h2 h3 h4 h5 h6 h7 h8 h9 i3 i4 s3 s4;have g8:=hI j6;have l:=Ja w _ h1;have c0:=(d.cell (p:=⟨b,off+_,_⟩) l).trans h0;have c1:=(d.cell l).trans h1;have c2:=(d.cell (p:=⟨b,_+2,_⟩) l).trans h2;have c3:=(d.cell (p:=⟨b,_+3,_⟩) l).trans h3;have c4:=(d.cell (p:=⟨b,_+4,_⟩) l).trans h4;have c5:=(d.cell (p:=⟨b,_+5,_⟩) l).trans h5;have c6:=(d.cell (p:=⟨b,_+6,_⟩) l).trans h6;have c7:=(d.cell (p:=⟨b,_+7,_⟩) l).trans h7;have k2:Hid (_/\_):=⟨h8,i3⟩;have j9:Hid (_/\_):=⟨h9,i4⟩;clear h0 h1 h2 h3 h4 h5 h6 h7 h8 h9 i3 i4 j6;have b2:Hid (∀ i,_->_/\_):=λi hi=>⟨λb l=>((hO.la i hi).lt b l).2,λb l=>((hO.ca i hi).lt b l).2⟩
   have o:Below _ wr (wr.alloc (.cells (s,la,lc,ca,cc) 140)):=zk bZ _;have bX:=zoP o;have F:=zd bX (.cells #[] 223);have q:Below _ wr ((wr.alloc _).alloc (.cells #[] 223)):=zk o _;have x5:=za F 5 _ rfl;have hE:((wr.alloc (.cells (s,la,lc,ca,cc) 140)).alloc _).ownsRow _ 223 2 _ 0 []:=⟨rfl,.inr ⟨_,0,#[],rfl,Jr _,zfT wr _ _,Jr _,Jq _,rfl,rfl⟩⟩;have HE:Hid _:=hE;have S:=hI (zcI (k2.out.1.below (ze d q)));have T:=hI k2.out.2.2.2;clear hE;go_upto_region 6 with(first|(at_builtin;refine zv _ (by rfl) _ _ 137 (by rfl) _ 223 l0 _ 2 16 underlying137 li o0 o4 o5 rfl (by decide) _ 0 [] (by rfl) HE.out la _ lc _ (by rfl) T.out (zaT _) S.out (zcH _) (by unfold maxLen;omega) (by omega) (by simp) ?_;intro v3 w3 Q a5;rw[Nat.zero_add,List.nil_append] at Q;obtain⟨m,I,rfl,_⟩:=zp Q;have K:=(qJ a5).blk F (by simp[Value.ownBlock]);have u5:=za K 5 _ rfl;have f5:=zg K 5;have b6:=q.grown a5 q.size (λj hj=>by simp[Value.ownBlock] at hj;omega)))
   have U:=sbox_5 K (m,s.la.n,I);have O:Below _ wr (w3.setCell _ (m,s.la.n,I)):=b6.setCell (p:=(wr.heap.size,5)) (Jr _) _;have j3:(w3.setCell _ (m,s.la.n,I)).ownsRow _ 223 2 _ _ _:=ZW Q (a:=(wr.heap.size,5)) (by show wr.heap.size<_;omega) _
   generalize w3.setCell _ _=W4 at U O j3 ⊢;have b1:=hI j3;clear K u5 f5 b6 Q a5 x5 o bX F q HE S T j3 c0 c1 c2 c3 c4 c5 c6 c7;have F:=zd U (.cells #[] 231);have q:Below _ wr (W4.alloc (.cells #[] 231)):=zk O _;have b7:Below _ W4 (W4.alloc (.cells #[] 231)):=zk bZ _;have x6:=za F 6 _ rfl;have q3:=zM U;have hE:(W4.alloc _).ownsRow _ 231 2 _ 0 []:=⟨rfl,.inr ⟨_,0,#[],rfl,Jr _,Jb W4 _,Jr _,Jq _,rfl,rfl⟩⟩;have HE:Hid _:=hE;have S:=hI (zcI (j9.out.1.below (ze d q)));have T:=hI j9.out.2.2.2;clear hE;go_upto_region 7 with(first|(at_builtin;refine zv _ (by rfl) _ _ 138 (by rfl) _ 231 m0 _ 2 16 underlying138 mi o6 o7 o8 rfl (by decide) _ 0 [] (by rfl) HE.out ca _ cc _ (by rfl) T.out (zaT _) S.out (zcH _) (by unfold maxLen;omega) (by omega) (by simp) ?_;intro v6 w6 e8 j1;rw[Nat.zero_add,List.nil_append] at e8;obtain⟨a6,e6,rfl,_⟩:=zp e8;have d7:=(qJ j1).blk F (by simp[Value.ownBlock];omega);have u6:=za d7 6 _ rfl;have f6:=zg d7 6;have X:=b7.grown j1 b7.size (λj hj=>by simp[Value.ownBlock] at hj;omega)))
   have k9:=sbox_6 d7 (a6,s.ca.n,e6);have i8:Below _ wr (w6.setCell _ (a6,s.ca.n,e6)):=(ze O X).setCell (p:=(wr.heap.size,6)) (Jr _) _;have j4:(w6.setCell _ (a6,s.ca.n,e6)).ownsRow _ 223 2 _ _ _:=ZW (zo X b1.out) (a:=(wr.heap.size,6)) (by show wr.heap.size<_;omega) _
   have i9:(w6.setCell _ (a6,s.ca.n,e6)).ownsRow (wr.heap.size+1) 231 2 _ _ _:=zu (ZW e8 (a:=(wr.heap.size,6)) (by show wr.heap.size<W4.heap.size;omega) _) (by omega)
   generalize w6.setCell _ _=W7 at k9 i8 j4 i9 ⊢;clear U F d7 u6 f6 X e8 j1 x6 q b7 HE S T b1 O;obtain⟨av,cv,rfl,_⟩:=zp hO.row;have l5:=zb hQ i8;obtain⟨y0,y1,y2,y3,y4,y5,y6,y7⟩:=ce8 k9;have q0:=za l5 0 _ rfl;have a4:Below _ wr (W7.alloc (.cells (s,m,I,a6,e6) 140)):=zk i8 _;have f8:Below _ W7 (W7.alloc (.cells (s,m,I,a6,e6) 140)):=zk bZ _;have l2:=hO.below a4;have l8:=zo f8 j4;have l7:=zo f8 i9;have i6:=zd l5 (.cells (s,m,I,a6,e6) 140);have g5:Hid (∀ j u,([_,_,_,_,_,_,_,_]:List Value)[j]?=_->(W7.alloc (.cells (s,m,I,a6,e6) 140)).cell? _=_):=Jo (Jb W7 _);have J:=hI l2;have k3:Hid (_/\_):=⟨l8,l7⟩;have d1:=Jp b0 a4.size;clear l2 l8 l7 j4 i9;go_wp2_with (first|(at_builtin;refine zv _ (by rfl) _ _ 34 (by rfl) _ 140 j0 _ 8 112 underlying34 ji n7 n8 n9 rfl (by decide) _ k _ (by rfl) J.out.row _ 1 1 [_,_,_,_,_,_,_,_] (by rfl) (λh=>(by cases h)) (by rfl) (λad e=>by cases e;exact g5.out) (by intro u hu;simp at hu;rcases hu with rfl|rfl|rfl|rfl|rfl|rfl|rfl|rfl <;> rfl) (by unfold maxLen;omega) (by omega) d1 ?_;intro v9 w9 b9 a7;obtain⟨a9,e9,rfl,_⟩:=zp b9;have W:=(qJ a7).blk i6 (λe=>by have:=(J.out.row.lt _ e).1;omega);have r9:=za W 0 _ rfl;have f9:=zg W 0))
   have e5 :=
    J.out.snoc (lim:=wr.heap.size+1) (λi hi=>⟨λb l=>by have:=(b2.out i hi).1 b l;omega,λb l=>by have:=(b2.out i hi).2 b l;omega⟩) (by rw[← g8.out];exact k3.out.1) (by rw[← g8.out];exact k3.out.2) (by omega) a7 (by rw[← g8.out];exact b9)
   have H:zx w9 (w9.setCell _ (a9,k+1,e9)) _:=(zx.refl _ (λb=>b=_+1)).set (a:=(w.heap.size+1+1,0)) rfl _
   have b4:=hI (e5.kept H (λb e=>by have e:=e;omega))
   have m4 :=
    hI ((b3.trans (zx.of_below a4)).trans (((qJ a7).mono (λb e=>.inr (J.out.row.lt b e).1)).trans (H.mono (λb e=>.inl e))))
   have g4:=off_at0 W (a9,k+1,e9);have g4:=hI g4;go_wp2;go_roundw
   case rel=>exact⟨_,_,_,_,by omega,by go_num,g4.out,b4.out,m4.out⟩
   case measure=>simp[intOf];omega
  ·obtain rfl:k=N:=by omega
   have o1:=za (b3.blk j8.out (λe=>by have e:=e;omega)) 1 _ rfl
   have k6:Hid (OwSt w V wr v _ _ k 0 0 x L C (λ_=>.slice none 0 0) (λ_=>.slice none 0 0) (λ_=>.slice none 0 0) (λ_=>.slice none 0 0)):=⟨hQ,⟨hO,qC.nil _ _ _ _ _ _,ZC.nil _ _ _ _⟩,b3⟩
   obtain⟨av,cv,rfl,_⟩:=zp hO.row;clear hlt d hO hQ b3 b0 hk HZ HS;go_wp2;clear o1;go_loopw [7,38] (λ_ i wz=>∃ (t:Nat) (lv:Value) (A B D:_),t<=M/\i=int i64 t/\Hid (OwSt w V wz (av,k,cv) lv True k t 0 x L C A B D (λ_=>.slice none 0 0))) (λ_ i _=>M - (intOf i).toNat)
   case atStart=>exact⟨0,_,_,_,_,Jq _,rfl,k6.out⟩
   case round =>
    clear k6;obtain⟨t,lv,A,B,D,ht,rfl,f⟩:=hrel;have d:=zx.below n n.size f.out.kp (λb e=>by have e:=e;have:=n.size;omega)
    obtain⟨ae,ce,rfl,_⟩:=zp f.out.own.ld.row
    by_cases hlt:t<M
    ·obtain⟨Cc,d0,b8⟩:=HL.out
     obtain⟨b,off,rfl,G⟩:=d0 t hlt;obtain⟨d4,d8,d5,d9,d6,e0,a0,g1,s1,g2,s2,g3,s3⟩:=b8 t hlt;have a8:=k7.out t hlt;obtain⟨z,hz⟩:∃ z,z=x.ld t:=⟨_,rfl⟩;rw[← hz] at a0 g1 s1 g2 s2 g3 s3 a8;have g9:=hI hz;rw[a0] at G;have l:=Ja w _ (G 0 (by decide))
     have c0:wr.cell? _=some (.slice d4 _ d8):=(d.cell (p:=⟨b,off+_,_⟩) l).trans (G 0 (by decide))
     have c1:wr.cell? _=some (.slice d5 _ d9):=(d.cell (p:=⟨b,_+1,_⟩) l).trans (G 1 (by decide))
     have c2:wr.cell? _=some (.slice d6 _ e0):=(d.cell (p:=⟨b,_+2,_⟩) l).trans (G 2 (by decide))
     have Y:Hid (_/\(_/\_)/\(_/\_)/\(_/\_)):=⟨a8,⟨g1,s1⟩,⟨g2,s2⟩,⟨g3,s3⟩⟩;have m2:=hI d;clear G a0 g1 s1 g2 s2 g3 s3 a8 hz d0 b8;have o:Below _ wr (wr.alloc (.cells #[(d4,z.stn,d8),(d5,z.ron,d9),(d6,z.sen,e0)] 145)):=zk bZ _;have bX:=zoP o;have i7:=zd f.out.q (.cells #[(d4,z.stn,d8),(d5,z.ron,d9),(d6,z.sen,e0)] 145)
     as_aux_lemma =>
      go_upto_region 12 with fail;generalize hbxx:wr.heap.size=bx at bX ⊢;generalize wr.alloc _=WB at o bX i7 ⊢;rw[← hbxx] at *;clear c0 c1 c2;obtain⟨x0,x1,x2⟩:=ce3 bX;have q1:=za i7 1 _ rfl;have d3:=hI (f.out.own.below o);have k0:=hI (f.out.kp.trans (zx.of_below o));have g0:=k0.out.size;have b2:Hid (∀ i,_->_/\_/\_):=λi hi=>⟨λg hg=>((d3.out.ld.st i hi).lt g hg).2,λg hg=>((d3.out.ld.ro i hi).lt g hg).2,λg hg=>((d3.out.ld.se i hi).lt g hg).2⟩
      have m3:Hid (∀ Z,Below _ WB Z->Calls _ 138 _ Z λe w5=>(∃ a1 c1 a2 c2 m c3,e=.returned (.agg #[.slice a1 _ c1,.slice a2 _ c2,.slice m _ c3])/\Hid (w5.ownsRow _ 220 4 (.slice a1 _ c1) _ _/\w5.ownsRow _ 228 4 (.slice a2 _ c2) _ _/\w5.ownsRow _ 234 2 (.slice m _ c3) _ _))/\Below _ WB w5):=λZ hZ=>by
       have j7:=ze m2.out (ze o hZ);refine(ziZ d4 d5 d6 d8 d9 e0 z Z Y.out.1 (Y.out.2.1.1.below j7) (Y.out.2.2.1.1.below j7) (Y.out.2.2.2.1.below j7) Y.out.2.1.2 Y.out.2.2.1.2 Y.out.2.2.2.2).mono ?_;rintro e w5 ⟨⟨v1,v2,v3,rfl,o1,o2,o3⟩,n2⟩;obtain⟨a1,c1,rfl,_⟩:=zp o1;obtain⟨a2,c2,rfl,_⟩:=zp o2;obtain⟨m,c3,rfl,_⟩:=zp o3;exact⟨⟨a1,c1,a2,c2,m,c3,rfl,zu o1 hZ.size,zu o2 hZ.size,zu o3 hZ.size⟩,ze hZ n2⟩
      clear f bX d;go_region_law (first
       | (go_simp;go_at_call 138;(with_reducible refine Jm (m3.out _ ?_) ?_);(focus(repeat(first | exact bZ | refine Jh ?_ | refine zk ?_ _)));rintro e w5 ⟨⟨a1,c1,a2,c2,m,c3,rfl,g7⟩,X⟩;have i5:=zb i7 X;have qq:=za i5 1 _ rfl;have qa:=za (zd i5 (.cells #[(a1,z.stn,c1),(a2,z.ron,c2),(m,z.sen,c3)] 145)) 1 _ rfl;have d2:Hid (zF (w5.alloc (.cells #[(a1,z.stn,c1),(a2,z.ron,c2),(m,z.sen,c3)] 145)) _ _ _ _ k t 0 x L C A B D _):=d3.out.below (zk X _);have n3:V.heap.size<=(w5.alloc (.cells #[(a1,z.stn,c1),(a2,z.ron,c2),(m,z.sen,c3)] 145)).heap.size:=Jp g0 (zk X _).size;dsimp only)
       | (refine step_append_lies _ (by rfl) _ _ 35 (by rfl) _ 145 p0 _ 3 72 underlying35 pi o9 p1 p2 rfl (by decide) _ t _ (by rfl) d2.out.ld.row _ 1 1 [_,_,_] (by rfl) (by rfl) (Jo (Jb w5 _)) (by intro u hu;simp at hu;rcases hu with rfl | rfl | rfl <;> rfl) (by decide) (by unfold maxLen;omega) (by omega) n3 (w5.heap.size+1) (by simp) ?_;intro g6 l1 w6 j5 P p9 q4;have e7:=(qJ P).blk (zd i5 _) (λe=>by have:=(d2.out.ld.row.lt _ e).1;omega);have u1:=za e7 1 _ rfl;have u2:=zg e7 1))
      all_goals
       have k5:=d2.out.load b2.out (by rw[← g9.out];exact zo (zk bZ _) g7.out.1) (by rw[← g9.out];exact zo (zk bZ _) g7.out.2.1) (by rw[← g9.out];exact zo (zk bZ _) g7.out.2.2) g0 P j5
       have H:zx w6 (w6.setCell _ (some (g6,0),t+1,l1)) _:=(zx.refl _ (λb=>b=_+1)).set (a:=(w.heap.size+1+1,1)) rfl _
       have b4:Hid (OwSt w V _ _ _ _ k _ 0 x L C _ _ _ _):=⟨off_at1 e7 _,k5.box H e7 (by decide),(k0.out.trans (zx.of_below (zk X _))).trans (((qJ P).mono (λb e=>.inr (d2.out.ld.row.lt b e).1)).trans (H.mono (λb e=>.inl e)))⟩
       clear k5 H;go_wp2;go_roundw
       case rel=>exact⟨_,_,_,_,_,by omega,by go_num,b4.out⟩
       case measure=>simp[intOf];omega
    ·obtain rfl:t=M:=by omega
     have o2:=za (f.out.kp.blk j8.out (λe=>by have e:=e;omega)) 2 _ rfl
     clear hlt d ht HL k7;go_wp2;clear o2;go_loopw [9,53] (λ_ i wz=>∃ (r:Nat) (bv:Value) (E:_),r<=R/\i=int i64 r/\Hid (OwSt w V wz (av,k,cv) (ae,t,ce) bv k t r x L C A B D E)) (λ_ i _=>R - (intOf i).toNat)
     case atStart=>exact⟨0,_,_,Jq _,rfl,f.out⟩
     case round =>
      clear f;obtain⟨r,bv,E,hr,rfl,f⟩:=hrel;have d:=zx.below n n.size f.out.kp (λb e=>by have e:=e;have:=n.size;omega)
      obtain⟨ab,e4,rfl,_⟩:=zp f.out.own.bk.row
      by_cases hlt:r<R
      ·obtain⟨Cc,d0,b8⟩:=l9.out
       obtain⟨b,off,rfl,G⟩:=d0 r hlt;obtain⟨f7,f4,a0,g1,s1⟩:=b8 r hlt;have a8:=m8.out r hlt;obtain⟨y,hy⟩:∃ y,y=x.bk r:=⟨_,rfl⟩;rw[← hy] at a0 g1 s1 a8;have k8:=hI hy;rw[a0] at G;have l:=Ja w _ (G 0 (by decide))
       have c0:wr.cell? _=some (.int _ _):=(d.cell (p:=⟨b,off+_,_⟩) l).trans (G 0 (by decide))
       have c1:wr.cell? _=some (.int _ _):=(d.cell (p:=⟨b,_+1,_⟩) l).trans (G 1 (by decide))
       have c2:wr.cell? _=some (.string _):=(d.cell (p:=⟨b,_+2,_⟩) l).trans (G 2 (by decide))
       have c3:wr.cell? _=some (.slice f7 _ f4):=(d.cell (p:=⟨b,_+3,_⟩) l).trans (G 3 (by decide))
       have c4:wr.cell? _=some (.int _ _):=(d.cell (p:=⟨b,_+4,_⟩) l).trans (G 4 (by decide))
       have c5:wr.cell? _=some (.int _ _):=(d.cell (p:=⟨b,_+5,_⟩) l).trans (G 5 (by decide))
       have c6:wr.cell? _=some (.int _ _):=(d.cell (p:=⟨b,_+6,_⟩) l).trans (G 6 (by decide))
       have c7:wr.cell? _=some (.int _ _):=(d.cell (p:=⟨b,_+7,_⟩) l).trans (G 7 (by decide))
       have c8:wr.cell? _=some (.bool _):=(d.cell (p:=⟨b,_+8,_⟩) l).trans (G 8 (by decide))
       have c9:wr.cell? _=some (.int _ _):=(d.cell (p:=⟨b,_+9,_⟩) l).trans (G 9 (by decide))
       have m9:wr.cell? _=some (.int _ _):=(d.cell (p:=⟨b,_+10,_⟩) l).trans (G 10 (by decide))
       have n0:wr.cell? _=some (.int _ _):=(d.cell (p:=⟨b,_+11,_⟩) l).trans (G 11 (by decide))
       have n1:wr.cell? _=some (.int _ _):=(d.cell (p:=⟨b,_+12,_⟩) l).trans (G 12 (by decide))
       have q6:=a8.2;have k4:Hid (_/\_):=⟨g1,s1⟩;clear G a0 g1 s1 a8 hy d0 b8;have o:Below _ wr (wr.alloc (.cells (y,f7,f4) 150)):=zk bZ _;have bX:=zoP o;have F:=zd bX (.cells #[] 3);have q:Below _ wr ((wr.alloc _).alloc (.cells #[] 3)):=zk o _;have x3:=za F 3 _ rfl;have HE:Hid (((wr.alloc (.cells (y,f7,f4) 150)).alloc _).ownsRow _ 3 1 _ 0 []):=⟨rfl,.inr ⟨_,0,#[],rfl,Jr _,zfT wr _ _,Jr _,Jq _,rfl,rfl⟩⟩;have S:=hI (QY (k4.out.1.below (ze d q)));have T:=hI k4.out.2.2.2;have b2:Hid (∀ i,_->∀ b,_->b<wr.heap.size+1):=λi hi g hg=>by have:=((f.out.own.bk.legs i hi).lt g hg).2;omega
       as_aux_lemma =>
        go_upto_region 18 with(first|(at_builtin;refine zv _ (by rfl) _ _ 27 (by rfl) _ 3 i0 _ 1 8 underlying27 ii n4 n5 n6 rfl (by decide) _ 0 [] (by rfl) HE.out f7 _ f4 _ (by rfl) T.out (by rw[Zn,Nat.mul_one]) S.out (Qd _ _) (by unfold maxLen;omega) (by omega) (by simp) ?_;intro v3 w3 Q a5;rw[Nat.zero_add,List.nil_append] at Q;obtain⟨m,I,rfl,_⟩:=zp Q;have K:=(qJ a5).blk F (by simp[Value.ownBlock]);have v5:=za K 3 _ rfl;have f5:=zg K 3;have b6:=q.grown a5 q.size (λj hj=>by simp[Value.ownBlock] at hj;omega)))
        have U:=bbox_3 K (m,y.lgn,I);have O:Below _ wr (w3.setCell _ (m,y.lgn,I)):=b6.setCell (p:=(wr.heap.size,3)) (Jr _) _;have b1:Hid ((w3.setCell _ (m,y.lgn,I)).ownsRow _ 3 1 _ _ _):=ZW Q (a:=(wr.heap.size,3)) (by show wr.heap.size<_;omega) _
        generalize w3.setCell _ _=W4 at U O b1 ⊢;clear K v5 f5 b6 Q a5 x3 o bX F q HE S T c0 c1 c2 c3 c4 c5 c6 c7 c8 c9 m9 n0 n1;have l4:=zb f.out.q O;obtain⟨y0,y1,y2,y3,y4,y5,y6,y7,y8,y9,p6,p7,p8⟩:=zeX U;have q2:=za l4 2 _ rfl;have a4:Below _ wr (W4.alloc (.cells (y,m,I) 150)):=zk O _;have J:=hI (f.out.own.below a4);have m7:Hid ((W4.alloc (.cells (y,m,I) 150)).ownsRow _ 3 1 _ _ _):=zo (zk bZ _) b1.out;have i6:=zd l4 (.cells (y,m,I) 150);have g5:Hid (∀ j u,([_,_,_,_,_,_,_,_,_,_,_,_,_]:List Value)[j]?=_->(W4.alloc (.cells (y,m,I) 150)).cell? _=_):=Jo (Jb W4 _);have k1:=hI f.out.kp;have b0:=k1.out.size;have d1:=Jp b0 a4.size;clear f b1 O;clear y0 y1 y2 y3 y4 y5 y6 y7 y8 y9 p6 p7 p8;refine wp_region_lit ?_;refine Go.Great.wpList_runTo rfl _ rfl _ _ (show _ from rfl) ?_;refine Go.Great.wpList_readTo rfl _ rfl (ab,r,e4) (by simp[execOp,q2,go_sem]) ?_
        refine wpList_load_row rfl _ _ rfl _ rfl _ _ _ _ U underlying150 rfl Tryz.sizeBookingO ?_;refine Go.Great.wpList_buildSliceTo rfl _ _ 1 _ rfl _ rfl _ rfl underlying36 _ (Eq.trans (congrArg _ (show _ from by first|(simp[go_sem];done)|rfl|kernel_rfl)) (zeO y.name y.who y.pe y.len y.hei y.cl y.be y.state y.unt y.price y.own y.all m y.lgn I)) ?_
        go_wp2_with (first|(at_builtin;refine zv _ (by rfl) (.tmp 63) (.tmp 65) 36 (by rfl) V.heap.size 150 r0 (.agg #[(),(),False,True,(),(),(),(),.bool false,(),(),(),()]) 13 128 underlying36 ri p3 p4 p5 rfl (by decide) _ r _ (by rfl) J.out.bk.row (some (W4.heap.size,0)) 1 1 [y.name,y.who,y.own,(m,y.lgn,I),y.pe,y.len,y.hei,y.cl,y.all,y.be,y.state,y.unt,y.price] (by rfl) (λh=>(by cases h)) (by rfl) (λad e=>by cases e;exact g5.out) (by intro u hu;simp at hu;rcases hu with rfl|rfl|rfl|rfl|rfl|rfl|rfl|rfl|rfl|rfl|rfl|rfl|rfl <;> rfl) (by unfold maxLen;omega) (by omega) d1 ?_;intro v9 w9 b9 a7;obtain⟨a9,e9,rfl,_⟩:=zp b9;have W:=(qJ a7).blk i6 (λe=>by have:=(J.out.bk.row.lt _ e).1;omega);have r9:=za W 2 _ rfl;have f9:=zg W 2))
        have e5:=J.out.book b2.out (by rw[← k8.out];exact m7.out) (by omega) a7 (by unfold bkC;rw[qu,← k8.out];exact b9)
        have H:zx w9 (w9.setCell _ (a9,r+1,e9)) _:=(zx.refl _ (λb=>b=_+1)).set (a:=(w.heap.size+1+1,2)) rfl _
        have b4:Hid (OwSt w V _ _ _ _ k t _ x L C A B D _):=⟨zlK W _,e5.box H W (by decide),(k1.out.trans (zx.of_below a4)).trans (((qJ a7).mono (λb e=>.inr (J.out.bk.row.lt b e).1)).trans (H.mono (λb e=>.inl e)))⟩
        clear e5 H;go_wp2;go_roundw
        case rel=>exact⟨_,_,_,by omega,by go_num,b4.out⟩
        case measure=>simp[intOf];omega
      ·obtain rfl:r=R:=by omega
       have b5:=f.out.kp.blk m1.out (λe=>by have e:=e;omega)
       have l3:=f.out.q;obtain⟨y0,y1,y2⟩:=ce3 l3;obtain⟨s0,s1,s2⟩:=ce3 b5;obtain⟨f0,f1,f2⟩:=fe3 b5;have j2:=zkQ wr (w.heap.size+1) (av,k,cv) (ae,t,ce) (ab,r,e4);have rF:=zeN b5 (av,k,cv) (ae,t,ce) (ab,r,e4);have m6:=hI ((f.out.own.box j2 b5 (by decide)).lower n.size)
       have m5:=hI (zx.below d d.size j2 (λb e=>by have e:=e;omega))
       clear j2 l3 b5;go_wp2;obtain⟨z0,z1,z2⟩:=ce3 rF;exact Jj (by simp[results,results70,go_sem,z0,z1,z2]) rfl ⟨⟨av,cv,ae,ce,ab,e4,L,C,A,B,D,E,rfl,m6.out⟩,m5.out⟩
end
theorem zfS.row {w u i:World}{e f g:Value}{os:Array Value}{T:Nat->Prop}(h:zfS w u e f g os)(a:zx u i T)(j:∀ b,T b->∃ cs,u.heap[b]?=some (.cells cs 150 (0,0))):zfS w i e f g os:=by
 have c:∀ b t cs,u.heap[b]?=some (.cells cs t (0,0))->150≠t->¬ T b:=λb t cs h1 h2 h3=>by
  obtain⟨cs',d⟩:=j b h3;rw[h1] at d;simp only[Option.some.injEq,Obj.cells.injEq] at d;exact h2 d.2.1.symm
 exact⟨a.blk h.bo (c _ _ _ h.bo (by decide)),a.blk h.bp (c _ _ _ h.bp (by decide)),a.blk h.br (c _ _ _ h.br (by decide)),a.blk h.ba (c _ _ _ h.ba (by decide))⟩
theorem zfS.putO {w u:World}{a b c:Value}{os:Array Value}(h:zfS w u a b c os)(q:Value):zfS w (u.setCell (w.heap.size,2) q) a b q os :=
 ⟨(zlS h.bo q).2.2,zD h.bp 2 q (by omega),zD h.br 2 q (by omega),zD h.ba 2 q (by omega)⟩
theorem keptO {w u c:World}{S T:Nat->Prop}(h:zx w u S)(k:zx u c T)(d:∀ b,T b->w.heap.size<=b):zx w c S :=
 ⟨k.os.trans h.os,k.tape.trans h.tape,k.output.trans h.output,Jp h.size k.size,λi a e=>(k.block i (Nat.lt_of_lt_of_le a h.size) (λt=>by have:=d i t;omega)).trans (h.block i a e)⟩
theorem lowK {w u:World}{S:Nat->Prop}(f:zx w u S)(a c d v0 v1 v2 v3:Value):zx w (ZK (qt u (w.heap.size+1+1) a c d) (w.heap.size+1+1+1) v0 v1 v2 v3) S :=
 keptO (keptO f (QG u (w.heap.size+1+1) a c d) (λb e=>by have e:=e;omega)) (QH (qt u (w.heap.size+1+1) a c d) (w.heap.size+1+1+1) v0 v1 v2 v3) (λb e=>by have e:=e;omega)
theorem znM (x:Off)(t z a3:Option Addr)(c1 c2 c3 base:Nat)(L C A B D E:Nat->Value)(c st:Int)(y:OpD)(F:Option Addr)(N:Nat)(w:World)(hk:(y.kind=2/\st=1)∨(y.kind=3/\st=2))(hB:Zq w)(hF:Zu w)(hp:QU ⟨y.pe,y.len,y.hei,y.cl,y.all,y.be⟩ y.lgn)(hl:zT w F y.lgn y.lg)(hu:y.kind=3->y.unt=0)(e0:x.bkn<30)(b6:base<=w.heap.size)(S:zF w base (t,x.san,c1) (z,x.ldn,c2) (a3,x.bkn,c3) x.san x.ldn x.bkn x L C A B D E) :
  Calls prog 111 #[.agg #[.slice t x.san c1,.slice z x.ldn c2,.slice a3 x.bkn c3],int i64 c,.agg #[int i64 y.kind,.string y.own,int i64 y.name,.slice F y.lgn N,int i64 y.pe,int i64 y.len,int i64 y.hei,int i64 y.cl,.bool y.all,int i64 y.be,int i64 y.unt,int i64 y.now]] w λe w'=>(∃ b3 d3 E2,e=.returned (.tuple #[.agg #[.slice t x.san c1,.slice z x.ldn c2,.slice b3 (x.bkn+1) d3],.agg #[int i64 0,int i64 ((x.bkn:Int)+1),int i64 (zE ⟨y.pe,y.len,y.hei,y.cl,y.all,y.be⟩ y.lgn),.slice none 0 0]])/\zF w' base (.slice t x.san c1) (.slice z x.ldn c2) (.slice b3 (x.bkn+1) d3) x.san x.ldn (x.bkn+1) { x with bkn:=x.bkn+1,bk:=zah x.bk x.bkn (Qf x.bkn c y) } L C A B D E2)/\zx w w' (λb=>(Value.slice a3 x.bkn c3).ownBlock=some b):=by
 obtain⟨r0,ri,d6,d7,d8⟩:=info_parts Tryz.infoBookingO;have I:=hI S;have c0:Hid ((y.kind=2->st=1)/\(y.kind≠2->st=2)):=by rcases hk with⟨h1,h2⟩|⟨h1,h2⟩ <;> exact⟨λh=>by omega,λh=>by omega⟩
 have a9:Hid (Qf x.bkn c y=⟨(x.bkn:Int)+1,c,y.own,y.lgn,y.lg,y.pe,y.len,y.hei,y.cl,y.all,y.be,st,y.unt,(zE ⟨y.pe,y.len,y.hei,y.cl,y.all,y.be⟩ y.lgn)⟩):=by
  show _=_
  unfold Qf
  rcases hk with⟨h1,h2⟩|⟨h1,h2⟩
  ·rw[Jf h1,Jf h1,h2]
  ·rw[Je (by omega),Je (by omega),h2,hu h1]
 have HP:=hI hp;have HI:=hI hl;have e1:IntKind.i64.wrap ((x.bkn:Int)+1)=(x.bkn:Int)+1:=by rw[Jk];omega
 have r:=hI (zfS.start w (t,x.san,c1) (z,x.ldn,c2) (a3,x.bkn,c3) (y,F,N));have g:Below _ w ((((w.alloc (.cells #[(t,x.san,c1),(z,x.ldn,c2),(a3,x.bkn,c3)] 38)).alloc (.cells (y,F,N) 47)).alloc (.cells #[True,True,True] 38)).alloc (.cells #[(),(),(),True] 41)):=zk (zk (zk (zk bZ _) _) _) _;have d1:(y.kind == 1)=false:=by have:y.kind≠1:=by omega
                    simpa using this
 have b8:y.kind=2∨y.kind=3:=by omega
 have a6:=hI b8;clear hk S hp hl hu b8;go_enter func111,ntmps111;go_upto_region 1 with fail;generalize (((w.alloc _).alloc _).alloc _).alloc _=U at r g ⊢;have o0:=za r.bp 0 _ rfl;have o2:=za r.bo 2 _ rfl;obtain⟨p0,p1,p2,p3,p4,p5,p6,p7,p8,p9,d4,d5⟩:=zeW r.bp;have e3:=a6
 rcases a6 with k2|k3
 all_goals
  first|(have d2:(y.kind == 2)=true:=by simpa using k2)|(have d2:(y.kind == 2)=false:=by simpa using(show y.kind≠2 by omega))
  first|(have d3:(y.kind == 3)=true:=by simpa using k3)|skip
  first|clear k2|clear k3
  go_wp2_with fail;refine(zhA _ c y F N U (hB.below g) (hF.below g) HP (HI.below g) st c0).mono ?_;rintro e Y0 ⟨⟨la,V,rfl,ho⟩,P⟩;clear o0 o2 p0 p1 p2 p3 p4 p5 p6 p7 p8 p9 d4 d5;have a5:=ze g P;have o:Below _ Y0 (Y0.alloc (.cells #[int i64 ((x.bkn:Int)+1),c,y.own,(la,y.lgn,V),y.pe,y.len,y.hei,y.cl,y.all,y.be,st,y.unt,(zE ⟨y.pe,y.len,y.hei,y.cl,y.all,y.be⟩ y.lgn)] 150)):=zk bZ _;have l:Below _ _ ((Y0.alloc (.cells #[int i64 ((x.bkn:Int)+1),c,y.own,(la,y.lgn,V),y.pe,y.len,y.hei,y.cl,y.all,y.be,st,y.unt,(zE ⟨y.pe,y.len,y.hei,y.cl,y.all,y.be⟩ y.lgn)] 150)).alloc (.cells #[int i64 ((x.bkn:Int)+1),c,y.own,(la,y.lgn,V),y.pe,y.len,y.hei,y.cl,y.all,y.be,st,y.unt,(zE ⟨y.pe,y.len,y.hei,y.cl,y.all,y.be⟩ y.lgn)] 150)):=zk bZ _;have Q:=hI (λi hi b e=>by have h1:=(((I.below g).bk.legs i hi).lt b e).2;exact h1)
  have J:=hI ((r.below P).below o);have bN:=zoP o;have m:=hI (((I.below a5).below o).below l);have W:=hI (zo l (zo o ho));have O:=ze (ze a5 o) l;have c9:=g.size;have d0:=zM (r.below P).ba;go_upto_region 7 with fail;generalize hY1:Y0.alloc _=Y1 at J bN m W l O ⊢;generalize Y0.heap.size=nb at bN d0 ⊢;have b0:Hid (∀ j u,([_,_,_,_,_,_,_,_,_,_,_,_,_]:List Value)[j]?=_->(Y1.alloc (.cells #[int i64 ((x.bkn:Int)+1),c,y.own,(la,y.lgn,V),y.pe,y.len,y.hei,y.cl,y.all,y.be,st,y.unt,(zE ⟨y.pe,y.len,y.hei,y.cl,y.all,y.be⟩ y.lgn)] 150)).cell? _=_):=Jo (Jb Y1 _);have M:=hI (J.below l);have b4:=zb bN l;have q2:=za J.bo 2 _ rfl;have T:=Jp b6 O.size;clear hY1 o P ho a5;refine wp_region_lit ?_;refine Go.Great.wpList_runTo rfl _ rfl _ _ (show _ from rfl) ?_;refine Go.Great.wpList_readTo rfl _ rfl (a3,x.bkn,c3) (by simp[execOp,q2,go_sem]) ?_
  refine wpList_load_row rfl _ _ rfl nb rfl _ _ _ _ bN underlying150 rfl Tryz.sizeBookingO ?_;refine Go.Great.wpList_buildSliceTo rfl _ _ 1 _ rfl _ rfl _ rfl underlying36 _ (Eq.trans (congrArg _ (show _ from by first|(simp[go_sem];done)|rfl|kernel_rfl)) (zeO ((x.bkn:Int)+1) c y.pe y.len y.hei y.cl y.be st y.unt (zE ⟨y.pe,y.len,y.hei,y.cl,y.all,y.be⟩ y.lgn) y.own y.all la y.lgn V)) ?_
  clear q2;go_wp2_with (first|(at_builtin;refine wpList_append_lies _ (by rfl) (.tmp 33) (.tmp 35) 36 (by rfl) base 150 r0 (.agg #[int i64 0,int i64 0,.string ⟨#[]⟩,.slice none 0 0,int i64 0,int i64 0,int i64 0,int i64 0,.bool false,int i64 0,int i64 0,int i64 0,int i64 0]) 13 128 underlying36 ri d6 d7 d8 rfl (by decide) _ x.bkn (zbg x.bk E x.bkn) (by rfl) m.out.bk.row ⟨Y1.heap.size,0,none⟩ 1 1 [int i64 ((x.bkn:Int)+1),int i64 c,.string y.own,.slice la y.lgn V,int i64 y.pe,int i64 y.len,int i64 y.hei,int i64 y.cl,.bool y.all,int i64 y.be,int i64 st,int i64 y.unt,int i64 (zE ⟨y.pe,y.len,y.hei,y.cl,y.all,y.be⟩ y.lgn)] (by rfl) (by rfl) b0.out (by intro u hu;simp at hu;rcases hu with rfl|rfl|rfl|rfl|rfl|rfl|rfl|rfl|rfl|rfl|rfl|rfl|rfl <;> rfl) (by decide) (by unfold maxLen;omega) (by omega) T _ rfl ?_;intro R d w3 b9 n _ _;have a4:=(qJ n).blk M.out.bo (λe=>by obtain⟨cs,e2⟩:=zA m.out.bk.row _ e;rw[M.out.bo] at e2;simp at e2);have z2:=za a4 2 _ rfl;have d9:=zg a4 2))
  have Y:=hI (M.out.row (qJ n) (λb e=>zA m.out.bk.row b e))
  have b5:=(qJ n).blk b4 (λe=>by have:=(I.bk.row.lt nb e).2;omega)
  have b7:bkC (zah x.bk x.bkn (Qf x.bkn c y)) (atV E x.bkn (.slice la y.lgn V)) x.bkn=[int i64 ((x.bkn:Int)+1),int i64 c,.string y.own,.slice la y.lgn V,int i64 y.pe,int i64 y.len,int i64 y.hei,int i64 y.cl,.bool y.all,int i64 y.be,int i64 st,int i64 y.unt,int i64 (zE ⟨y.pe,y.len,y.hei,y.cl,y.all,y.be⟩ y.lgn)]:=by unfold bkC;rw[ZL,qu,a9.out]
  have b1:=hI (m.addBk (nb:=Qf _ c y) Q (by rw[a9.out];exact W) (Jp b6 c9) n (by rw[b7];exact b9))
  have q:=hI (b1.box ((zx.refl w3 (λb=>b=w.heap.size)).set (a:=(w.heap.size,2)) rfl (some (R,0),x.bkn+1,d)) Y.bo (by decide))
  have f:=hI (Y.putO (some (R,0),x.bkn+1,d));have a0:=zD (b':=w.heap.size) b5 2 (some (R,0),x.bkn+1,d) (by omega)
  have G:zx w (w3.setCell _ (some (R,0),x.bkn+1,d)) _:=keptO ((zx.of_below O).trans (qJ n)) ((zx.refl w3 (λb=>b=w.heap.size)).set (a:=(w.heap.size,2)) rfl _) (λb e=>by have e:=e;omega)
  clear z2 d9 a4 m W b0 M b4 O T J bN l Y b5 b7 b1 b9 n I Q HI HP r g;generalize w3.setCell _ _=Z at q f a0 G ⊢;replace f:=hI (f.below (Ji _ Z).drew);replace q:=hI (q.below (Ji _ Z).drew);have H:=hI (zK a0);replace G:=G.trans (zx.of_below (Ji _ Z).drew);clear a0;refine qg 8 8 (λu=>u.cell? _=some (.slice t _ c1)/\u.cell? _=some (.slice z _ c2)/\u.cell? _=some (.slice _ _ d)/\u.cell? _=some (.int _ _)/\u.cell? _=some (.int _ _)) rfl (by kernel_rfl) (⟨za f.bo 0 _ rfl,za f.bo 1 _ rfl,za f.bo 2 _ rfl,za H 0 _ rfl,za H 12 _ rfl⟩) (λhS=>?_)
  simp only[List.replicate_succ,List.replicate_zero];generalize Z.drew=u8 at q f H G hS ⊢;have r:=f;have X:Hid _:=(QG u8 (w.heap.size+1+1) (t,x.san,c1) (z,x.ldn,c2) (some (R,0),x.bkn+1,d)).blk H (show ¬ nb=w.heap.size+1+1 by omega)
  have a8:Hid _:=(QH (qt u8 (w.heap.size+1+1) (.slice t x.san c1) (.slice z x.ldn c2) (.slice (some ⟨R,0,none⟩) (x.bkn+1) d)) (w.heap.size+1+1+1) (int i64 0) (int i64 ((x.bkn:Int)+1)) (int i64 (zE ⟨y.pe,y.len,y.hei,y.cl,y.all,y.be⟩ y.lgn)) (.slice none 0 0)).blk X.out (show ¬ nb=w.heap.size+1+1+1 by omega)
  iterate 6 (refine tFN 0 (v:=?_) rfl (by kernel_rfl) (λ_ _ _ h=>h) rfl (by assumption) ?_ ?_;rotate_left;(focus(intro w' h;(try dsimp only at h);go_simp;try with_reducible rfl));simp only[Act.put,sB,sZ,sS])
  have p:=hI (r.fin (t,x.san,c1) (z,x.ldn,c2) (some (R,0),x.bkn+1,d) () (int i64 ((x.bkn:Int)+1)) (zE ⟨y.pe,y.len,y.hei,y.cl,y.all,y.be⟩ y.lgn) True);obtain⟨r0,r1,r2⟩:=ce3 r.br;obtain⟨f0,f1,f2⟩:=fe3 r.br;refine zj (rs:=[6]) (by kernel_rfl) (by simp) ?_
  refine zc.consL rfl (λK hK=>?_) zc.nil
  go_simp;have k:=p.2.2;unfold qt at k;refine hK _ _ (⟨za k.1 0 _ rfl,za k.1 1 _ rfl,za k.1 2 _ rfl,za X 0 _ rfl,za X 12 _ rfl⟩) (λhS=>?_)
  clear hK K r0 f0 r1 f1 r2 f2;simp only[sZ,sS];obtain⟨r0,r1,r2,r3⟩:=ce4 k.2.2.1;obtain⟨f0,f1,f2,f3⟩:=fe4 k.2.2.1;refine zj (rs:=[7]) (by kernel_rfl) (by simp) ?_
  refine zc.consL rfl (λK hK=>?_) zc.nil
  go_simp;have s:=p.2.2.2.2.2;unfold ZK qt at s;refine hK _ _ (⟨za s.1 0 _ rfl,za s.1 1 _ rfl,za s.1 2 _ rfl,za a8 0 _ rfl,za a8 12 _ rfl⟩) (λhS=>?_)
  clear hK K r0 f0 r1 f1 r2 f2 r3 f3 k s;simp only[sZ,sS];refine zX (by kernel_rfl) ?_ _
  go_wp2;have Z3:=p.1;have Z4:=p.2.1;unfold ZK qt at Z3 Z4;obtain⟨z0,z1,z2⟩:=ce3 Z3;obtain⟨t0,t1,t2,t3⟩:=ce4 Z4;have a7:=lowK G (t,x.san,c1) (z,x.ldn,c2) (some (R,0),x.bkn+1,d) () (int i64 ((x.bkn:Int)+1)) (zE ⟨y.pe,y.len,y.hei,y.cl,y.all,y.be⟩ y.lgn) True;have b2:=(q.box (QG u8 _ _ _ _) f.br (by decide)).box (QH _ _ () (int i64 ((x.bkn:Int)+1)) (zE ⟨y.pe,y.len,y.hei,y.cl,y.all,y.be⟩ y.lgn) True) p.2.2.2.2.1 (by decide)
  unfold ZK qt at a7 b2;exact Jj (by simp[results,results111,go_sem,z0,z1,z2,t0,t1,t2,t3]) rfl ⟨⟨_,d,_,rfl,b2⟩,a7⟩
def zme (w:World)(base:Nat)(b a:ql)(d:Option Addr)(c:Nat)(la:Option Addr)(e:Nat):Prop :=
 (Value.slice la a.lgn e=.slice d b.lgn c/\a.lgn=b.lgn/\a.lg=b.lg)∨w.ownsRow base 3 1 (.slice la a.lgn e) a.lgn (zS a.lg a.lgn)
theorem zmf (b:ql)(c:Option Addr)(a:Nat)(d:Int)(y:OpD)(f:Option Addr)(g:Nat)(j:ql)(i:j=qx b d y)(w:World)(hk:4<=y.kind/\y.kind<=8)(l:y.kind=5->Zq w/\Zu w/\QU ⟨y.pe,y.len,y.hei,y.cl,y.all,y.be⟩ y.lgn/\zT w f y.lgn y.lg) :
  Calls prog 205 #[.agg (b,c,a),d,.agg (y,f,g)] w λe w'=>(∃ la lc,e=.returned (.agg (j,la,lc))/\zme w' w.heap.size b j c a la lc)/\Below w.heap.size w w':=by
 by_cases k4:y.kind=4
 ·obtain rfl:j={ b with state:=2,unt:=0 }:=by rw[i];unfold qx;rw[Jf k4]
  exact(changed_4 b c a d y f g w k4).mono λ_ _ ⟨e,h⟩=>⟨⟨c,a,e,.inl ⟨rfl,rfl,rfl⟩⟩,h⟩
 by_cases k5:y.kind=5
 ·obtain⟨h1,h2,h3,k⟩:=l k5
  obtain rfl:j={ b with who:=d,lgn:=y.lgn,lg:=y.lg,pe:=y.pe,len:=y.len,hei:=y.hei,cl:=y.cl,all:=y.all,be:=y.be,price:=_ }:=by rw[i];unfold qx;rw[Je k4,Jf k5]
  exact(changed_5 b c a d y f g w k5 h1 h2 h3 k).mono λ_ _ ⟨⟨la,lc,e,ho⟩,h⟩=>⟨⟨la,lc,e,.inr ho⟩,h⟩
 by_cases k6:y.kind=6
 ·obtain rfl:j={ b with state:=3,unt:=0 }:=by rw[i];unfold qx;rw[Je k4,Je k5,Jf k6]
  exact(changed_6 b c a d y f g w k6).mono λ_ _ ⟨e,h⟩=>⟨⟨c,a,e,.inl ⟨rfl,rfl,rfl⟩⟩,h⟩
 by_cases k7:y.kind=7
 ·obtain rfl:j={ b with own:=y.own }:=by rw[i];unfold qx;rw[Je k4,Je k5,Je k6,Jf k7]
  exact(changed_7 b c a d y f g w k7).mono λ_ _ ⟨e,h⟩=>⟨⟨c,a,e,.inl ⟨rfl,rfl,rfl⟩⟩,h⟩
 ·obtain rfl:j={ b with state:=4 }:=by rw[i];unfold qx;rw[Je k4,Je k5,Je k6,Je k7]
  exact(changed_8 b c a d y f g w (by omega)).mono λ_ _ ⟨e,h⟩=>⟨⟨c,a,e,.inl ⟨rfl,rfl,rfl⟩⟩,h⟩
theorem znN {d j:World}{base u gb c1 c2 c3 m f o:Nat}{p g la:Option Addr}{x:Off}{a:ql}{L C A B D E:Nat->Value}(y:Below d.heap.size d j)(l:zF d base (some (u,0),x.san,c1) (p,x.ldn,c2) (some (gb,0),x.bkn,c3) x.san x.ldn x.bkn x L C A B D E)(n:base<=d.heap.size)(t:m<x.bkn)(q:E m=.slice g (x.bk m).lgn f)(r:zme j d.heap.size (x.bk m) a g f la o) :
  zF (ziz j gb m (int i64 a.name) (int i64 a.who) (.string a.own) (.slice la a.lgn o) (int i64 a.pe) (int i64 a.len) (int i64 a.hei) (int i64 a.cl) (.bool a.all) (int i64 a.be) (int i64 a.state) (int i64 a.unt) (int i64 a.price)) base (.slice (some ⟨u,0,none⟩) x.san c1) (.slice p x.ldn c2) (.slice (some ⟨gb,0,none⟩) x.bkn c3) x.san x.ldn x.bkn { x with bk:=zah x.bk m a } L C A B D (atV E m (.slice la a.lgn o)):=by
 have c:=l.below y;refine c.putBk (zfb j gb m _ _ _ _ _ _ _ _ _ _ _ _ _) (zbs (zjV _ _ _ _ _ _ _ _ _ _ _ _ _ c.bk.row rfl) (by decide) (λi s=>?_)) ?_ ?_
 ·by_cases e:i=m
  ·subst e;rw[Jf rfl];unfold bkC;rw[ZL,qu]
  ·rw[Je e];unfold bkC;rw[zaf _ _ _ e,qf _ _ _ _ e]
 ·rcases r with⟨k,v,w⟩|h
  ·rw[k,v,w,← q];exact c.bk.legs m t
  ·exact zu h n
 ·rcases r with⟨k,_⟩|h
  ·rw[k,← q];exact l.bk.far_same t
  ·intro i s z b h1 h2
   have q1:=((l.bk.legs i s).lt b h1).2;have q2:=(h.lt b h2).1
   omega
theorem zkR (x:Off)(O:Option Addr)(G gb c1 c2 c3 base m k0:Nat)(L C A B D E:Nat->Value)(X:Int)(y:OpD)(H:Option Addr)(J:Nat)(w:World)(hk:4<=y.kind/\y.kind<=8)(e2:y.name=(m:Int)+1)(Q:m<x.bkn)(h6:x.bkn<=30)(g6:x.san<=1048576)(b0:0<(x.bk m).lgn)(d8:zW x.sa ((x.bk m).lg 0) x.san=k0)(h7:k0<x.san)
  (a8:In (x.sa k0).dep 0 1000000/\(y.kind=6->In y.now 0 1000000)) (hT:∀ V,Below base w V->Zq V/\Zu V) (h5:y.kind=5->QU ⟨y.pe,y.len,y.hei,y.cl,y.all,y.be⟩ y.lgn/\zT w H y.lgn y.lg) (a6:base<=w.heap.size) (F:zF w base (.slice (some ⟨G,0,none⟩) x.san c1) (.slice O x.ldn c2) (.slice (some ⟨gb,0,none⟩) x.bkn c3) x.san x.ldn x.bkn x L C A B D E) :
  Calls prog 111 #[.agg #[.slice (some ⟨G,0,none⟩) x.san c1,.slice O x.ldn c2,.slice (some ⟨gb,0,none⟩) x.bkn c3],int i64 X,.agg #[int i64 y.kind,.string y.own,int i64 y.name,.slice H y.lgn J,int i64 y.pe,int i64 y.len,int i64 y.hei,int i64 y.cl,.bool y.all,int i64 y.be,int i64 y.unt,int i64 y.now]] w λe w'=>(∃ E2,e=.returned (.tuple #[.agg #[.slice (some ⟨G,0,none⟩) x.san c1,.slice O x.ldn c2,.slice (some ⟨gb,0,none⟩) x.bkn c3],.agg #[int i64 0,int i64 ((m:Int)+1),int i64 (zne (x.bk m) (x.sa k0).dep y),.slice none 0 0]])/\zF w' base (.slice (some ⟨G,0,none⟩) x.san c1) (.slice O x.ldn c2) (.slice (some ⟨gb,0,none⟩) x.bkn c3) x.san x.ldn x.bkn { x with bk:=zah x.bk m (qx (x.bk m) X y) } L C A B D E2)/\zx w w' (λb=>b=gb):=by
 obtain⟨h4,I,eE,_,_,_⟩:=zp (F.bk.legs m Q);obtain⟨W,g2,_,e1⟩:=qh (by have h:=F.bk.legs m Q;rw[eE] at h;exact h) b0
 subst g2;have d7:base<=gb:=(F.bk.row.lt gb rfl).1;have h0:gb<w.heap.size:=(F.bk.row.lt gb rfl).2;have a1:Hid (∀ V d,d=qx (x.bk m) X y->Below w.heap.size w V->Calls prog 205 #[.agg #[int i64 (x.bk m).name,int i64 (x.bk m).who,.string (x.bk m).own,.slice (some ⟨W,0,none⟩) (x.bk m).lgn I,int i64 (x.bk m).pe,int i64 (x.bk m).len,int i64 (x.bk m).hei,int i64 (x.bk m).cl,.bool (x.bk m).all,int i64 (x.bk m).be,int i64 (x.bk m).state,int i64 (x.bk m).unt,int i64 (x.bk m).price],int i64 X,.agg #[int i64 y.kind,.string y.own,int i64 y.name,.slice H y.lgn J,int i64 y.pe,int i64 y.len,int i64 y.hei,int i64 y.cl,.bool y.all,int i64 y.be,int i64 y.unt,int i64 y.now]] V λe w'=>(∃ la lc,e=.returned (.agg #[int i64 d.name,int i64 d.who,.string d.own,.slice la d.lgn lc,int i64 d.pe,int i64 d.len,int i64 d.hei,int i64 d.cl,.bool d.all,int i64 d.be,int i64 d.state,int i64 d.unt,int i64 d.price])/\zme w' V.heap.size (x.bk m) d (some ⟨W,0,none⟩) I la lc)/\Below V.heap.size V w'):=λV d he hb=>zmf (x.bk m) _ I X y H J d he V hk (λh=>⟨(hT V (hb.mono a6)).1,(hT V (hb.mono a6)).2,(h5 h).1,(h5 h).2.below hb⟩)
 have a5:Hid (∀ V,Below base w V->Calls prog 206 #[.agg #[int i64 (x.bk m).name,int i64 (x.bk m).who,.string (x.bk m).own,.slice (some ⟨W,0,none⟩) (x.bk m).lgn I,int i64 (x.bk m).pe,int i64 (x.bk m).len,int i64 (x.bk m).hei,int i64 (x.bk m).cl,.bool (x.bk m).all,int i64 (x.bk m).be,int i64 (x.bk m).state,int i64 (x.bk m).unt,int i64 (x.bk m).price],int i64 (x.sa k0).dep,.agg #[int i64 y.kind,.string y.own,int i64 y.name,.slice H y.lgn J,int i64 y.pe,int i64 y.len,int i64 y.hei,int i64 y.cl,.bool y.all,int i64 y.be,int i64 y.unt,int i64 y.now]] V λe w'=>e=.returned (int i64 (zne (x.bk m) (x.sa k0).dep y))/\Below V.heap.size V w'):=λV hb=>told_any (x.bk m) _ I (x.sa k0).dep y H J V (hT V hb).1 (hT V hb).2 (λh=>(h5 h).1) a8
 have a4:=hI F;have e7:Hid (∀ z:World,Below w.heap.size w z->qB z (some ⟨G,0,none⟩) x.san x.sa):=λz hz=>(F.sa.below hz).at
 have b5:=hI d8;obtain⟨td,b2⟩:∃ q,q=(zne (x.bk m) (x.sa k0).dep y):=⟨_,rfl⟩;have e8:=hI b2;rw[← b2] at a5;obtain⟨d,d6⟩:∃ q,q=qx (x.bk m) X y:=⟨_,rfl⟩;have b4:=hI d6;obtain⟨b,Z⟩:∃ b,b=x.bk m:=⟨_,rfl⟩;have b3:=hI Z;rw[← Z] at a1 a5 b5 b0;have d0:w.cell? ⟨W,0,none⟩=some (int i64 (b.lg 0)):=by
  have h:=F.bk.legs m Q;rw[eE] at h;have:=zbo h 0 (by rw[← Z];exact b0)
  obtain⟨q1,q2,q3,q4⟩:=this
  cases q3
  rw[Z]
  simpa using q4
 have b6:Hid (∀ z:World,Below w.heap.size w z->z.cell? ⟨W,0,none⟩=some (int i64 (b.lg 0))):=λz hz=>(hz.cell (p:=⟨W,0,none⟩) e1).trans d0
 have d4:bkC x.bk E m=[int i64 b.name,int i64 b.who,.string b.own,.slice (some ⟨W,0,none⟩) b.lgn I,int i64 b.pe,int i64 b.len,int i64 b.hei,int i64 b.cl,.bool b.all,int i64 b.be,int i64 b.state,int i64 b.unt,int i64 b.price]:=by unfold bkC;rw[eE,← Z]
 have e3:=hI d4;have e6:=hI eE;rw[e2] at a1 a5 ⊢;have d1:(y.kind == 1)=false:=by simpa using(show y.kind≠1 by omega)
 have d2:(y.kind == 2)=false:=by simpa using(show y.kind≠2 by omega)
 have d3:(y.kind == 3)=false:=by simpa using(show y.kind≠3 by omega)
 have d9:(y.kind == 9)=false:=by simpa using(show y.kind≠9 by omega)
 have i4:IntKind.i64.wrap ((m:Int)+1 - 1)=(m:Int):=by rw[Jk];omega
 have i3:IntKind.i64.wrap (m:Int)=(m:Int):=by rw[Jk];omega
 have i0:(0:Int)<=(m:Int):=by omega
 have i1:(m:Int)<(x.bkn:Int):=by omega
 have i2:(0:Int)<(b.lgn:Int):=by omega
 have f:Hid _:=zfS.start w (.slice (some ⟨G,0,none⟩) x.san c1) (.slice O x.ldn c2) (.slice (some ⟨gb,0,none⟩) x.bkn c3) #[int i64 y.kind,.string y.own,int i64 ((m:Int)+1),.slice H y.lgn J,int i64 y.pe,int i64 y.len,int i64 y.hei,int i64 y.cl,.bool y.all,int i64 y.be,int i64 y.unt,int i64 y.now];have i:Below w.heap.size w ((((w.alloc (.cells #[(some (G,0),x.san,c1),(O,x.ldn,c2),(some (gb,0),x.bkn,c3)] 38)).alloc (.cells #[y.kind,y.own,int i64 ((m:Int)+1),(H,y.lgn,J),y.pe,y.len,y.hei,y.cl,y.all,y.be,y.unt,y.now] 47)).alloc (.cells #[True,True,True] 38)).alloc (.cells #[(),(),(),True] 41)):=zk (zk (zk (zk bZ _) _) _) _;clear hk e2 d8 a8 hT h5 F eE Z b2 d6 d0 d4;go_enter func111,ntmps111;go_upto_region 1 with fail;generalize (((w.alloc (.cells #[(some (G,0),x.san,c1),(O,x.ldn,c2),(some (gb,0),x.bkn,c3)] 38)).alloc (.cells #[y.kind,y.own,int i64 ((m:Int)+1),(H,y.lgn,J),y.pe,y.len,y.hei,y.cl,y.all,y.be,y.unt,y.now] 47)).alloc (.cells #[True,True,True] 38)).alloc (.cells #[(),(),(),True] 41)=U at f i ⊢;have hr:∀ r,r<13->U.cell? ⟨gb,m*13+r,none⟩=some ((bkC x.bk E m).getD r (.bool false)):=λr hr=>by rw[zs (a4.out.below i).bk.row (m*13+r) (by omega) rfl,zC 13 _ m r hr]
 rw[e3.out] at hr;have c0:U.cell? ⟨gb,m*13,none⟩=some (int i64 b.name):=hr 0 (by decide)
 have c1:U.cell? ⟨gb,m*13+1,none⟩=some (int i64 b.who):=hr 1 (by decide)
 have c2:U.cell? ⟨gb,m*13+2,none⟩=some (.string b.own):=hr 2 (by decide)
 have c3:U.cell? ⟨gb,m*13+3,none⟩=some (.slice (some ⟨W,0,none⟩) b.lgn I):=hr 3 (by decide)
 have c4:U.cell? ⟨gb,m*13+4,none⟩=some (int i64 b.pe):=hr 4 (by decide)
 have c5:U.cell? ⟨gb,m*13+5,none⟩=some (int i64 b.len):=hr 5 (by decide)
 have c6:U.cell? ⟨gb,m*13+6,none⟩=some (int i64 b.hei):=hr 6 (by decide)
 have c7:U.cell? ⟨gb,m*13+7,none⟩=some (int i64 b.cl):=hr 7 (by decide)
 have c8:U.cell? ⟨gb,m*13+8,none⟩=some (.bool b.all):=hr 8 (by decide)
 have c9:U.cell? ⟨gb,m*13+9,none⟩=some (int i64 b.be):=hr 9 (by decide)
 have e9:U.cell? ⟨gb,m*13+10,none⟩=some (int i64 b.state):=hr 10 (by decide)
 have g0:U.cell? ⟨gb,m*13+11,none⟩=some (int i64 b.unt):=hr 11 (by decide)
 have g1:U.cell? ⟨gb,m*13+12,none⟩=some (int i64 b.price):=hr 12 (by decide)
 have o0:=za f.out.bp 0 _ rfl;have o2:=za f.out.bp 2 _ rfl;have q2:=za f.out.bo 2 _ rfl;have bX:=Jb U (.cells (b,some (W,0),I) 150);have b1:=zoS bX;have d5:w.heap.size+1+1+1<U.heap.size:=zM f.out.ba;replace f:Hid _:=f.out.below b1;replace i:=ze i b1;go_upto_region 13 with fail;generalize U.alloc (.cells (b,some (W,0),I) 150)=Y at bX f i ⊢;generalize U.heap.size=o at bX d5 ⊢;clear hr b1 o0 o2 q2 c0 c1 c2 c3 c4 c5 c6 c7 c8 c9 e9 g0 g1;replace f:Hid _:=f.out.below (Ji _ Y).drew;have k:Hid _:=zK bX;replace i:=i.drew;clear bX;refine qg 12 12 (λu=>u.cell? ⟨w.heap.size,0,none⟩=some (.slice (some ⟨G,0,none⟩) x.san c1)/\u.cell? ⟨o,3,none⟩=some (.slice (some ⟨W,0,none⟩) b.lgn I)/\u.cell? ⟨W,0,none⟩=some (int i64 (b.lg 0))) rfl (by kernel_rfl) ⟨za f.out.bo 0 _ rfl,za k.out 3 _ rfl,b6.out _ i⟩ (λhS=>?_)
 simp only[List.replicate_succ,List.replicate_zero];generalize Y.drew=u0 at f k i hS ⊢
 iterate 6 (refine tFN 0 (v:=?_) rfl (by kernel_rfl) (λ_ _ _ h=>h) rfl (by assumption) ?_ ?_;rotate_left;(focus(intro w' h;(try dsimp only at h);go_simp;try with_reducible rfl));simp only[Act.put,sB,sZ,sS])
 refine zj (rs:=[6]) (by kernel_rfl) (by simp) ?_
 refine zc.consL rfl (λK P=>?_) zc.nil
 go_simp;go_at_call 198;refine Jm (zaF (some ⟨G,0,none⟩) x.san c1 x.sa (b.lg 0) u0 g6 (e7.out _ i)) ?_;rintro e u1 ⟨a7,l⟩;replace a7:e=.returned (.tuple #[int i64 (k0:Int),.bool true]):=by
  rw[b5.out] at a7
  rcases a7 with⟨_,q⟩|⟨q,_⟩
  ·exact q
  ·omega
 subst a7;dsimp only;replace f:Hid _:=f.out.below l;replace k:Hid _:=zb k.out l;replace i:=ze i l;refine P.out _ _ ⟨za f.out.bo 0 _ rfl,za k.out 3 _ rfl,b6.out _ i⟩ (λhS=>?_)
 clear P K l;simp only[sZ,sS]
 iterate 5 (refine tFN 7 (v:=?_) rfl (by kernel_rfl) (λ_ _ _ h=>h) rfl (by assumption) ?_ ?_;rotate_left;(focus(intro w' h;(try dsimp only at h);go_simp;try with_reducible rfl));simp only[Act.put,sB,sZ,sS])
 refine zX (by kernel_rfl) ?_ _
 go_upto_region 14 with fail;replace f:Hid _:=f.out.below (Ji _ u1).drew;replace k:Hid _:=zK k.out;replace i:=i.drew;refine qg 11 11 (λu=>u.cell? ⟨w.heap.size,2,none⟩=some (.slice (some ⟨gb,0,none⟩) x.bkn c3)/\u.cell? ⟨w.heap.size+1,0,none⟩=some (int i64 y.kind)/\u.cell? ⟨w.heap.size+1,1,none⟩=some (.string y.own)/\u.cell? ⟨w.heap.size+1,2,none⟩=some (int i64 ((m:Int)+1))/\u.cell? ⟨w.heap.size+1,3,none⟩=some (.slice H y.lgn J)/\u.cell? ⟨w.heap.size+1,4,none⟩=some (int i64 y.pe)/\u.cell? ⟨w.heap.size+1,5,none⟩=some (int i64 y.len)/\u.cell? ⟨w.heap.size+1,6,none⟩=some (int i64 y.hei)/\u.cell? ⟨w.heap.size+1,7,none⟩=some (int i64 y.cl)/\u.cell? ⟨w.heap.size+1,8,none⟩=some (.bool y.all)/\u.cell? ⟨w.heap.size+1,9,none⟩=some (int i64 y.be)/\u.cell? ⟨w.heap.size+1,10,none⟩=some (int i64 y.unt)/\u.cell? ⟨w.heap.size+1,11,none⟩=some (int i64 y.now)/\u.cell? ⟨o,0,none⟩=some (int i64 b.name)/\u.cell? ⟨o,1,none⟩=some (int i64 b.who)/\u.cell? ⟨o,2,none⟩=some (.string b.own)/\u.cell? ⟨o,3,none⟩=some (.slice (some ⟨W,0,none⟩) b.lgn I)/\u.cell? ⟨o,4,none⟩=some (int i64 b.pe)/\u.cell? ⟨o,5,none⟩=some (int i64 b.len)/\u.cell? ⟨o,6,none⟩=some (int i64 b.hei)/\u.cell? ⟨o,7,none⟩=some (int i64 b.cl)/\u.cell? ⟨o,8,none⟩=some (.bool b.all)/\u.cell? ⟨o,9,none⟩=some (int i64 b.be)/\u.cell? ⟨o,10,none⟩=some (int i64 b.state)/\u.cell? ⟨o,11,none⟩=some (int i64 b.unt)/\u.cell? ⟨o,12,none⟩=some (int i64 b.price)) rfl (by kernel_rfl) (⟨za f.out.bo 2 _ rfl,za f.out.bp 0 _ rfl,za f.out.bp 1 _ rfl,za f.out.bp 2 _ rfl,za f.out.bp 3 _ rfl,za f.out.bp 4 _ rfl,za f.out.bp 5 _ rfl,za f.out.bp 6 _ rfl,za f.out.bp 7 _ rfl,za f.out.bp 8 _ rfl,za f.out.bp 9 _ rfl,za f.out.bp 10 _ rfl,za f.out.bp 11 _ rfl,za k.out 0 _ rfl,za k.out 1 _ rfl,za k.out 2 _ rfl,za k.out 3 _ rfl,za k.out 4 _ rfl,za k.out 5 _ rfl,za k.out 6 _ rfl,za k.out 7 _ rfl,za k.out 8 _ rfl,za k.out 9 _ rfl,za k.out 10 _ rfl,za k.out 11 _ rfl,za k.out 12 _ rfl⟩) (λhS=>?_)
 simp only[List.replicate_succ,List.replicate_zero];generalize u1.drew=u2 at f k i hS ⊢
 iterate 8 (refine tFN 0 (v:=?_) rfl (by kernel_rfl) (λ_ _ _ h=>h) rfl (by assumption) ?_ ?_;rotate_left;(focus(intro w' h;(try dsimp only at h);go_simp;try with_reducible rfl));simp only[Act.put,sB,sZ,sS])
 refine zj (rs:=[8]) (by kernel_rfl) (by simp) ?_
 refine zc.consL rfl (λK P=>?_) zc.nil
 go_simp;go_at_call 205;refine Jm (a1.out u2 d (by rw[b3.out];exact b4.out) i) ?_
 rintro e u3 ⟨⟨la,lc,rfl,e0⟩,l⟩;dsimp only;have N:Hid _:=znN l (a4.out.below i) (Jp a6 i.size) Q e6.out (by rw[← b3.out];exact e0)
 have g:Hid _:=((a4.out.below i).below l).bk.row;replace f:Hid _:=f.out.below l;replace k:Hid _:=zb k.out l;replace i:=ze i l;refine P.out _ _ (⟨za f.out.bo 2 _ rfl,za f.out.bp 0 _ rfl,za f.out.bp 1 _ rfl,za f.out.bp 2 _ rfl,za f.out.bp 3 _ rfl,za f.out.bp 4 _ rfl,za f.out.bp 5 _ rfl,za f.out.bp 6 _ rfl,za f.out.bp 7 _ rfl,za f.out.bp 8 _ rfl,za f.out.bp 9 _ rfl,za f.out.bp 10 _ rfl,za f.out.bp 11 _ rfl,za k.out 0 _ rfl,za k.out 1 _ rfl,za k.out 2 _ rfl,za k.out 3 _ rfl,za k.out 4 _ rfl,za k.out 5 _ rfl,za k.out 6 _ rfl,za k.out 7 _ rfl,za k.out 8 _ rfl,za k.out 9 _ rfl,za k.out 10 _ rfl,za k.out 11 _ rfl,za k.out 12 _ rfl⟩) (λhS=>?_)
 clear P K l e0;simp only[sZ,sS]
 (refine tFN 9 (v:=?_) rfl (by kernel_rfl) (λ_ _ _ h=>h) rfl (by assumption) ?_ ?_;rotate_left;(focus(intro w' h;(try dsimp only at h);go_simp;try with_reducible rfl));simp only[Act.put,sB,sZ,sS])
 have R:Hid _:=zfb u3 gb m (int i64 d.name) (int i64 d.who) (.string d.own) (.slice la d.lgn lc) (int i64 d.pe) (int i64 d.len) (int i64 d.hei) (int i64 d.cl) (.bool d.all) (int i64 d.be) (int i64 d.state) (int i64 d.unt) (int i64 d.price);have a:Hid (zfS w (ziz u3 gb m (int i64 d.name) (int i64 d.who) (.string d.own) (.slice la d.lgn lc) (int i64 d.pe) (int i64 d.len) (int i64 d.hei) (int i64 d.cl) (.bool d.all) (int i64 d.be) (int i64 d.state) (int i64 d.unt) (int i64 d.price)) (.slice (some ⟨G,0,none⟩) x.san c1) (.slice O x.ldn c2) (.slice (some ⟨gb,0,none⟩) x.bkn c3) #[int i64 y.kind,.string y.own,int i64 ((m:Int)+1),.slice H y.lgn J,int i64 y.pe,int i64 y.len,int i64 y.hei,int i64 y.cl,.bool y.all,int i64 y.be,int i64 y.unt,int i64 y.now]):=⟨R.out.blk f.out.bo (by show ¬ _=_;omega),R.out.blk f.out.bp (by show ¬ _=_;omega),R.out.blk f.out.br (by show ¬ _=_;omega),R.out.blk f.out.ba (by show ¬ _=_;omega)⟩
 have c:Hid _:=R.out.blk k.out (show ¬ o=gb by omega)
 have M:=hI ((zx.of_below i).trans R.out);obtain⟨v0,o0⟩:∃ v,u3.cell? ⟨gb,m*13+0,none⟩=some v:=⟨_,zU g.out Q (by decide)⟩
 have f0:=Jn g.out (m*13);obtain⟨v1,o1⟩:∃ v,u3.cell? ⟨gb,m*13+1,none⟩=some v:=⟨_,zU g.out Q (by decide)⟩
 have f1:=Jn g.out (m*13+1);obtain⟨v2,o2⟩:∃ v,u3.cell? ⟨gb,m*13+2,none⟩=some v:=⟨_,zU g.out Q (by decide)⟩
 have f2:=Jn g.out (m*13+2);obtain⟨v3,o3⟩:∃ v,u3.cell? ⟨gb,m*13+3,none⟩=some v:=⟨_,zU g.out Q (by decide)⟩
 have f3:=Jn g.out (m*13+3);obtain⟨v4,o4⟩:∃ v,u3.cell? ⟨gb,m*13+4,none⟩=some v:=⟨_,zU g.out Q (by decide)⟩
 have f4:=Jn g.out (m*13+4);obtain⟨v5,o5⟩:∃ v,u3.cell? ⟨gb,m*13+5,none⟩=some v:=⟨_,zU g.out Q (by decide)⟩
 have f5:=Jn g.out (m*13+5);obtain⟨v6,o6⟩:∃ v,u3.cell? ⟨gb,m*13+6,none⟩=some v:=⟨_,zU g.out Q (by decide)⟩
 have f6:=Jn g.out (m*13+6);obtain⟨v7,o7⟩:∃ v,u3.cell? ⟨gb,m*13+7,none⟩=some v:=⟨_,zU g.out Q (by decide)⟩
 have f7:=Jn g.out (m*13+7);obtain⟨v8,o8⟩:∃ v,u3.cell? ⟨gb,m*13+8,none⟩=some v:=⟨_,zU g.out Q (by decide)⟩
 have f8:=Jn g.out (m*13+8);obtain⟨v9,o9⟩:∃ v,u3.cell? ⟨gb,m*13+9,none⟩=some v:=⟨_,zU g.out Q (by decide)⟩
 have f9:=Jn g.out (m*13+9);obtain⟨i5,g7⟩:∃ v,u3.cell? ⟨gb,m*13+10,none⟩=some v:=⟨_,zU g.out Q (by decide)⟩
 have g3:=Jn g.out (m*13+10);obtain⟨i6,g8⟩:∃ v,u3.cell? ⟨gb,m*13+11,none⟩=some v:=⟨_,zU g.out Q (by decide)⟩
 have g4:=Jn g.out (m*13+11);obtain⟨i7,g9⟩:∃ v,u3.cell? ⟨gb,m*13+12,none⟩=some v:=⟨_,zU g.out Q (by decide)⟩
 have g5:=Jn g.out (m*13+12);rw[Nat.add_zero] at o0;refine zj (rs:=[10]) (by kernel_rfl) (by simp) ?_
 refine zc.consL rfl (λK P=>?_) zc.nil
 go_simp;have S:=a.out;have T:=c.out;unfold ziz at S T;refine P.out _ _ (⟨za S.bo 2 _ rfl,za S.bp 0 _ rfl,za S.bp 1 _ rfl,za S.bp 2 _ rfl,za S.bp 3 _ rfl,za S.bp 4 _ rfl,za S.bp 5 _ rfl,za S.bp 6 _ rfl,za S.bp 7 _ rfl,za S.bp 8 _ rfl,za S.bp 9 _ rfl,za S.bp 10 _ rfl,za S.bp 11 _ rfl,za T 0 _ rfl,za T 1 _ rfl,za T 2 _ rfl,za T 3 _ rfl,za T 4 _ rfl,za T 5 _ rfl,za T 6 _ rfl,za T 7 _ rfl,za T 8 _ rfl,za T 9 _ rfl,za T 10 _ rfl,za T 11 _ rfl,za T 12 _ rfl⟩) (λhS=>?_)
 clear P K S T o0 f0 o1 f1 o2 f2 o3 f3 o4 f4 o5 f5 o6 f6 o7 f7 o8 f8 o9 f9 g7 g3 g8 g4 g9 g5;simp only[sZ,sS];refine zX (by kernel_rfl) ?_ _
 unfold ziz at N a c M;generalize ((((((((((((u3.setCell (gb,m*13) d.name).setCell (gb,m*13+1) d.who).setCell (gb,m*13+2) d.own).setCell (gb,m*13+3) (la,d.lgn,lc)).setCell (gb,m*13+4) d.pe).setCell (gb,m*13+5) d.len).setCell (gb,m*13+6) d.hei).setCell (gb,m*13+7) d.cl).setCell (gb,m*13+8) d.all).setCell (gb,m*13+9) d.be).setCell (gb,m*13+10) d.state).setCell (gb,m*13+11) d.unt).setCell (gb,m*13+12) d.price=U4 at N a c M ⊢;clear f k i R g a4 a1;go_upto_region 15 with fail;replace a:Hid _:=a.out.below (Ji _ U4).drew;replace N:Hid _:=N.out.below (Ji _ U4).drew;replace c:Hid _:=zK c.out;replace M:Hid _:=M.out.trans (zx.of_below (Ji _ U4).drew);have a0:Hid (∀ z,Below U4.drew.heap.size U4.drew z->z.cell? ⟨G,k0*8+3,none⟩=some (int i64 (x.sa k0).dep)):=λz hz=>by
  have h:=zs (N.out.below hz).sa.row (k0*8+3) (by omega) rfl
  rw[h];unfold qz;rw[Je (by omega),Je (by omega),Je (by omega),Jf (by omega),show(k0*8+3) / 8=k0 by omega]
 refine qg 15 15 (λu=>u.cell? ⟨w.heap.size,0,none⟩=some (.slice (some ⟨G,0,none⟩) x.san c1)/\u.cell? ⟨w.heap.size,1,none⟩=some (.slice O x.ldn c2)/\u.cell? ⟨w.heap.size,2,none⟩=some (.slice (some ⟨gb,0,none⟩) x.bkn c3)/\u.cell? ⟨w.heap.size+1,0,none⟩=some (int i64 y.kind)/\u.cell? ⟨w.heap.size+1,1,none⟩=some (.string y.own)/\u.cell? ⟨w.heap.size+1,2,none⟩=some (int i64 ((m:Int)+1))/\u.cell? ⟨w.heap.size+1,3,none⟩=some (.slice H y.lgn J)/\u.cell? ⟨w.heap.size+1,4,none⟩=some (int i64 y.pe)/\u.cell? ⟨w.heap.size+1,5,none⟩=some (int i64 y.len)/\u.cell? ⟨w.heap.size+1,6,none⟩=some (int i64 y.hei)/\u.cell? ⟨w.heap.size+1,7,none⟩=some (int i64 y.cl)/\u.cell? ⟨w.heap.size+1,8,none⟩=some (.bool y.all)/\u.cell? ⟨w.heap.size+1,9,none⟩=some (int i64 y.be)/\u.cell? ⟨w.heap.size+1,10,none⟩=some (int i64 y.unt)/\u.cell? ⟨w.heap.size+1,11,none⟩=some (int i64 y.now)/\u.cell? ⟨o,0,none⟩=some (int i64 b.name)/\u.cell? ⟨o,1,none⟩=some (int i64 b.who)/\u.cell? ⟨o,2,none⟩=some (.string b.own)/\u.cell? ⟨o,3,none⟩=some (.slice (some ⟨W,0,none⟩) b.lgn I)/\u.cell? ⟨o,4,none⟩=some (int i64 b.pe)/\u.cell? ⟨o,5,none⟩=some (int i64 b.len)/\u.cell? ⟨o,6,none⟩=some (int i64 b.hei)/\u.cell? ⟨o,7,none⟩=some (int i64 b.cl)/\u.cell? ⟨o,8,none⟩=some (.bool b.all)/\u.cell? ⟨o,9,none⟩=some (int i64 b.be)/\u.cell? ⟨o,10,none⟩=some (int i64 b.state)/\u.cell? ⟨o,11,none⟩=some (int i64 b.unt)/\u.cell? ⟨o,12,none⟩=some (int i64 b.price)/\u.cell? ⟨G,k0*8+3,none⟩=some (int i64 (x.sa k0).dep)) rfl (by kernel_rfl) (⟨za a.out.bo 0 _ rfl,za a.out.bo 1 _ rfl,za a.out.bo 2 _ rfl,za a.out.bp 0 _ rfl,za a.out.bp 1 _ rfl,za a.out.bp 2 _ rfl,za a.out.bp 3 _ rfl,za a.out.bp 4 _ rfl,za a.out.bp 5 _ rfl,za a.out.bp 6 _ rfl,za a.out.bp 7 _ rfl,za a.out.bp 8 _ rfl,za a.out.bp 9 _ rfl,za a.out.bp 10 _ rfl,za a.out.bp 11 _ rfl,za c.out 0 _ rfl,za c.out 1 _ rfl,za c.out 2 _ rfl,za c.out 3 _ rfl,za c.out 4 _ rfl,za c.out 5 _ rfl,za c.out 6 _ rfl,za c.out 7 _ rfl,za c.out 8 _ rfl,za c.out 9 _ rfl,za c.out 10 _ rfl,za c.out 11 _ rfl,za c.out 12 _ rfl,a0.out _ bZ⟩) (λhS=>?_)
 simp only[List.replicate_succ,List.replicate_zero];generalize U4.drew=u5 at a c N M a0 hS ⊢
 iterate 11 (refine tFN 0 (v:=?_) rfl (by kernel_rfl) (λ_ _ _ h=>h) rfl (by assumption) ?_ ?_;rotate_left;(focus(intro w' h;(try dsimp only at h);go_simp;try with_reducible rfl));simp only[Act.put,sB,sZ,sS])
 refine zj (rs:=[11]) (by kernel_rfl) (by simp) ?_
 refine zc.consL rfl (λK P=>?_) zc.nil
 go_simp;go_at_call 206;refine Jm (a5.out u5 (zx.below bZ a6 M.out (λb e=>by rw[show b=gb from e];exact d7))) ?_
 rintro e u6 ⟨rfl,l⟩;dsimp only;replace a:Hid _:=a.out.below l;replace N:Hid _:=N.out.below l;replace c:Hid _:=zb c.out l;replace M:Hid _:=M.out.trans (zx.of_below l);replace a0:Hid _:=a0.out u6 l;refine P.out _ _ (⟨za a.out.bo 0 _ rfl,za a.out.bo 1 _ rfl,za a.out.bo 2 _ rfl,za a.out.bp 0 _ rfl,za a.out.bp 1 _ rfl,za a.out.bp 2 _ rfl,za a.out.bp 3 _ rfl,za a.out.bp 4 _ rfl,za a.out.bp 5 _ rfl,za a.out.bp 6 _ rfl,za a.out.bp 7 _ rfl,za a.out.bp 8 _ rfl,za a.out.bp 9 _ rfl,za a.out.bp 10 _ rfl,za a.out.bp 11 _ rfl,za c.out 0 _ rfl,za c.out 1 _ rfl,za c.out 2 _ rfl,za c.out 3 _ rfl,za c.out 4 _ rfl,za c.out 5 _ rfl,za c.out 6 _ rfl,za c.out 7 _ rfl,za c.out 8 _ rfl,za c.out 9 _ rfl,za c.out 10 _ rfl,za c.out 11 _ rfl,za c.out 12 _ rfl,a0.out⟩) (λhS=>?_)
 clear P K l;simp only[sZ,sS]
 (refine tFN 12 (v:=?_) rfl (by kernel_rfl) (λ_ _ _ h=>h) rfl (by assumption) ?_ ?_;rotate_left;(focus(intro w' h;(try dsimp only at h);go_simp;try with_reducible rfl));simp only[Act.put,sB,sZ,sS])
 have f:=a;have s:Hid _:=(QG u6 (w.heap.size+1+1) (.slice (some ⟨G,0,none⟩) x.san c1) (.slice O x.ldn c2) (.slice (some ⟨gb,0,none⟩) x.bkn c3)).blk c.out (show ¬ o=w.heap.size+1+1 by omega)
 have t:Hid _:=(QH (qt u6 (w.heap.size+1+1) (.slice (some ⟨G,0,none⟩) x.san c1) (.slice O x.ldn c2) (.slice (some ⟨gb,0,none⟩) x.bkn c3)) (w.heap.size+1+1+1) (int i64 0) (int i64 ((m:Int)+1)) (int i64 td) (.slice none 0 0)).blk s.out (show ¬ o=w.heap.size+1+1+1 by omega)
 have b8:Hid _:=N.out.box (QG u6 (w.heap.size+1+1) (.slice (some ⟨G,0,none⟩) x.san c1) (.slice O x.ldn c2) (.slice (some ⟨gb,0,none⟩) x.bkn c3)) f.out.br (by decide)
 have b9:Hid _:=b8.out.box (QH (qt u6 (w.heap.size+1+1) (.slice (some ⟨G,0,none⟩) x.san c1) (.slice O x.ldn c2) (.slice (some ⟨gb,0,none⟩) x.bkn c3)) (w.heap.size+1+1+1) (int i64 0) (int i64 ((m:Int)+1)) (int i64 td) (.slice none 0 0)) (f.out.fin (.slice (some ⟨G,0,none⟩) x.san c1) (.slice O x.ldn c2) (.slice (some ⟨gb,0,none⟩) x.bkn c3) (int i64 0) (int i64 ((m:Int)+1)) (int i64 td) (.slice none 0 0)).2.2.2.2.1 (by decide)
 have e4:Hid ((qt u6 (w.heap.size+1+1) (.slice (some ⟨G,0,none⟩) x.san c1) (.slice O x.ldn c2) (.slice (some ⟨gb,0,none⟩) x.bkn c3)).cell? ⟨G,k0*8+3,none⟩=some (int i64 (x.sa k0).dep)):=by
  have h:=zs b8.out.sa.row (k0*8+3) (by omega) rfl
  refine h.trans ?_;unfold qz;rw[Je (by omega),Je (by omega),Je (by omega),Jf (by omega),show(k0*8+3) / 8=k0 by omega]
 have e5:Hid ((ZK (qt u6 (w.heap.size+1+1) (.slice (some ⟨G,0,none⟩) x.san c1) (.slice O x.ldn c2) (.slice (some ⟨gb,0,none⟩) x.bkn c3)) (w.heap.size+1+1+1) (int i64 0) (int i64 ((m:Int)+1)) (int i64 td) (.slice none 0 0)).cell? ⟨G,k0*8+3,none⟩=some (int i64 (x.sa k0).dep)):=by
  have h:=zs b9.out.sa.row (k0*8+3) (by omega) rfl
  refine h.trans ?_;unfold qz;rw[Je (by omega),Je (by omega),Je (by omega),Jf (by omega),show(k0*8+3) / 8=k0 by omega]
 have a3:Hid _:=f.out.fin (.slice (some ⟨G,0,none⟩) x.san c1) (.slice O x.ldn c2) (.slice (some ⟨gb,0,none⟩) x.bkn c3) (int i64 0) (int i64 ((m:Int)+1)) (int i64 td) (.slice none 0 0);obtain⟨r0,r1,r2⟩:=ce3 f.out.br;obtain⟨f0,f1,f2⟩:=fe3 f.out.br;refine zj (rs:=[13]) (by kernel_rfl) (by simp) ?_
 refine zc.consL rfl (λK P=>?_) zc.nil
 go_simp;have j:=a3.out.2.2;unfold qt at j;refine P.out _ _ (⟨za j.1 0 _ rfl,za j.1 1 _ rfl,za j.1 2 _ rfl,za j.2.1 0 _ rfl,za j.2.1 1 _ rfl,za j.2.1 2 _ rfl,za j.2.1 3 _ rfl,za j.2.1 4 _ rfl,za j.2.1 5 _ rfl,za j.2.1 6 _ rfl,za j.2.1 7 _ rfl,za j.2.1 8 _ rfl,za j.2.1 9 _ rfl,za j.2.1 10 _ rfl,za j.2.1 11 _ rfl,za (by have h:=s.out;unfold qt at h;exact h) 0 _ rfl,za (by have h:=s.out;unfold qt at h;exact h) 1 _ rfl,za (by have h:=s.out;unfold qt at h;exact h) 2 _ rfl,za (by have h:=s.out;unfold qt at h;exact h) 3 _ rfl,za (by have h:=s.out;unfold qt at h;exact h) 4 _ rfl,za (by have h:=s.out;unfold qt at h;exact h) 5 _ rfl,za (by have h:=s.out;unfold qt at h;exact h) 6 _ rfl,za (by have h:=s.out;unfold qt at h;exact h) 7 _ rfl,za (by have h:=s.out;unfold qt at h;exact h) 8 _ rfl,za (by have h:=s.out;unfold qt at h;exact h) 9 _ rfl,za (by have h:=s.out;unfold qt at h;exact h) 10 _ rfl,za (by have h:=s.out;unfold qt at h;exact h) 11 _ rfl,za (by have h:=s.out;unfold qt at h;exact h) 12 _ rfl,(by have h:=e4.out;unfold qt at h;exact h)⟩) (λhS=>?_)
 clear P K r0 f0 r1 f1 r2 f2;simp only[sZ,sS];obtain⟨r0,r1,r2,r3⟩:=ce4 j.2.2.1;obtain⟨f0,f1,f2,f3⟩:=fe4 j.2.2.1;refine zj (rs:=[14]) (by kernel_rfl) (by simp) ?_
 refine zc.consL rfl (λK P=>?_) zc.nil
 go_simp;have n:=a3.out.2.2.2.2.2;unfold ZK qt at n;refine P.out _ _ (⟨za n.1 0 _ rfl,za n.1 1 _ rfl,za n.1 2 _ rfl,za n.2.1 0 _ rfl,za n.2.1 1 _ rfl,za n.2.1 2 _ rfl,za n.2.1 3 _ rfl,za n.2.1 4 _ rfl,za n.2.1 5 _ rfl,za n.2.1 6 _ rfl,za n.2.1 7 _ rfl,za n.2.1 8 _ rfl,za n.2.1 9 _ rfl,za n.2.1 10 _ rfl,za n.2.1 11 _ rfl,za (by have h:=t.out;unfold ZK qt at h;exact h) 0 _ rfl,za (by have h:=t.out;unfold ZK qt at h;exact h) 1 _ rfl,za (by have h:=t.out;unfold ZK qt at h;exact h) 2 _ rfl,za (by have h:=t.out;unfold ZK qt at h;exact h) 3 _ rfl,za (by have h:=t.out;unfold ZK qt at h;exact h) 4 _ rfl,za (by have h:=t.out;unfold ZK qt at h;exact h) 5 _ rfl,za (by have h:=t.out;unfold ZK qt at h;exact h) 6 _ rfl,za (by have h:=t.out;unfold ZK qt at h;exact h) 7 _ rfl,za (by have h:=t.out;unfold ZK qt at h;exact h) 8 _ rfl,za (by have h:=t.out;unfold ZK qt at h;exact h) 9 _ rfl,za (by have h:=t.out;unfold ZK qt at h;exact h) 10 _ rfl,za (by have h:=t.out;unfold ZK qt at h;exact h) 11 _ rfl,za (by have h:=t.out;unfold ZK qt at h;exact h) 12 _ rfl,(by have h:=e5.out;unfold ZK qt at h;exact h)⟩) (λhS=>?_)
 clear P K r0 f0 r1 f1 r2 f2 r3 f3 j n;simp only[sZ,sS];refine zX (by kernel_rfl) ?_ _
 go_wp2;have Z3:=a3.out.1;have Z4:=a3.out.2.1;unfold ZK qt at Z3 Z4;obtain⟨z0,z1,z2⟩:=ce3 Z3;obtain⟨t0,t1,t2,t3⟩:=ce4 Z4;have b7:=lowK M.out (.slice (some ⟨G,0,none⟩) x.san c1) (.slice O x.ldn c2) (.slice (some ⟨gb,0,none⟩) x.bkn c3) (int i64 0) (int i64 ((m:Int)+1)) (int i64 td) (.slice none 0 0);have a9:=b9.out;rw[b4.out] at a9;unfold ZK qt at b7 a9;exact Jj (v:=.tuple #[.agg #[.slice (some ⟨G,0,none⟩) x.san c1,.slice O x.ldn c2,.slice (some ⟨gb,0,none⟩) x.bkn c3],.agg #[int i64 0,int i64 ((m:Int)+1),int i64 td,.slice none 0 0]]) (by simp[results,results111,go_sem,z0,z1,z2,t0,t1,t2,t3]) rfl ⟨⟨_,by rw[e8.out],a9⟩,b7⟩
def zat (k:Nat):Bool:=decide (k=2∨k=3∨k=7)
def zaS (k:Nat):Bool:=decide (4<=k/\k<=8)
def Z0 (k:Nat):Int:=if k=1∨k=2∨k=3∨k=5 then 3 else if k=9 then 1 else 0
def QZ (k:Nat):Bool:=decide (k=1∨k=2∨k=3∨k=5)
def zbm (k:Nat):Bool:=decide (k=2)
def zmg (k:Nat):Bool:=decide (k=6∨k=8)
def zdy (k:Nat):Bool:=decide (k=5∨k=6∨k=8)
def Zm (w:World):Prop:=∀ k,k<10 ->
 w.cell? (9,k*7)=some (.bool (zat k))/\w.cell? (9,k*7+1)=some (.bool (zaS k))/\w.cell? (9,k*7+2)=some (Z0 k) /\
 w.cell? (9,k*7+3)=some (.bool (QZ k))/\w.cell? (9,k*7+4)=some (.bool (zbm k))/\w.cell? (9,k*7+5)=some (.bool (zmg k))/\w.cell? (9,k*7+6)=some (.bool (zdy k))
theorem Zm.lt {w:World}(h:Zm w):9<w.heap.size:=Ja w _ (h 0 (by decide)).1
theorem Zm.below {w w':World}(h:Zm w)(a:Below w.heap.size w w'):Zm w':=by
 intro k g;obtain⟨c,h1,h2,h3,d,e,f⟩:=h k g;have b:=h.lt;exact⟨(a.cell b).trans c,(a.cell b).trans h1,(a.cell b).trans h2,(a.cell b).trans h3,(a.cell b).trans d,(a.cell b).trans e,(a.cell b).trans f⟩
theorem Qo (x:Int)(w:World) :
  Calls prog 242 #[int i64 x] w λe w'=>e=.returned (.bool (decide (In x 0 10000)))/\w'=w:=by
 go_enter func242,ntmps242;go_wp2_with (first|(go_at_call 191;refine(zz _ _ _ _).mono ?_;rintro e w' ⟨rfl,rfl⟩))
 go_ret;exact⟨rfl,rfl⟩
theorem zN (a b c:Bool)(w:World) :
  Calls prog 241 #[.bool a,.bool b,.bool c] w λe w'=>e=.returned (.bool (if a then b else c))/\w'=w:=by
 cases a with
 | true =>
  go_enter func241,ntmps241;go_wp2;go_ret;exact⟨rfl,rfl⟩
 | false =>
  go_enter func241,ntmps241;go_wp2;go_ret;exact⟨rfl,rfl⟩
end Go.Proofs.YtmdnjgihooflfaaGreatDoor
