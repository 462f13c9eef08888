/-
  OWN TEXT: PutRoom, PlaceRW, PlaceRB, WholeFor, WholeI, SeatOf, SeatsF.
-/
import Derived.Deep.DeepCutAuto
import Derived.Deep.LoopGhost
import Derived.Test.YtmdnjgihooflfaaGreatDoorB16
namespace Go.Proofs.YtmdnjgihooflfaaGreatDoor
open Go.RowKit
open Go.Value (int)
open Go.IntKind (i64)
set_option maxHeartbeats 64000000
set_option maxRecDepth 100000
theorem zgT (bo:Option Addr)(n c:Nat)(S:Nat->qN)(r:qN)(w:World)(hn:n<=1048576)(I:qp w bo n S)(k:bo=none->n=0/\c=0) :
  Calls Tryz.prog 298 #[.slice bo n c,.agg #[int i64 r.who,int i64 r.cab,int i64 r.many,.bool r.all]] w fun e w'=>(∃ v,e=.returned v/\w'.ownsRow w.heap.size 228 4 v (n+1) (zw (ZE S n (fun _=>r)) (n+1)))/\Below w.heap.size w w':=by
 obtain⟨U,J,D,x,E⟩:=info_parts Tryz.infoRoom;have R:=hI I;have A:=hI k;clear I k;have T:IntKind.i64.wrap ((n:Int)+1)=((n+1:Nat):Int):=by rw[IntKind.wrap_i64];omega
 have s:(Tryz.prog.info? 228).map (·.size)=some 4:=by rw[J];simp[x]
 have q:=zk (Below.refl _ w) (.cells #[int i64 r.who,int i64 r.cab,int i64 r.many,.bool r.all] 228);have K:=heap_alloc_new w (.cells #[int i64 r.who,int i64 r.cab,int i64 r.many,.bool r.all] 228);go_enter Tryz.func298,Tryz.ntmps298;go_upto_region 2 with(first|(at_make;refine wpList_make_full _ rfl _ _ 142 rfl w.heap.size 228 U _ 4 Tryz.underlying142 J D x .i64 .i64 _ _ (n+1) rfl rfl (by simp) (by simp) (by rw[E];omega) (by unfold maxLen;omega) (by simp) ?_;intro M g b))
 have l:Below w.heap.size w M:=q.grown b (by simp) (fun j G=>by cases G)
 have L:=zjB b K (by simp)
 obtain⟨d,f,u⟩:=own_row g;have O:=hI (Qv (R.out.below l));have B:=hI L;have y:=hI l;clear g b K q L l;rw[World.size_alloc] at f;obtain⟨F,H,t,m⟩:=copy_k (P:=Tryz.prog) M 142 142 228 (w.heap.size+1) (n+1) (n+1) bo n c d 228 (zw S n) 4 Tryz.underlying142 s f (by omega) (qK _ _) A.out O.out (by rw[qK,u];omega) (Z5 _ _)
 have a:=zhY t (N:=(n+1)*4) (by simp[qK,u];omega)
 have p:F.heap[w.heap.size]?=some (.cells #[int i64 r.who,int i64 r.cab,int i64 r.many,.bool r.all] 228 (0,0)):=(m.block _ (by omega)).trans B.out
 obtain⟨o0,o1,o2,o3⟩:=ce4 p;have V:=a.cell (i:=n*4) (by omega)
 have W:=a.cell (i:=n*4+1) (by omega)
 have X:=a.cell (i:=n*4+2) (by omega)
 have Y:=a.cell (i:=n*4+3) (by omega)
 have f0:=a.frozen (n*4);have f1:=a.frozen (n*4+1);have f2:=a.frozen (n*4+2);have f3:=a.frozen (n*4+3);have i1:(0:Int)<=(n:Int):=by omega
 have i2:(n:Int)<((n+1:Nat):Int):=by omega
 have z:Hid (Below w.heap.size w F):=y.out.trans (m.mono (by omega))
 have C:=hI a;clear t m a p f;generalize List.getD (zw S n++d.toList.drop (zw S n).length) (n*4) (.bool false)=u0 at V;generalize List.getD (zw S n++d.toList.drop (zw S n).length) (n*4+1) (.bool false)=u1 at W;generalize List.getD (zw S n++d.toList.drop (zw S n).length) (n*4+2) (.bool false)=u2 at X;generalize List.getD (zw S n++d.toList.drop (zw S n).length) (n*4+3) (.bool false)=u3 at Y;have Q:Hid (((((F.setCell ⟨w.heap.size+1,n*4,none⟩ (int i64 r.who)).setCell ⟨w.heap.size+1,n*4+1,none⟩ (int i64 r.cab)).setCell ⟨w.heap.size+1,n*4+2,none⟩ (int i64 r.many)).setCell ⟨w.heap.size+1,n*4+3,none⟩ (.bool r.all)).rowIs (w.heap.size+1) 228 ((n+1)*4) (qs (ZE S n (fun _=>r)))):=by
  refine((((C.out.set (n*4) _).set (n*4+1) _).set (n*4+2) _).set (n*4+3) _).congr (fun j G=>?_)
  have h:ZE S n (fun _=>r) n=r:=by unfold ZE;rw[if_neg (Nat.lt_irrefl _)]
  by_cases h3:j=n*4+3
  ·subst h3;rw[if_pos rfl,zaM,h]
  rw[if_neg h3]
  by_cases h2:j=n*4+2
  ·subst h2;rw[if_pos rfl,zaL,h]
  rw[if_neg h2]
  by_cases h1:j=n*4+1
  ·subst h1;rw[if_pos rfl,zaK,h]
  rw[if_neg h1]
  by_cases h0:j=n*4
  ·subst h0;rw[if_pos rfl,zaJ,h]
  rw[if_neg h0];have o:j<(zw S n).length:=by rw[qK];omega
  rw[List.getD_eq_getElem?_getD,List.getElem?_append_left o,List.getElem?_eq_getElem o,Option.getD_some];have:=zfz (List.getElem?_eq_getElem o);rw[this.2];unfold qs ZE;rw[if_pos (show j / 4<n by omega)]
 go_wp2;go_ret;exact⟨⟨_,rfl,Zz Q.out (by omega) (by unfold maxLen;omega)⟩,(((z.out.setCell (by show w.heap.size<=w.heap.size+1;omega) _).setCell (by show w.heap.size<=w.heap.size+1;omega) _).setCell (by show w.heap.size<=w.heap.size+1;omega) _).setCell (by show w.heap.size<=w.heap.size+1;omega) _⟩
attribute [local go_sem ↓] Go.wp_at_zero Go.wp_at_succ
def MayW (p:zH)(n:Nat)(S:Nat->qN)(x:Int):Prop:=Qr p n S/\¬ Has (ZV S) n x/\In x 1 9999
def HadW (p:zH)(n:Nat)(S:Nat->qN)(cl q:Int)(j:Nat):Prop:=p.A j=cl/\(Za p S n j=p.B j/\q<=p.B j)
def PlaceW (w':World)(base t:Nat)(p:zH)(n:Nat)(S:Nat->qN)(x cl q:Int)(e:Ending):Prop :=
 (∃ k v,MayW p n S x/\ZH p.n (HadW p n S cl q) k/\e=.returned (.tuple #[v,int i64 (k:Int),.bool true])/\w'.ownsRow base t 4 v (n+1) (zw (ZE S n (fun _=>⟨x,(k:Int),p.B k,true⟩)) (n+1))) ∨
 ((∀ k,¬ (MayW p n S x/\ZH p.n (HadW p n S cl q) k))/\e=.returned (.tuple #[.slice none 0 0,int i64 0,.bool false]))
theorem rec4W {w:World}{g t:Nat}{u0 u1 u2 u3:Value}(h:w.heap[g]?=some (.cells #[u0,u1,u2,u3] t (0,0)))(v0 v1 v2 v3:Value) :
  ((((w.setCell ⟨g,0,none⟩ v0).setCell ⟨g,1,none⟩ v1).setCell ⟨g,2,none⟩ v2).setCell ⟨g,3,none⟩ v3).heap[g]?=some (.cells #[v0,v1,v2,v3] t (0,0)):=by
 have:=zm (zm (zm (zm h 0 v0) 1 v1) 2 v2) 3 v3
 simpa using this
theorem row6W {w:World}{g t:Nat}{F:Nat->Int}(h:w.heap[g]?=some (.cells #[int i64 (F 0),int i64 (F 1),int i64 (F 2),int i64 (F 3),int i64 (F 4),int i64 (F 5)] t (0,0))):w.rowIs g t 6 (fun k=>int i64 (F k)):=by
 refine⟨_,h,rfl,fun i hi=>?_⟩
 have:i=0∨i=1∨i=2∨i=3∨i=4∨i=5:=by omega
 rcases this with rfl|rfl|rfl|rfl|rfl|rfl <;> rfl
theorem znu (ao bo:Option Addr)(m mc n c:Nat)(p:zH)(S:Nat->qN)(x cl q:Int)(w:World)(hl:p.n=m)(hm:m<=1048576)(hn:n<=1048576)(hc:n<=c)(hx:zG w ao p)(hz:qp w bo n S)(E:bo=none->n=0/\c=0) :
  Calls Tryz.prog 295 #[.slice ao m mc,.slice bo n c,int i64 x,int i64 cl,.iface 379 (.agg #[int i64 q])] w fun e w'=>PlaceW w' w.heap.size 228 p n S x cl q e/\Below w.heap.size w w':=by
 have L:=hI hl;have HX:=hI hx;have HZ:=hI hz;have a0:=hI E;clear hl hx hz E;have b2:∀ (fn:Fn) (first Q:Array Value) (w:World),(Instr.makeFunc fn first Q).run Tryz.prog w=.ok (.func fn first Q) w:=fun _ _ _ _=>rfl
 have k1:=nilW;have k3:=methW;go_enter Tryz.func295,Tryz.ntmps295;go_wp2_with fail;refine(zbh ao bo m mc n c p S _ L.out hm hn hc HX.out HZ.out).mono ?_;rintro e M ⟨T,g⟩
 rcases T with⟨X,rfl⟩|⟨V,rfl⟩
 ·have HR:=hI (zct.1 X)
  clear X;unfold six;have b1:m<=6:=by rw[← L.out];exact HR.out.1.1
  by_cases g1:In x 1 9999
  ·have e1:decide (In x 1 9999)=true:=decide_eq_true g1
   have H1:=hI g1;clear g1
   by_cases g2:Has (ZV S) n x
   ·have e2:decide (0<=Zv (ZV S) x n)=true:=decide_eq_true ((QC _ _ _).2 g2)
    have H2:=hI g2;clear g2;go_wp2_with (first|(go_at_call 102;refine sC (Qg _ _) ?_)|(go_at_call 244;refine(QF bo n c S x _ hn (HZ.out.below (zk g _))).mono ?_;rintro e w2 ⟨rfl,r⟩))
    exact bodyPost_ret (v:=.tuple #[.slice none 0 0,int i64 0,.bool false]) (by simp[results,Tryz.results295,go_sem]) rfl ⟨.inr ⟨fun k h=>h.1.2.1 H2.out,rfl⟩,ze (zk g _) r⟩
   ·have e2:decide (0<=Zv (ZV S) x n)=false:=decide_eq_false (fun h=>g2 ((QC _ _ _).1 h))
    have H2:=hI g2;clear g2;have A:Hid ((M.alloc (.cells #[int i64 (Zl p S n 0),int i64 (Zl p S n 1),int i64 (Zl p S n 2),int i64 (Zl p S n 3),int i64 (Zl p S n 4),int i64 (Zl p S n 5)] 323)).rowIs M.heap.size 323 6 (fun k=>int i64 (Zl p S n k))):=row6W (heap_alloc_new M _)
    have G:Hid (Below w.heap.size w (M.alloc (.cells #[int i64 (Zl p S n 0),int i64 (Zl p S n 1),int i64 (Zl p S n 2),int i64 (Zl p S n 3),int i64 (Zl p S n 4),int i64 (Zl p S n 5)] 323))):=zk g _;have a2:w.heap.size<=M.heap.size:=g.size;go_upto_region 4 with(first|(go_at_call 102;refine sC (Qg _ _) ?_)|(go_at_call 244;refine(QF bo n c S x _ hn (HZ.out.below G.out)).mono ?_;rintro e w2 ⟨rfl,r⟩))
    have l:=qo A.out r;have D:=ze G.out r;generalize M.heap.size=f at a2 l ⊢;clear A G r g e1 e2;go_wp2;go_loopw [15,16,17,18,40] (fun _ _ _ _ i wr=>∃ k:Nat,k<=m/\i=int i64 k/\(∀ j,j<k->¬ HadW p n S cl q j)/\wr.rowIs f 323 6 (fun j=>int i64 (Zl p S n j))/\Below w.heap.size w wr) (fun _ _ _ _ i _=>m - (intOf i).toNat)
    case atStart=>exact⟨0,Nat.zero_le _,rfl,fun j hj=>by omega,l,D⟩
    case round =>
     obtain⟨k,hk,rfl,C,F,d⟩:=hrel;have Z:=hI C;clear C l D
     by_cases hlt:k<m
     ·obtain⟨b,off,rfl,h1,h2⟩:=HX.out k (by rw[L.out];exact hlt)
      have hb:=World.block_lt_of_cell? w _ h1;have c1:=(d.cell (p:=⟨b,off+k*2,none⟩) hb).trans h1;have c2:=(d.cell (p:=⟨b,off+k*2+1,none⟩) hb).trans h2;have b0:=heap_alloc_new wr (.cells #[int i64 (p.A k),int i64 (p.B k)] 231);have y:=zk d (.cells #[int i64 (p.A k),int i64 (p.B k)] 231);have z:=qo F (zk (Below.refl _ wr) (.cells #[int i64 (p.A k),int i64 (p.B k)] 231));clear h1 h2;go_upto_region 7 with fail;generalize hW:wr.alloc (.cells #[int i64 (p.A k),int i64 (p.B k)] 231)=W at b0 y z ⊢;clear hW;have b3:wr.heap.size<W.heap.size:=zM b0;have a9:f<W.heap.size:=z.lt;have b4:w.heap.size<=W.heap.size:=y.size;have O:=hI b0;have J:=hI z;have I:=hI y;generalize wr.heap.size=cb at *;have i1:(0:Int)<=(k:Int):=by omega
      have i3:(k:Int)<6:=by omega
      have u:Hid (∀ w',Below W.heap.size W w'->(w'.cell? ⟨cb,0,none⟩=some (int i64 (p.A k))/\w'.cell? ⟨cb,1,none⟩=some (int i64 (p.B k))/\w'.cell? ⟨f,k,none⟩=some (int i64 (Za p S n k)))):=fun w' h=>⟨za (zb O.out h) 0 _ rfl,za (zb O.out h) 1 _ rfl,by
       have:=(qo J.out h).cell (i:=k) (by omega)
       rw[this,zcN (by rw[L.out];exact hlt)]⟩
      obtain⟨R,K⟩:∃ R,R=decide (Za p S n k=p.B k/\q<=p.B k):=⟨_,rfl⟩;have P:=hI K;have U:Hid (∀ Y:World,Calls Tryz.prog 336 #[.agg #[int i64 q],.agg #[int i64 (p.A k),int i64 (p.B k)],int i64 (Za p S n k)] Y fun e w'=>e=.returned (.tuple #[.agg #[int i64 0,int i64 0,int i64 (p.B k),.bool true],.bool R])/\Below Y.heap.size Y w'):=fun Y=>by rw[K];exact zgR _ _ _ _ Y
      clear c1 c2 b0 y z F d K;go_cut [17,18] (fun a5 a6 wc=>∃ B,a5=.pointer (some ⟨B,0,none⟩)/\a6=.bool R/\wc.heap[B]?=some (.cells #[int i64 0,int i64 0,int i64 (p.B k),.bool true] 228 (0,0))/\W.heap.size<=B/\Below W.heap.size W wc)
      case first =>
       go_region_held3 (fun w'=>w'.cell? ⟨cb,0,none⟩=some (int i64 (p.A k))/\w'.cell? ⟨cb,1,none⟩=some (int i64 (p.B k))/\w'.cell? ⟨f,k,none⟩=some (int i64 (Za p S n k)))
        ((refine u.out _ ?_;(repeat(first|exact bZ|refine Below.drew ?_|refine zk ?_ _|refine setI ?_ (by omega) _|refine ze ?_ s))))
        (first|(go_at_call 336;refine Calls.mono (U.out _) ?_;rintro e w4 ⟨rfl,s⟩;have s4:W.heap.size<=w4.heap.size:=(by have:=s.size;first|omega|(simp at this;omega));(first|(have a:w4.heap[W.heap.size]?=some (.cells #[int i64 0,int i64 0,int i64 0,.bool false] 228 (0,0)):=zb (heap_alloc_new W.drew (.cells #[int i64 0,int i64 0,int i64 0,.bool false] 228)) s;have y0:=za a 0 _ rfl;have y1:=za a 1 _ rfl;have y2:=za a 2 _ rfl;have y3:=za a 3 _ rfl;have f0:=zg a 0;have f1:=zg a 1;have f2:=zg a 2;have f3:=zg a 3)|skip)))
       all_goals
        go_wp2;go_meet
        first|exact⟨_,rfl,rfl,heap_alloc_new w4 _,s4,(by(repeat(first|exact bZ|refine Below.drew ?_|refine zk ?_ _|refine setI ?_ (by omega) _|refine ze ?_ s)))⟩|exact⟨_,rfl,rfl,rec4W a _ _ _ _,Nat.le_refl _,(by(repeat(first|exact bZ|refine Below.drew ?_|refine zk ?_ _|refine setI ?_ (by omega) _|refine ze ?_ s)))⟩
      case rest =>
      obtain⟨B,rfl,rfl,t,a7,o⟩:=hcut;have a8:=(u.out _ o).1
      by_cases g3:p.A k=cl
      ·have e3:(p.A k == cl)=true:=by simpa using g3
       have H3:=hI g3;clear g3
       cases R with
       | true =>
        have h4:Za p S n k=p.B k/\q<=p.B k:=of_decide_eq_true P.out.symm;have N:=hI h4;clear h4;obtain⟨o0,o1,o2,o3⟩:=ce4 t;have f0:=zg t 0;have f1:=zg t 1;have H:Hid (Below w.heap.size w ((wc.setCell ⟨B,0,none⟩ (int i64 x)).setCell ⟨B,1,none⟩ (int i64 (k:Int)))):=((ze I.out o).setCell (by show w.heap.size<=B;omega) _).setCell (by show w.heap.size<=B;omega) _
        go_wp2_with (first|(go_at_call 298;refine Calls.mono (zgT bo n c S ⟨x,(k:Int),p.B k,true⟩ _ hn (HZ.out.below H.out) a0.out) ?_;rintro e w5 ⟨⟨v,rfl,a3⟩,a1⟩))
        have a4:=H.out.size;exact bodyPost_ret (v:=.tuple #[v,int i64 (k:Int),.bool true]) (by simp[results,Tryz.results295,go_sem]) rfl ⟨.inl ⟨k,v,⟨HR.out,H2.out,H1.out⟩,⟨by rw[L.out];exact hlt,⟨H3.out,N.out⟩,Z.out⟩,rfl,zu a3 a4⟩,ze H.out a1⟩
       | false =>
        have N:Hid (¬ HadW p n S cl q k):=fun h=>of_decide_eq_false P.out.symm h.2
        go_wp2;go_roundw
        case rel=>exact⟨k+1,by omega,by go_num,fun j hj=>by
         by_cases e:j=k
         ·subst e;exact N.out
         ·exact Z.out j (by omega),qo J.out o,ze I.out o⟩
        case measure=>simp[intOf];omega
      ·have e3:(p.A k == cl)=false:=by simpa using g3
       have N:Hid (¬ HadW p n S cl q k):=fun h=>g3 h.1
       clear g3;go_wp2;go_roundw
       case rel=>exact⟨k+1,by omega,by go_num,fun j hj=>by
        by_cases e:j=k
        ·subst e;exact N.out
        ·exact Z.out j (by omega),qo J.out o,ze I.out o⟩
       case measure=>simp[intOf];omega
     ·obtain rfl:k=m:=by omega
      go_wp2;exact bodyPost_ret (v:=.tuple #[.slice none 0 0,int i64 0,.bool false]) (by simp[results,Tryz.results295,go_sem]) rfl ⟨.inr ⟨fun j h=>Z.out j (by have:=h.2.1;rw[L.out] at this;exact this) h.2.2.1,rfl⟩,d⟩
  ·have e1:decide (In x 1 9999)=false:=decide_eq_false g1
   have H1:=hI g1;clear g1;go_wp2_with (first|(go_at_call 102;refine sC (Qg _ _) ?_))
   exact bodyPost_ret (v:=.tuple #[.slice none 0 0,int i64 0,.bool false]) (by simp[results,Tryz.results295,go_sem]) rfl ⟨.inr ⟨fun k h=>H1.out h.1.2.2,rfl⟩,zk g _⟩
 ·have HR:Hid (¬ Qr p n S):=fun h=>V (zct.2 h)
  clear V;unfold six;go_wp2;exact bodyPost_ret (v:=.tuple #[.slice none 0 0,int i64 0,.bool false]) (by simp[results,Tryz.results295,go_sem]) rfl ⟨.inr ⟨fun k h=>HR.out h.1.1,rfl⟩,zk g _⟩
attribute [local go_sem ↓] Go.wp_at_zero Go.wp_at_succ
def MayB (p:zH)(n:Nat)(S:Nat->qN)(x:Int):Prop:=Qr p n S/\¬ Has (ZV S) n x/\In x 1 9999
def HadB (p:zH)(n:Nat)(S:Nat->qN)(cl q:Int)(j:Nat):Prop:=p.A j=cl/\(In q 1 (Za p S n j))
def PlaceB (w':World)(base t:Nat)(p:zH)(n:Nat)(S:Nat->qN)(x cl q:Int)(e:Ending):Prop :=
 (∃ k v,MayB p n S x/\ZH p.n (HadB p n S cl q) k/\e=.returned (.tuple #[v,int i64 (k:Int),.bool true])/\w'.ownsRow base t 4 v (n+1) (zw (ZE S n (fun _=>⟨x,(k:Int),q,false⟩)) (n+1))) ∨
 ((∀ k,¬ (MayB p n S x/\ZH p.n (HadB p n S cl q) k))/\e=.returned (.tuple #[.slice none 0 0,int i64 0,.bool false]))
theorem rec4B {w:World}{g t:Nat}{u0 u1 u2 u3:Value}(h:w.heap[g]?=some (.cells #[u0,u1,u2,u3] t (0,0)))(v0 v1 v2 v3:Value) :
  ((((w.setCell ⟨g,0,none⟩ v0).setCell ⟨g,1,none⟩ v1).setCell ⟨g,2,none⟩ v2).setCell ⟨g,3,none⟩ v3).heap[g]?=some (.cells #[v0,v1,v2,v3] t (0,0)):=by
 have:=zm (zm (zm (zm h 0 v0) 1 v1) 2 v2) 3 v3
 simpa using this
theorem row6B {w:World}{g t:Nat}{F:Nat->Int}(h:w.heap[g]?=some (.cells #[int i64 (F 0),int i64 (F 1),int i64 (F 2),int i64 (F 3),int i64 (F 4),int i64 (F 5)] t (0,0))):w.rowIs g t 6 (fun k=>int i64 (F k)):=by
 refine⟨_,h,rfl,fun i hi=>?_⟩
 have:i=0∨i=1∨i=2∨i=3∨i=4∨i=5:=by omega
 rcases this with rfl|rfl|rfl|rfl|rfl|rfl <;> rfl
theorem znv (ao bo:Option Addr)(m mc n c:Nat)(p:zH)(S:Nat->qN)(x cl q:Int)(w:World)(hl:p.n=m)(hm:m<=1048576)(hn:n<=1048576)(hc:n<=c)(hx:zG w ao p)(hz:qp w bo n S)(E:bo=none->n=0/\c=0) :
  Calls Tryz.prog 295 #[.slice ao m mc,.slice bo n c,int i64 x,int i64 cl,.iface 381 (.agg #[int i64 q])] w fun e w'=>PlaceB w' w.heap.size 228 p n S x cl q e/\Below w.heap.size w w':=by
 have L:=hI hl;have HX:=hI hx;have HZ:=hI hz;have a0:=hI E;clear hl hx hz E;have b2:∀ (fn:Fn) (first Q:Array Value) (w:World),(Instr.makeFunc fn first Q).run Tryz.prog w=.ok (.func fn first Q) w:=fun _ _ _ _=>rfl
 have k1:=nilB;have k3:=methB;go_enter Tryz.func295,Tryz.ntmps295;go_wp2_with fail;refine(zbh ao bo m mc n c p S _ L.out hm hn hc HX.out HZ.out).mono ?_;rintro e M ⟨T,g⟩
 rcases T with⟨X,rfl⟩|⟨V,rfl⟩
 ·have HR:=hI (zct.1 X)
  clear X;unfold six;have b1:m<=6:=by rw[← L.out];exact HR.out.1.1
  by_cases g1:In x 1 9999
  ·have e1:decide (In x 1 9999)=true:=decide_eq_true g1
   have H1:=hI g1;clear g1
   by_cases g2:Has (ZV S) n x
   ·have e2:decide (0<=Zv (ZV S) x n)=true:=decide_eq_true ((QC _ _ _).2 g2)
    have H2:=hI g2;clear g2;go_wp2_with (first|(go_at_call 102;refine sC (Qg _ _) ?_)|(go_at_call 244;refine(QF bo n c S x _ hn (HZ.out.below (zk g _))).mono ?_;rintro e w2 ⟨rfl,r⟩))
    exact bodyPost_ret (v:=.tuple #[.slice none 0 0,int i64 0,.bool false]) (by simp[results,Tryz.results295,go_sem]) rfl ⟨.inr ⟨fun k h=>h.1.2.1 H2.out,rfl⟩,ze (zk g _) r⟩
   ·have e2:decide (0<=Zv (ZV S) x n)=false:=decide_eq_false (fun h=>g2 ((QC _ _ _).1 h))
    have H2:=hI g2;clear g2;have A:Hid ((M.alloc (.cells #[int i64 (Zl p S n 0),int i64 (Zl p S n 1),int i64 (Zl p S n 2),int i64 (Zl p S n 3),int i64 (Zl p S n 4),int i64 (Zl p S n 5)] 323)).rowIs M.heap.size 323 6 (fun k=>int i64 (Zl p S n k))):=row6B (heap_alloc_new M _)
    have G:Hid (Below w.heap.size w (M.alloc (.cells #[int i64 (Zl p S n 0),int i64 (Zl p S n 1),int i64 (Zl p S n 2),int i64 (Zl p S n 3),int i64 (Zl p S n 4),int i64 (Zl p S n 5)] 323))):=zk g _;have a2:w.heap.size<=M.heap.size:=g.size;go_upto_region 4 with(first|(go_at_call 102;refine sC (Qg _ _) ?_)|(go_at_call 244;refine(QF bo n c S x _ hn (HZ.out.below G.out)).mono ?_;rintro e w2 ⟨rfl,r⟩))
    have l:=qo A.out r;have D:=ze G.out r;generalize M.heap.size=f at a2 l ⊢;clear A G r g e1 e2;go_wp2;go_loopw [15,16,17,18,40] (fun _ _ _ _ i wr=>∃ k:Nat,k<=m/\i=int i64 k/\(∀ j,j<k->¬ HadB p n S cl q j)/\wr.rowIs f 323 6 (fun j=>int i64 (Zl p S n j))/\Below w.heap.size w wr) (fun _ _ _ _ i _=>m - (intOf i).toNat)
    case atStart=>exact⟨0,Nat.zero_le _,rfl,fun j hj=>by omega,l,D⟩
    case round =>
     obtain⟨k,hk,rfl,C,F,d⟩:=hrel;have Z:=hI C;clear C l D
     by_cases hlt:k<m
     ·obtain⟨b,off,rfl,h1,h2⟩:=HX.out k (by rw[L.out];exact hlt)
      have hb:=World.block_lt_of_cell? w _ h1;have c1:=(d.cell (p:=⟨b,off+k*2,none⟩) hb).trans h1;have c2:=(d.cell (p:=⟨b,off+k*2+1,none⟩) hb).trans h2;have b0:=heap_alloc_new wr (.cells #[int i64 (p.A k),int i64 (p.B k)] 231);have y:=zk d (.cells #[int i64 (p.A k),int i64 (p.B k)] 231);have z:=qo F (zk (Below.refl _ wr) (.cells #[int i64 (p.A k),int i64 (p.B k)] 231));clear h1 h2;go_upto_region 7 with fail;generalize hW:wr.alloc (.cells #[int i64 (p.A k),int i64 (p.B k)] 231)=W at b0 y z ⊢;clear hW;have b3:wr.heap.size<W.heap.size:=zM b0;have a9:f<W.heap.size:=z.lt;have b4:w.heap.size<=W.heap.size:=y.size;have O:=hI b0;have J:=hI z;have I:=hI y;generalize wr.heap.size=cb at *;have i1:(0:Int)<=(k:Int):=by omega
      have i3:(k:Int)<6:=by omega
      have u:Hid (∀ w',Below W.heap.size W w'->(w'.cell? ⟨cb,0,none⟩=some (int i64 (p.A k))/\w'.cell? ⟨cb,1,none⟩=some (int i64 (p.B k))/\w'.cell? ⟨f,k,none⟩=some (int i64 (Za p S n k)))):=fun w' h=>⟨za (zb O.out h) 0 _ rfl,za (zb O.out h) 1 _ rfl,by
       have:=(qo J.out h).cell (i:=k) (by omega)
       rw[this,zcN (by rw[L.out];exact hlt)]⟩
      obtain⟨R,K⟩:∃ R,R=decide (In q 1 (Za p S n k)):=⟨_,rfl⟩;have P:=hI K;have U:Hid (∀ Y:World,Calls Tryz.prog 337 #[.agg #[int i64 q],.agg #[int i64 (p.A k),int i64 (p.B k)],int i64 (Za p S n k)] Y fun e w'=>e=.returned (.tuple #[.agg #[int i64 0,int i64 0,int i64 (q),.bool false],.bool R])/\Below Y.heap.size Y w'):=fun Y=>by rw[K];exact zgQ _ _ _ _ Y
      clear c1 c2 b0 y z F d K;go_cut [17,18] (fun a5 a6 wc=>∃ B,a5=.pointer (some ⟨B,0,none⟩)/\a6=.bool R/\wc.heap[B]?=some (.cells #[int i64 0,int i64 0,int i64 (q),.bool false] 228 (0,0))/\W.heap.size<=B/\Below W.heap.size W wc)
      case first =>
       go_region_held3 (fun w'=>w'.cell? ⟨cb,0,none⟩=some (int i64 (p.A k))/\w'.cell? ⟨cb,1,none⟩=some (int i64 (p.B k))/\w'.cell? ⟨f,k,none⟩=some (int i64 (Za p S n k)))
        ((refine u.out _ ?_;(repeat(first|exact bZ|refine Below.drew ?_|refine zk ?_ _|refine setI ?_ (by omega) _|refine ze ?_ s))))
        (first|(go_at_call 337;refine Calls.mono (U.out _) ?_;rintro e w4 ⟨rfl,s⟩;have s4:W.heap.size<=w4.heap.size:=(by have:=s.size;first|omega|(simp at this;omega));(first|(have a:w4.heap[W.heap.size]?=some (.cells #[int i64 0,int i64 0,int i64 0,.bool false] 228 (0,0)):=zb (heap_alloc_new W.drew (.cells #[int i64 0,int i64 0,int i64 0,.bool false] 228)) s;have y0:=za a 0 _ rfl;have y1:=za a 1 _ rfl;have y2:=za a 2 _ rfl;have y3:=za a 3 _ rfl;have f0:=zg a 0;have f1:=zg a 1;have f2:=zg a 2;have f3:=zg a 3)|skip)))
       all_goals
        go_wp2;go_meet
        first|exact⟨_,rfl,rfl,heap_alloc_new w4 _,s4,(by(repeat(first|exact bZ|refine Below.drew ?_|refine zk ?_ _|refine setI ?_ (by omega) _|refine ze ?_ s)))⟩|exact⟨_,rfl,rfl,rec4B a _ _ _ _,Nat.le_refl _,(by(repeat(first|exact bZ|refine Below.drew ?_|refine zk ?_ _|refine setI ?_ (by omega) _|refine ze ?_ s)))⟩
      case rest =>
      obtain⟨B,rfl,rfl,t,a7,o⟩:=hcut;have a8:=(u.out _ o).1
      by_cases g3:p.A k=cl
      ·have e3:(p.A k == cl)=true:=by simpa using g3
       have H3:=hI g3;clear g3
       cases R with
       | true =>
        have h4:In q 1 (Za p S n k):=of_decide_eq_true P.out.symm;have N:=hI h4;clear h4;obtain⟨o0,o1,o2,o3⟩:=ce4 t;have f0:=zg t 0;have f1:=zg t 1;have H:Hid (Below w.heap.size w ((wc.setCell ⟨B,0,none⟩ (int i64 x)).setCell ⟨B,1,none⟩ (int i64 (k:Int)))):=((ze I.out o).setCell (by show w.heap.size<=B;omega) _).setCell (by show w.heap.size<=B;omega) _
        go_wp2_with (first|(go_at_call 298;refine Calls.mono (zgT bo n c S ⟨x,(k:Int),q,false⟩ _ hn (HZ.out.below H.out) a0.out) ?_;rintro e w5 ⟨⟨v,rfl,a3⟩,a1⟩))
        have a4:=H.out.size;exact bodyPost_ret (v:=.tuple #[v,int i64 (k:Int),.bool true]) (by simp[results,Tryz.results295,go_sem]) rfl ⟨.inl ⟨k,v,⟨HR.out,H2.out,H1.out⟩,⟨by rw[L.out];exact hlt,⟨H3.out,N.out⟩,Z.out⟩,rfl,zu a3 a4⟩,ze H.out a1⟩
       | false =>
        have N:Hid (¬ HadB p n S cl q k):=fun h=>of_decide_eq_false P.out.symm h.2
        go_wp2;go_roundw
        case rel=>exact⟨k+1,by omega,by go_num,fun j hj=>by
         by_cases e:j=k
         ·subst e;exact N.out
         ·exact Z.out j (by omega),qo J.out o,ze I.out o⟩
        case measure=>simp[intOf];omega
      ·have e3:(p.A k == cl)=false:=by simpa using g3
       have N:Hid (¬ HadB p n S cl q k):=fun h=>g3 h.1
       clear g3;go_wp2;go_roundw
       case rel=>exact⟨k+1,by omega,by go_num,fun j hj=>by
        by_cases e:j=k
        ·subst e;exact N.out
        ·exact Z.out j (by omega),qo J.out o,ze I.out o⟩
       case measure=>simp[intOf];omega
     ·obtain rfl:k=m:=by omega
      go_wp2;exact bodyPost_ret (v:=.tuple #[.slice none 0 0,int i64 0,.bool false]) (by simp[results,Tryz.results295,go_sem]) rfl ⟨.inr ⟨fun j h=>Z.out j (by have:=h.2.1;rw[L.out] at this;exact this) h.2.2.1,rfl⟩,d⟩
  ·have e1:decide (In x 1 9999)=false:=decide_eq_false g1
   have H1:=hI g1;clear g1;go_wp2_with (first|(go_at_call 102;refine sC (Qg _ _) ?_))
   exact bodyPost_ret (v:=.tuple #[.slice none 0 0,int i64 0,.bool false]) (by simp[results,Tryz.results295,go_sem]) rfl ⟨.inr ⟨fun k h=>H1.out h.1.2.2,rfl⟩,zk g _⟩
 ·have HR:Hid (¬ Qr p n S):=fun h=>V (zct.2 h)
  clear V;unfold six;go_wp2;exact bodyPost_ret (v:=.tuple #[.slice none 0 0,int i64 0,.bool false]) (by simp[results,Tryz.results295,go_sem]) rfl ⟨.inr ⟨fun k h=>HR.out h.1.1,rfl⟩,zk g _⟩
def zfs (p:zH)(cl q:Int):Prop:=∃ j,j<p.n/\p.A j=cl/\q<=p.B j
theorem zkA (n:Option Addr)(m v:Nat)(p:zH)(cl q:Int)(w:World)(r:p.n=m)(hm:m<=1048576)(u:zG w n p) :
  Calls Tryz.prog 296 #[.slice n m v,int i64 cl,int i64 q] w fun e w'=>(∃ lst:Int,e=.returned (.iface 379 (.agg #[int i64 lst]))/\((lst=q/\zfs p cl q)∨(lst=0/\¬ zfs p cl q)))/\Below w.heap.size w w':=by
 have l:=hI r;clear r;go_enter Tryz.func296,Tryz.ntmps296;go_wp2;go_loopw [8,11] (fun _ i wr=>∃ k:Nat,k<=m/\i=int i64 k/\(∀ j,j<k->¬ (p.A j=cl/\q<=p.B j))/\Below w.heap.size w wr) (fun _ i _=>m - (intOf i).toNat)
 case atStart=>exact⟨0,Nat.zero_le _,rfl,fun j f=>by omega,bZ⟩
 case round =>
  obtain⟨k,hk,rfl,c,a⟩:=hrel;have g:=hI c;clear c
  by_cases hlt:k<m
  ·obtain⟨b,off,rfl,h1,h2⟩:=u k (by rw[l.out];omega)
   have o:=World.block_lt_of_cell? w _ h1;have c1:=(a.cell (p:=⟨b,off+k*2,none⟩) o).trans h1;have c2:=(a.cell (p:=⟨b,off+k*2+1,none⟩) o).trans h2;clear h1 h2
   by_cases g1:p.A k=cl
   ·have s:(p.A k == cl)=true:=by simpa using g1
    by_cases g2:q<=p.B k
    ·have t:decide (q<=p.B k)=true:=decide_eq_true g2
     have d:Hid (zfs p cl q):=⟨k,by rw[l.out];exact hlt,g1,g2⟩
     clear g1 g2;go_wp2;go_ret;exact⟨⟨q,rfl,.inl ⟨rfl,d.out⟩⟩,zk a _⟩
    ·have t:decide (q<=p.B k)=false:=decide_eq_false g2
     have d:Hid (¬ (p.A k=cl/\q<=p.B k)):=fun h=>g2 h.2
     clear g1 g2;go_wp2;go_roundw
     case rel=>exact⟨k+1,by omega,by go_num,fun j f=>by
      by_cases e:j=k
      ·subst e;exact d.out
      ·exact g.out j (by omega),zk a _⟩
     case measure=>simp[intOf];omega
   ·have s:(p.A k == cl)=false:=by simpa using g1
    have d:Hid (¬ (p.A k=cl/\q<=p.B k)):=fun h=>g1 h.1
    clear g1;go_wp2;go_roundw
    case rel=>exact⟨k+1,by omega,by go_num,fun j f=>by
     by_cases e:j=k
     ·subst e;exact d.out
     ·exact g.out j (by omega),zk a _⟩
    case measure=>simp[intOf];omega
  ·obtain rfl:k=m:=by omega
   have d:Hid (¬ zfs p cl q):=fun ⟨j,f,h⟩=>g.out j (by rw[l.out] at f;exact f) h
   go_wp2;go_ret;exact⟨⟨0,rfl,.inr ⟨rfl,d.out⟩⟩,a⟩
theorem zeF {m:Nat}{P Q:Nat->Prop}{k:Nat}(h:∀ j,j<m->(P j↔Q j)):ZH m P k↔ZH m Q k:=by
 unfold ZH
 constructor
 ·rintro⟨a,b,c⟩;exact⟨a,(h k a).1 b,fun j d q=>c j d ((h j (by omega)).2 q)⟩
 ·rintro⟨a,b,c⟩;exact⟨a,(h k a).2 b,fun j d q=>c j d ((h j (by omega)).1 q)⟩
theorem zkB {p:zH}{n:Nat}{S:Nat->qN}{cl q d:Int}(g:zgt p)(e:(d=q/\zfs p cl q)∨(d=0/\¬ zfs p cl q)):∀ j,j<p.n->(HadW p n S cl d j↔zbD p n S cl q j):=by
 intro j i;have f:=(g.2 j i).2;unfold In at f;unfold HadW zbD
 constructor
 ·rintro⟨a,b,c⟩
  refine⟨a,b,?_⟩
  rcases e with⟨rfl,_⟩|⟨rfl,h⟩
  ·exact .inl c
  ·exact .inr h
 ·rintro⟨a,b,c⟩
  refine⟨a,b,?_⟩
  rcases e with⟨rfl,h⟩|⟨rfl,_⟩
  ·rcases c with c|c
   ·exact c
   ·exact absurd h c
  ·omega
theorem zkC {p:zH}{n:Nat}{S:Nat->qN}{x:Int}(h:Qr p n S/\¬ Has (ZV S) n x/\In x 1 9999):PlaceG p n S x :=
 ⟨h.1,by have:=zks h.1;omega,h.2.1,h.2.2⟩
theorem ziQ (o bo:Option Addr)(m y n c:Nat)(p:zH)(S:Nat->qN)(x cl q:Int)(w:World)(B:p.n=m)(C:m<=1048576)(I:n<=1048576)(H:n<=c)(D:zG w o p)(E:qp w bo n S)(g:bo=none->n=0/\c=0) :
  Calls Tryz.prog 289 #[.slice o m y,.slice bo n c,int i64 x,int i64 cl,int i64 q] w fun e w'=>zgc w' w.heap.size 228 p n S x cl q e/\Below w.heap.size w w':=by
 have A:=hI D;have F:=hI E;have z:=hI B;have s:=hI g;clear D E B g
 by_cases g1:In q 1 20
 ·have G:decide (In q 1 20)=true:=decide_eq_true g1
  have r:=hI g1;clear g1;go_enter Tryz.func289,Tryz.ntmps289;go_wp2_with (first|(go_at_call 191;refine sC (zz _ _ _ _) ?_)|(go_at_call 296;refine(zkA o m y p cl q _ z.out C A.out).mono ?_;rintro e w1 ⟨⟨u,rfl,f⟩,a⟩;have i:=hI f;clear f)|(go_at_call 295;refine(znu o bo m y n c p S x cl u _ z.out C I H (A.out.below a) (F.out.below a) s.out).mono ?_;rintro e w2 ⟨j,l⟩;rcases j with⟨k,v,d,b,rfl,J⟩|⟨t,rfl⟩))
  ·exact bodyPost_ret (v:=.tuple #[v,int i64 (k:Int),.bool true]) (by simp[results,Tryz.results289,go_sem]) rfl ⟨zkc ⟨zkC d,by rw[← b.2.1.1];exact(d.1.1.2 k b.1).1,r.out⟩ ((zeF (zkB d.1.1 i.out)).1 b) (zu J a.size),ze a l⟩
  ·exact bodyPost_ret (v:=.tuple #[.slice none 0 0,int i64 0,.bool false]) (by simp[results,Tryz.results289,go_sem]) rfl ⟨zgx (fun k h=>t k ⟨⟨h.1.1.1,h.1.1.2.2.1,h.1.1.2.2.2⟩,(zeF (zkB h.1.1.1.1 i.out)).2 h.2⟩),ze a l⟩
 ·have G:decide (In q 1 20)=false:=decide_eq_false g1
  have r:=hI g1;clear g1;go_enter Tryz.func289,Tryz.ntmps289;go_wp2_with (first|(go_at_call 191;refine sC (zz _ _ _ _) ?_))
  exact bodyPost_ret (v:=.tuple #[.slice none 0 0,int i64 0,.bool false]) (by simp[results,Tryz.results289,go_sem]) rfl ⟨zgx (fun k h=>r.out h.1.2.2),bZ⟩
theorem zkD {p:zH}{n:Nat}{S:Nat->qN}{cl q:Int}(h1:1<=q):∀ j,j<p.n->(HadB p n S cl q j↔zbN p n S cl q j):=by
 intro j _;unfold HadB zbN In
 constructor
 ·rintro⟨a,_,b⟩;exact⟨a,b⟩
 ·rintro⟨a,b⟩;exact⟨a,h1,b⟩
theorem zhC (j bo:Option Addr)(m u n c:Nat)(p:zH)(S:Nat->qN)(x cl q:Int)(w:World)(o:p.n=m)(C:m<=1048576)(D:n<=1048576)(B:n<=c)(s:zG w j p)(t:qp w bo n S)(d:bo=none->n=0/\c=0) :
  Calls Tryz.prog 290 #[.slice j m u,.slice bo n c,int i64 x,int i64 cl,int i64 q] w fun e w'=>zgd w' w.heap.size 228 p n S x cl q e/\Below w.heap.size w w':=by
 have z:=hI s;have A:=hI t;have y:=hI o;have i:=hI d;clear s t o d;go_enter Tryz.func290,Tryz.ntmps290;go_wp2_with (first|(go_at_call 295;refine(znv j bo m u n c p S x cl q _ y.out C D B z.out A.out i.out).mono ?_;rintro e w2 ⟨f,g⟩;rcases f with⟨k,v,b,a,rfl,E⟩|⟨l,rfl⟩))
 ·have r:=a.2.1.2
  have hb:=zdq b.1.1 b.1.2.1 b.1.manys a.1;unfold In at r;exact bodyPost_ret (v:=.tuple #[v,int i64 (k:Int),.bool true]) (by simp[results,Tryz.results290,go_sem]) rfl ⟨zkd ⟨zkC b,by rw[← a.2.1.1];exact(b.1.1.2 k a.1).1,by unfold In;omega⟩ ((zeF (zkD r.1)).1 a) E,g⟩
 ·exact bodyPost_ret (v:=.tuple #[.slice none 0 0,int i64 0,.bool false]) (by simp[results,Tryz.results290,go_sem]) rfl ⟨zlL (fun k h=>l k ⟨⟨h.1.1.1,h.1.1.2.2.1,h.1.1.2.2.2⟩,(zeF (zkD h.1.2.2.1)).2 h.2⟩),g⟩
theorem zgU (c d x:Int)(a:Nat)(w:World)(g:w.cell? ⟨a,0,none⟩=some (int i64 x)) :
  Calls Tryz.prog 274 #[.agg #[int i64 c,int i64 d],.pointer (some ⟨a,0,none⟩)] w fun e w'=>e=.returned (.bool (c == x))/\Below w.heap.size w w':=by
 have b:=World.block_lt_of_cell? w _ g;have f:¬ a=w.heap.size:=by have:a<w.heap.size:=b;omega
 go_enter Tryz.func274,Tryz.ntmps274;go_wp2;go_ret;exact⟨rfl,zk bZ _⟩
theorem ziR (s:Option Addr)(n c:Nat)(S:Nat->Qe)(x:Int)(g:Nat)(w:World)(hn:n<=1048576)(z:qE w s n S)(q:w.cell? ⟨g,0,none⟩=some (int i64 x)) :
  Calls Tryz.prog 273 #[.slice s n c,.func (.func 274) #[] #[.pointer (some ⟨g,0,none⟩)]] w fun e w'=>e=.returned (int i64 (Zv (zag S) x n))/\Below w.heap.size w w':=by
 have o:=World.block_lt_of_cell? w _ q;go_enter Tryz.func273,Tryz.ntmps273;go_wp2;go_loopw [5,8] (fun _ i wr=>∃ k:Nat,k<=n/\i=int i64 k/\(∀ j,j<k->zag S j≠x)/\Below w.heap.size w wr) (fun _ i _=>n - (intOf i).toNat)
 case atStart=>exact⟨0,Nat.zero_le _,rfl,fun j y=>by omega,bZ⟩
 case round =>
  obtain⟨k,hk,rfl,d,a⟩:=hrel;have h:=hI d;clear d
  by_cases hlt2:k<n
  ·obtain⟨b,off,rfl,m,h1⟩:=z k hlt2
   have t:=World.block_lt_of_cell? w _ m;have c0:=(a.cell (p:=⟨b,off+k*2,none⟩) t).trans m;have c1:=(a.cell (p:=⟨b,off+k*2+1,none⟩) t).trans h1;have r:Hid (wr.cell? ⟨g,0,none⟩=some (int i64 x)):=(a.cell (p:=⟨g,0,none⟩) o).trans q;clear m h1 q
   by_cases he:zag S k=x
   ·have v:((S k).who == x)=true:=by unfold zag at he;simpa using he
    have l:Hid (Zv (zag S) x n=k):=by
     have:zaj (zag S) x n=k:=zfe hlt2 he h.out;unfold Zv Hid;rw[this,if_pos hlt2]
    clear he;go_wp2_with (first|(go_at_call 274;refine(zgU _ _ x g _ r.out).mono ?_;rintro e A ⟨rfl,f⟩))
    go_ret;exact⟨by rw[l.out];rfl,ze a f⟩
   ·have v:((S k).who == x)=false:=by unfold zag at he;simpa using he
    have u:=hI he;clear he;go_wp2_with (first|(go_at_call 274;refine(zgU _ _ x g _ r.out).mono ?_;rintro e A ⟨rfl,f⟩))
    go_roundw
    case rel=>exact⟨k+1,by omega,by go_num,fun j y=>by
     by_cases e:j=k
     ·subst e;exact u.out
     ·exact h.out j (by omega),ze a f⟩
    case measure=>simp[intOf];omega
  ·obtain rfl:k=n:=by omega
   have l:=hI (zbM (zdp h.out));go_wp2;go_ret;exact⟨by rw[l.out];rfl,a⟩
/-- seatOf: where the stay of the by stands, -1 Zx one. -/
theorem zdU (d:Option Addr)(n c:Nat)(S:Nat->Qe)(x:Int)(w:World)(k:n<=1048576)(l:qE w d n S) :
  Calls Tryz.prog 245 #[.slice d n c,int i64 x] w fun e w'=>e=.returned (int i64 (Zv (zag S) x n))/\Below w.heap.size w w':=by
 have b:Below w.heap.size w (w.alloc (.cells #[int i64 x] 3)):=zk bZ _;have i:=hI (l.below b);have h:Hid ((w.alloc (.cells #[int i64 x] 3)).cell? ⟨w.heap.size,0,none⟩=some (int i64 x)):=za (heap_alloc_new w _) 0 _ rfl;have j:∀ (g:Fn) (first a:Array Value) (w:World),(Instr.makeFunc g first a).run Tryz.prog w=.ok (.func g first a) w:=fun _ _ _ _=>rfl
 go_enter Tryz.func245,Tryz.ntmps245;go_wp2_with (first|(go_at_call 273;refine(ziR d n c S x _ _ k i.out h.out).mono ?_;rintro e w2 ⟨rfl,f⟩))
 go_ret;exact⟨rfl,ze b f⟩
theorem zkE (S:Nat->Qe)(i n:Nat)(a:i<=n)(h:∀ j,j<n->In (S j).many 1 20):QN S i<=QN S n:=by
 induction n with
 | zero=>rw[show i=0 by omega];exact Int.le_refl _
 | succ n ih =>
  by_cases e:i=n+1
  ·rw[e];exact Int.le_refl _
  ·have:=ih (by omega) (fun j hj=>h j (by omega))
   have b:=h n (by omega)
   unfold In at b;have h3:QN S (n+1)=QN S n+(S n).many:=rfl
   omega
theorem zdv {S:Nat->Qe}{n:Nat}{x many:Int}{j:Nat}(h:j<n):Ze S n x many j=S j:=by unfold Ze zam;rw[if_pos h]
theorem sits_with (S:Nat->Qe)(n:Nat)(x many:Int)(i:Nat)(h:i<=n):QN (Ze S n x many) i=QN S i:=by
 induction i with
 | zero=>rfl
 | succ i ih =>
  have e:=ih (by omega)
  show QN (Ze S n x many) i+(Ze S n x many i).many=QN S i+(S i).many
  rw[e,zdv (by omega)]
theorem zkF {most:Int}{n:Nat}{S:Nat->Qe}{x many:Int}(h:Qx most (n+1) (Ze S n x many)):Qx most n S:=by
 obtain⟨b,h1,h2,h3⟩:=h;refine⟨b,by omega,fun i c=>?_,?_⟩
 ·have:=h2 i (by omega)
  rw[zdv c] at this;refine⟨this.1,fun ⟨j,a,e⟩=>this.2.1 ⟨j,a,?_⟩,this.2.2⟩
  unfold zag at e ⊢;rw[zdv (by omega)];exact e
 ·have:=zkE (Ze S n x many) n (n+1) (by omega) (fun j a=>(h2 j a).2.2)
  rw[sits_with S n x many n (Nat.le_refl _)] at this
  omega
def SeatsAns (most:Int)(n:Nat)(S:Nat->Qe)(e:Ending):Prop :=
 (Qx most n S/\e=.returned (.tuple #[int i64 (most - QN S n),.bool true]))∨(¬ Qx most n S/\e=.returned (.tuple #[int i64 0,.bool false]))
theorem ziS (most:Int)(bo:Option Addr)(n c:Nat)(S:Nat->Qe)(w:World)(hn:n<=2097152)(hc:n<=c)(I:qE w bo n S) :
  Calls Tryz.prog 238 #[int i64 most,.slice bo n c] w fun e w'=>SeatsAns most n S e/\Below w.heap.size w w':=by
 have A:=hI I;clear I
 by_cases g0:In most 0 500
 ·have G:decide (In most 0 500)=true:=decide_eq_true g0
  have s:=hI g0;clear g0
  by_cases h60:n<=60
  ·have F:decide (60<n)=false:=by simp;omega
   go_enter Tryz.func238,Tryz.ntmps238;go_wp2_with (first|(go_at_call 191;refine sC (zz _ _ _ _) ?_))
   go_loopw [6,7,8,20] (fun v _ _ i wr=>∃ k:Nat,k<=n/\i=int i64 k/\v=int i64 (most - QN S k)/\(∀ j,j<k->In (S j).who 1 9999/\¬ Has (zag S) j (S j).who/\In (S j).many 1 20)/\QN S k<=most/\Below w.heap.size w wr) (fun _ _ _ i _=>n - (intOf i).toNat)
   case atStart=>exact⟨0,Nat.zero_le _,rfl,by simp[QN],fun j y=>by omega,s.out.1,bZ⟩
   case round =>
    obtain⟨i,hi,rfl,rfl,m,o,a⟩:=hrel;have D:=hI m;have J:=hI o;clear m o G F
    by_cases hlt:i<n
    ·obtain⟨b,off,rfl,x,h1⟩:=A.out i hlt
     have H:=World.block_lt_of_cell? w _ x;have K:=(a.cell (p:=⟨b,off+i*2,none⟩) H).trans x;have c1:=(a.cell (p:=⟨b,off+i*2+1,none⟩) H).trans h1;have d:=heap_alloc_new wr (.cells #[int i64 (S i).who,int i64 (S i).many] 234);have f:=zk a (.cells #[int i64 (S i).who,int i64 (S i).many] 234);clear x h1;go_upto_region 7 with fail;generalize hW:wr.alloc (.cells #[int i64 (S i).who,int i64 (S i).many] 234)=W at d f ⊢;clear hW;have z:wr.heap.size<W.heap.size:=zM d;have z0:∀ g:zn W,g.val.cell? ⟨wr.heap.size,0,none⟩=some (int i64 (S i).who):=fun g=>(g.bel.cell z).trans (za d 0 _ rfl)
     have O:∀ g:zn W,g.val.cell? ⟨wr.heap.size,1,none⟩=some (int i64 (S i).many):=fun g=>(g.bel.cell z).trans (za d 1 _ rfl)
     have i1:(0:Int)<=(i:Int):=by omega
     have i2:(i:Int)<=(c:Int):=by omega
     clear K c1 d a
     by_cases g1:In (S i).who 1 9999
     ·have u:decide (In (S i).who 1 9999)=true:=decide_eq_true g1
      have B:=hI g1;clear g1
      by_cases g2:Has (zag S) i (S i).who
      ·have L:decide (0<=Zv (zag S) (S i).who i)=true:=decide_eq_true ((QC _ _ _).2 g2)
       have C:=hI g2;clear g2;refine zh (by kernel_rfl) (by kernel_rfl) ?_
       repeat(first|go_big_quiet_skip|(go_big_quiet_want;go_big_quiet_op;first|go_big_quiet_on|(apply Exists.intro;refine⟨fun g=>?_,?_⟩;(focus(first|(go_at_call 102;refine zf (v:=.bool true) ((Qg _ _).mono ?_);rintro e q ⟨rfl,rfl⟩;exact⟨by rw[u],bZ⟩)|(go_at_call 245;refine zf (v:=int i64 (Zv (zag S) (S i).who i)) ((zdU _ i c S (S i).who _ (by omega) ((A.out.upto (by omega)).below (ze f g.bel))).mono ?_);rintro e q ⟨rfl,l⟩;exact⟨rfl,l⟩)));go_big_quiet_on)))
       refine wpQuiet_nil ?_;rintro _ ⟨g,rfl⟩;go_wp2;exact bodyPost_ret (v:=.tuple #[int i64 0,.bool false]) (by simp[results,Tryz.results238,go_sem]) rfl ⟨.inr ⟨fun h=>(h.2.2.1 i hlt).2.1 C.out,rfl⟩,ze f g.bel⟩
      ·have L:decide (0<=Zv (zag S) (S i).who i)=false:=decide_eq_false (fun h=>g2 ((QC _ _ _).1 h))
       have C:=hI g2;clear g2
       by_cases g3:In (S i).many 1 (if most - QN S i<20 then most - QN S i else 20)
       ·have r:decide (In (S i).many 1 (if most - QN S i<20 then most - QN S i else 20))=true:=decide_eq_true g3
        have t:Hid (In (S i).many 1 20/\QN S (i+1)<=most):=by
         have h3:QN S (i+1)=QN S i+(S i).many:=rfl;unfold In at g3 ⊢
         show(_/\_)/\_
         rw[h3]
         split at g3 <;> omega
        clear g3;have M:IntKind.i64.wrap (most - QN S i - (S i).many)=most - QN S (i+1):=by
         have h1:=zek S i (fun j y=>(D.out j y).2.2)
         have h2:=t.out.1;have x:=s.out;unfold In at h2 x;have h3:QN S (i+1)=QN S i+(S i).many:=rfl;rw[h3,IntKind.wrap_i64];omega
        refine zh (by kernel_rfl) (by kernel_rfl) ?_
        repeat(first|go_big_quiet_skip|(go_big_quiet_want;go_big_quiet_op;first|go_big_quiet_on|(apply Exists.intro;refine⟨fun g=>?_,?_⟩;(focus(first|(go_at_call 102;refine zf (v:=.bool true) ((Qg _ _).mono ?_);rintro e q ⟨rfl,rfl⟩;exact⟨by rw[u],bZ⟩)|(go_at_call 245;refine zf (v:=int i64 (Zv (zag S) (S i).who i)) ((zdU _ i c S (S i).who _ (by omega) ((A.out.upto (by omega)).below (ze f g.bel))).mono ?_);rintro e q ⟨rfl,l⟩;exact⟨rfl,l⟩)|(go_at_call 191;refine zf (v:=.bool true) ((zz _ _ _ _).mono ?_);rintro e q ⟨rfl,rfl⟩;exact⟨by first|rw[r]|rw[show min (20:Int) (most - QN S i)=(if most - QN S i<20 then most - QN S i else 20) from by rw[Int.min_def];split <;> (split <;> omega),r],bZ⟩)));go_big_quiet_on)))
        refine wpQuiet_nil ?_;rintro _ ⟨g,rfl⟩;have v1:=O g;clear r;generalize (if most - QN S i<20 then most - QN S i else 20)=N;go_wp2;have E:Hid (∀ j,j<i+1->In (S j).who 1 9999/\¬ Has (zag S) j (S j).who/\In (S j).many 1 20):=fun j y=>by
         by_cases e:j=i
         ·subst e;exact⟨B.out,C.out,t.out.1⟩
         ·exact D.out j (by omega)
        go_roundw
        case rel=>exact⟨i+1,by omega,by go_num,rfl,E.out,t.out.2,ze f g.bel⟩
        case measure=>simp[intOf];omega
       ·have r:decide (In (S i).many 1 (if most - QN S i<20 then most - QN S i else 20))=false:=decide_eq_false g3
        have t:Hid (¬ Qx most n S):=fun h=>by
         have h1:=(h.2.2.1 i hlt).2.2;have h2:=zkE S (i+1) n (by omega) (fun j y=>(h.2.2.1 j y).2.2)
         have h4:=h.2.2.2;have h3:QN S (i+1)=QN S i+(S i).many:=rfl;unfold In at g3 h1
         split at g3 <;> omega
        clear g3;refine zh (by kernel_rfl) (by kernel_rfl) ?_
        repeat(first|go_big_quiet_skip|(go_big_quiet_want;go_big_quiet_op;first|go_big_quiet_on|(apply Exists.intro;refine⟨fun g=>?_,?_⟩;(focus(first|(go_at_call 102;refine zf (v:=.bool true) ((Qg _ _).mono ?_);rintro e q ⟨rfl,rfl⟩;exact⟨by rw[u],bZ⟩)|(go_at_call 245;refine zf (v:=int i64 (Zv (zag S) (S i).who i)) ((zdU _ i c S (S i).who _ (by omega) ((A.out.upto (by omega)).below (ze f g.bel))).mono ?_);rintro e q ⟨rfl,l⟩;exact⟨rfl,l⟩)|(go_at_call 191;refine zf (v:=.bool false) ((zz _ _ _ _).mono ?_);rintro e q ⟨rfl,rfl⟩;exact⟨by first|rw[r]|rw[show min (20:Int) (most - QN S i)=(if most - QN S i<20 then most - QN S i else 20) from by rw[Int.min_def];split <;> (split <;> omega),r],bZ⟩)));go_big_quiet_on)))
        refine wpQuiet_nil ?_;rintro _ ⟨g,rfl⟩;clear r;generalize (if most - QN S i<20 then most - QN S i else 20)=N;go_wp2;exact bodyPost_ret (v:=.tuple #[int i64 0,.bool false]) (by simp[results,Tryz.results238,go_sem]) rfl ⟨.inr ⟨t.out,rfl⟩,ze f g.bel⟩
     ·have u:decide (In (S i).who 1 9999)=false:=decide_eq_false g1
      have B:=hI g1;clear g1;refine zh (by kernel_rfl) (by kernel_rfl) ?_
      repeat(first|go_big_quiet_skip|(go_big_quiet_want;go_big_quiet_op;first|go_big_quiet_on|(apply Exists.intro;refine⟨fun g=>?_,?_⟩;(focus(first|(go_at_call 102;refine zf (v:=.bool false) ((Qg _ _).mono ?_);rintro e q ⟨rfl,rfl⟩;exact⟨by rw[u],bZ⟩)));go_big_quiet_on)))
      refine wpQuiet_nil ?_;rintro _ ⟨g,rfl⟩;go_wp2;exact bodyPost_ret (v:=.tuple #[int i64 0,.bool false]) (by simp[results,Tryz.results238,go_sem]) rfl ⟨.inr ⟨fun h=>B.out (h.2.2.1 i hlt).1,rfl⟩,ze f g.bel⟩
    ·obtain rfl:i=n:=by omega
     go_wp2;exact bodyPost_ret (v:=.tuple #[int i64 (most - QN S i),.bool true]) (by simp[results,Tryz.results238,go_sem]) rfl ⟨.inl ⟨⟨s.out,h60,D.out,J.out⟩,rfl⟩,a⟩
  ·have F:decide (60<n)=true:=by simp;omega
   go_enter Tryz.func238,Tryz.ntmps238;go_wp2_with (first|(go_at_call 191;refine sC (zz _ _ _ _) ?_))
   exact bodyPost_ret (v:=.tuple #[int i64 0,.bool false]) (by simp[results,Tryz.results238,go_sem]) rfl ⟨.inr ⟨fun h=>h60 h.2.1,rfl⟩,bZ⟩
 ·have G:decide (In most 0 500)=false:=decide_eq_false g0
  have s:=hI g0;clear g0;go_enter Tryz.func238,Tryz.ntmps238;go_wp2_with (first|(go_at_call 191;refine sC (zz _ _ _ _) ?_))
  exact bodyPost_ret (v:=.tuple #[int i64 0,.bool false]) (by simp[results,Tryz.results238,go_sem]) rfl ⟨.inr ⟨fun h=>s.out h.1,rfl⟩,bZ⟩
theorem zeG (most:Int)(bo:Option Addr)(n c:Nat)(S:Nat->Qe)(w:World)(l:n<=2097152)(k:n<=c)(i:qE w bo n S) :
  Calls Tryz.prog 180 #[int i64 most,.slice bo n c] w fun e w'=>qX (Qx most n S) e/\Below w.heap.size w w':=by
 have j:=hI i;clear i;go_enter Tryz.func180,Tryz.ntmps180;go_wp2_with fail;refine(ziS most bo n c S _ l k j.out).mono ?_;rintro e w1 ⟨a,b⟩
 rcases a with⟨f,rfl⟩|⟨d,rfl⟩
 ·have h:=hI f
  clear f;go_wp2;go_ret;exact⟨zR h.out,b⟩
 ·have g:=hI d
  clear d;go_wp2;go_ret;exact⟨zl g.out,b⟩
end Go.Proofs.YtmdnjgihooflfaaGreatDoor
