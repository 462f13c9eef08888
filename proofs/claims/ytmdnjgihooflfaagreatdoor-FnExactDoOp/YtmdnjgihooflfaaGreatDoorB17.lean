/-
  OWN TEXT: KitCp, PutRoom, PlaceRW, PlaceRB, WholeFor, WholeI, SeatOf.
-/
import Derived.Laws.CopyRow
import Derived.Test.YtmdnjgihooflfaaGreatDoorKitCo
import Derived.Deep.DeepCutAuto
import Derived.Deep.LoopGhost
import Derived.Test.YtmdnjgihooflfaaGreatDoorB16
namespace Go.Proofs.YtmdnjgihooflfaaGreatDoor
open Go.RowKit
open Go.Value (int)
open Go.IntKind (i64)
open Tryz
set_option maxHeartbeats 64000000
set_option maxRecDepth 100000
theorem znt {P:Program}(w:World)(p A B elem:TypeId)(g c f:Nat)(o:Option Addr)(b h:Nat)(d:Array Value)(t:TypeId)(cs:List Value)(sz:Nat)
  (z:P.underlying p=some (.slice elem)) (r:(P.info? elem).map (·.size)=some sz)
  (u:w.heap[g]?=some (.cells d t (0,0))) (q:b<=c) (y:cs.length=b*sz) (m:o=none->b=0/\h=0)
  (n:∀ a,o=some a->∀ j v,cs[j]?=some v->w.cell? (a.add j)=some v) (k:cs.length<=d.size) (h1:∀ v ∈ cs,v.oneCell'=true) :
  (Builtin.copy_ #[p,A] B #[(some (g,0),c,f),(o,b,h)]).run P w =
   .ok (goInt b) (w.setRow g (cs++d.toList.drop cs.length).toArray):=by
 cases o with
 | none =>
  obtain⟨rfl,rfl⟩:=m rfl;have e:cs=[]:=List.eq_nil_of_length_eq_zero (by rw[y];omega)
  subst e;rw[run_copy_nil (P:=P) w p A B elem ⟨g,0,none⟩ c f z (by rw[r];rfl)]
  simp only[List.nil_append,List.length_nil,List.drop_zero,Array.toArray_toList];rw[setRow_self w g d t (0,0) u]
  rfl
 | some a =>
  have x:=run_loadCells_list (P:=P) w a cs (n a rfl);have s:=run_storeCells_at P g 0 t cs 0 d w u (by simpa using k) h1
  have l:Nat.min b c=b:=Nat.min_eq_left q
  cases hq:P.info? elem with
  | none=>simp[hq] at r
  | some i =>
   have C:i.size=sz:=by simpa [hq] using r
   rw[y] at x;simp[Builtin.copy_,run_underlying z,Builtin.lenOf,Builtin.firstCells,sizeOf,typeInfo,hq,C,l,x,s]
theorem copy_k {P:Program}(w:World)(n r elem:TypeId)(g c f:Nat)(m:Option Addr)(b d:Nat)(e:Array Value)(t:TypeId)(cs:List Value)(sz:Nat)
  (x:P.underlying n=some (.slice elem)) (u:(P.info? elem).map (·.size)=some sz)
  (q:w.heap[g]?=some (.cells e t (0,0))) (o:b<=c) (s:cs.length=b*sz) (i:m=none->b=0/\d=0)
  (l:∀ a,m=some a->∀ j v,cs[j]?=some v->w.cell? (a.add j)=some v) (h:cs.length<=e.size) (h1:∀ v ∈ cs,v.oneCell'=true) :
  ∃ w',(∀ p,(Builtin.copy_ #[n,r] p #[(some (g,0),c,f),(m,b,d)]).run P w=.ok (goInt b) w') /\
   w'.heap[g]?=some (.cells (cs++e.toList.drop cs.length).toArray t (0,0))/\Below g w w' :=
 ⟨_,λp=>znt (P:=P) w n r p elem g c f m b d e t cs sz x u q o s i l h h1,setRow_heap w g _ _ t _ q,
  ⟨rfl,rfl,rfl,by simp[World.setRow],λk hk=>setRow_other w g k _ (by omega)⟩⟩
theorem own_row {w:World}{base e size g n:Nat}{i:List Value}(h:w.ownsRow base e size (some (g,0),n,n) n i):∃ a:Array Value,w.heap[g]?=some (.cells a e (0,0))/\a.size=n*size:=by
 obtain⟨_,h|⟨g',c,a,b,_,d,_,_,f,_⟩⟩:=h
 ·cases h.1
 ·simp only[Value.slice.injEq,Option.some.injEq,Addr.mk.injEq] at b
  obtain⟨⟨rfl,_,_⟩,_,rfl⟩:=b;exact⟨a,d,f⟩
theorem zhY {w:World}{g t N:Nat}{a:List Value}(h:w.heap[g]?=some (.cells a.toArray t (0,0)))(b:a.length=N):w.rowIs g t N (λj=>a.getD j (.bool false)):=by
 refine⟨_,h,by simpa using b,λi hi=>?_⟩
 have:i<a.length:=by omega
 simp[List.getElem?_eq_getElem this]
theorem zgT (bo:Option Addr)(n c:Nat)(S:Nat->qN)(r:qN)(w:World)(hn:n<=1048576)(H:qp w bo n S)(k:bo=none->n=0/\c=0) :
  Calls prog 298 #[(bo,n,c),.agg #[r.who,r.cab,r.many,r.all]] w λe w'=>(∃ v,e=.returned v/\w'.ownsRow w.heap.size 228 4 v (n+1) (zw (ZE S n (λ_=>r)) (n+1)))/\Below w.heap.size w w':=by
 obtain⟨Q,I,D,x,E⟩:=info_parts Tryz.infoRoom;have O:=hI H;have A:=hI k;clear H k;have P:IntKind.i64.wrap ((n:Int)+1)=((n+1:Nat):Int):=by rw[Jk];omega
 have s:(Tryz.prog.info? 228).map (·.size)=some 4:=by rw[I];simp[x]
 have q:=zk (Ji _ w) (.cells #[r.who,r.cab,r.many,r.all] 228);have J:=Jb w (.cells #[r.who,r.cab,r.many,r.all] 228);go_enter func298,ntmps298;go_upto_region 2 with(first|(at_make;refine wpList_make_full _ rfl _ _ 142 rfl w.heap.size 228 Q _ 4 underlying142 I D x _ _ _ _ (n+1) rfl rfl (by simp) (by simp) (by rw[E];omega) (by unfold maxLen;omega) (by simp) ?_;intro W g b))
 have l:=q.grown b (by simp) (λj F=>by cases F)
 have K:=zjB b J (by simp)
 obtain⟨d,f,u⟩:=own_row g;have L:=hI (Qv (O.below l));have B:=hI K;have y:=hI l;clear g b J q K l;rw[World.size_alloc] at f;obtain⟨X,G,t,m⟩:=copy_k W 142 142 228 _ (n+1) (n+1) bo n c d 228 _ 4 underlying142 s f (by omega) (qK _ _) A L (by rw[qK,u];omega) (Z5 _ _)
 have a:=zhY t (N:=(n+1)*4) (by simp[qK,u];omega)
 have p:=(m.block _ (by omega)).trans B
 obtain⟨o0,o1,o2,o3⟩:=ce4 p;have R:=a.cell (i:=n*4) (by omega)
 have T:=a.cell (i:=n*4+1) (by omega)
 have U:=a.cell (i:=n*4+2) (by omega)
 have V:=a.cell (i:=n*4+3) (by omega)
 have f0:=a.frozen (n*4);have f1:=a.frozen (n*4+1);have f2:=a.frozen (n*4+2);have f3:=a.frozen (n*4+3);have i1:(0:Int)<=(n:Int):=by omega
 have i2:(n:Int)<((n+1:Nat):Int):=by omega
 have z:=hI (y.trans (m.mono (by omega)))
 have C:=hI a;clear t m a p f;generalize List.getD (_++d.toList.drop _) _ _=u0 at R;generalize List.getD (_++d.toList.drop _) _ _=u1 at T;generalize List.getD (_++d.toList.drop _) _ _=u2 at U;generalize List.getD (_++d.toList.drop _) _ _=u3 at V;have M:Hid (((((X.setCell (w.heap.size+1,n*4) r.who).setCell (w.heap.size+1,n*4+1) r.cab).setCell (w.heap.size+1,n*4+2) r.many).setCell (w.heap.size+1,n*4+3) r.all).rowIs (w.heap.size+1) 228 ((n+1)*4) (qs (ZE S n (λ_=>r)))):=by
  refine((((C.set _ _).set _ _).set _ _).set _ _).congr (λj F=>?_)
  have h:ZE S n (λ_=>r) n=r:=by unfold ZE;rw[Je (Nat.lt_irrefl _)]
  by_cases h3:j=n*4+3
  ·subst h3;rw[Jf rfl,zaM,h]
  rw[Je h3]
  by_cases h2:j=n*4+2
  ·subst h2;rw[Jf rfl,zaL,h]
  rw[Je h2]
  by_cases h1:j=n*4+1
  ·subst h1;rw[Jf rfl,zaK,h]
  rw[Je h1]
  by_cases h0:j=n*4
  ·subst h0;rw[Jf rfl,zaJ,h]
  rw[Je h0];have o:j<(zw S n).length:=by rw[qK];omega
  rw[List.getD_eq_getElem?_getD,List.getElem?_append_left o,List.getElem?_eq_getElem o,Option.getD_some];have:=zfz (List.getElem?_eq_getElem o);rw[this.2];unfold qs ZE;rw[Jf (show j / 4<n by omega)]
 go_wp2;go_ret;exact⟨⟨_,rfl,Zz M (by omega) (by unfold maxLen;omega)⟩,(((z.setCell (by show w.heap.size<=w.heap.size+1;omega) _).setCell (by show w.heap.size<=w.heap.size+1;omega) _).setCell (by show w.heap.size<=w.heap.size+1;omega) _).setCell (by show w.heap.size<=w.heap.size+1;omega) _⟩
attribute [local go_sem ↓] Go.wp_at_zero Go.wp_at_succ
def MayW (p:zH)(n:Nat)(S:Nat->qN)(x:Int):Prop:=Qr p n S/\¬ Has (ZV S) n x/\In x 1 9999
def HadW (p:zH)(n:Nat)(S:Nat->qN)(cl q:Int)(j:Nat):Prop:=p.A j=cl/\(Za p S n j=p.B j/\q<=p.B j)
def PlaceW (w':World)(base t:Nat)(p:zH)(n:Nat)(S:Nat->qN)(x cl q:Int)(e:Ending):Prop :=
 (∃ k v,MayW p n S x/\ZH p.n (HadW p n S cl q) k/\e=.returned (.tuple #[v,(k:Int),.bool true])/\w'.ownsRow base t 4 v (n+1) (zw (ZE S n (λ_=>⟨x,(k:Int),p.B k,true⟩)) (n+1))) ∨
 ((∀ k,¬ (MayW p n S x/\ZH p.n (HadW p n S cl q) k))/\e=.returned (.tuple #[True,(),.bool false]))
theorem rec4W {w:World}{g t:Nat}{u0 u1 u2 u3:Value}(h:w.heap[g]?=some (.cells #[u0,u1,u2,u3] t (0,0)))(v0 v1 v2 v3:Value) :
  ((((w.setCell (g,0) v0).setCell (g,1) v1).setCell (g,2) v2).setCell (g,3) v3).heap[g]?=some (.cells #[v0,v1,v2,v3] t (0,0)):=by
 have:=zm (zm (zm (zm h 0 v0) 1 v1) 2 v2) 3 v3
 simpa using this
theorem row6W {w:World}{g t:Nat}{F:Nat->Int}(h:w.heap[g]?=some (.cells #[(F 0),(F 1),(F 2),(F 3),(F 4),(F 5)] t (0,0))):w.rowIs g t 6 (λk=>int i64 (F k)):=by
 refine⟨_,h,rfl,λi hi=>?_⟩
 have:i=0∨i=1∨i=2∨i=3∨i=4∨i=5:=by omega
 rcases this with rfl|rfl|rfl|rfl|rfl|rfl <;> rfl
theorem znu (ao bo:Option Addr)(m mc n c:Nat)(p:zH)(S:Nat->qN)(x cl q:Int)(w:World)(hl:p.n=m)(hm:m<=1048576)(hn:n<=1048576)(hc:n<=c)(hx:zG w ao p)(hz:qp w bo n S)(E:bo=none->n=0/\c=0) :
  Calls prog 295 #[(ao,m,mc),(bo,n,c),x,cl,.iface 379 (.agg #[q])] w λe w'=>PlaceW w' w.heap.size 228 p n S x cl q e/\Below w.heap.size w w':=by
 have L:=hI hl;have HX:=hI hx;have Y:=hI hz;have a0:=hI E;clear hl hx hz E;have b2:∀ (fn) (first cap) (w),(Instr.makeFunc fn _ cap).run prog w=.ok (.func fn first cap) w:=λ_ _ _ _=>rfl
 have k1:=nilW;have k3:=methW;go_enter func295,ntmps295;go_wp2_with fail;refine(zbh ao bo m mc n c p S _ L hm hn hc HX Y).mono ?_;rintro e w1 ⟨Q,g⟩
 rcases Q with⟨U,rfl⟩|⟨T,rfl⟩
 ·have X:=hI (zct.1 U)
  clear U;unfold six;have b1:m<=6:=by rw[← L.out];exact X.1.1
  by_cases g1:In x 1 9999
  ·have e1:=Jd g1
   have H1:=hI g1;clear g1
   by_cases g2:Has (ZV S) n x
   ·have e2:=Jd ((QC _ _ _).2 g2)
    have H2:=hI g2;clear g2;go_wp2_with (first|(go_at_call 102;refine sC (Qg _ _) ?_)|(go_at_call 244;refine(QF bo n c S x _ hn (Y.below (zk g _))).mono ?_;rintro e w2 ⟨rfl,r⟩))
    exact Jj (by simp[results,results295,go_sem]) rfl ⟨.inr ⟨λk h=>h.1.2.1 H2,rfl⟩,ze (zk g _) r⟩
   ·have e2:=Jc (λh=>g2 ((QC _ _ _).1 h))
    have H2:=hI g2;clear g2;have A:Hid ((w1.alloc _).rowIs _ 323 6 (λk=>.int _ (Zl p S n k))):=row6W (Jb w1 _)
    have G:Hid (Below _ w (w1.alloc (.cells #[(Zl p S n 0),(Zl p S n 1),(Zl p S n 2),(Zl p S n 3),(Zl p S n 4),(Zl p S n 5)] 323))):=zk g _;have a2:=g.size;go_upto_region 4 with(first|(go_at_call 102;refine sC (Qg _ _) ?_)|(go_at_call 244;refine(QF bo n c S x _ hn (Y.below G)).mono ?_;rintro e w2 ⟨rfl,r⟩))
    have l:=qo A r;have D:=ze G r;generalize w1.heap.size=f at a2 l ⊢;clear A G r g e1 e2;go_wp2;go_loopw [15,16,17,18,40] (λ_ _ _ _ i wr=>∃ k,k<=m/\i=int i64 k/\(∀ j,j<k->¬ HadW p n S cl q j)/\wr.rowIs f 323 6 (λj=>int i64 (Zl p S n j))/\Below w.heap.size w wr) (λ_ _ _ _ i _=>m - (intOf i).toNat)
    case atStart=>exact⟨0,Jq _,rfl,λj hj=>by omega,l,D⟩
    case round =>
     obtain⟨k,hk,rfl,C,F,d⟩:=hrel;have V:=hI C;clear C l D
     by_cases hlt:k<m
     ·obtain⟨b,off,rfl,h1,h2⟩:=HX k (by rw[L.out];exact hlt)
      have hb:=Ja w _ h1;have c1:=(d.cell hb).trans h1;have c2:=(d.cell (p:=⟨b,_+1,_⟩) hb).trans h2;have Z:=Jb wr (.cells #[(p.A k),(p.B k)] 231);have y:=zk d (.cells #[(p.A k),(p.B k)] 231);have z:=qo F (zk (Ji _ wr) (.cells #[(p.A k),(p.B k)] 231));clear h1 h2;go_upto_region 7 with fail;generalize hW:wr.alloc _=W at Z y z ⊢;clear hW;have b3:=zM Z;have a9:=z.lt;have b4:=y.size;have N:=hI Z;have J:=hI z;have I:=hI y;generalize wr.heap.size=cb at *;have i1:(0:Int)<=(k:Int):=by omega
      have i3:(k:Int)<6:=by omega
      have u:Hid (∀ w',Below _ W w'->(w'.cell? _=some (.int _ _)/\w'.cell? _=some (.int _ _)/\w'.cell? _=_)):=λw' h=>⟨za (zb N h) 0 _ rfl,za (zb N h) 1 _ rfl,by
       have:=(qo J h).cell (i:=k) (by omega)
       rw[this,zcN (by rw[L.out];exact hlt)]⟩
      obtain⟨P,K⟩:∃ P,P=decide (Za p S n k=p.B k/\q<=p.B k):=⟨_,rfl⟩;have O:=hI K;have R:Hid (∀ w0,Calls _ 336 #[_,.agg #[.int _ (p.A k),_],_] w0 λe w'=>e=.returned (.tuple #[_,P])/\_):=λw0=>by rw[K];exact zgR _ _ _ _ w0
      clear c1 c2 Z y z F d K;go_cut [17,18] (λa5 a6 wc=>∃ B,a5=.pointer (some (B,0))/\a6=.bool P/\wc.heap[B]?=some (.cells #[(),(),(p.B k),.bool true] 228 (0,0))/\W.heap.size<=B/\Below W.heap.size W wc)
      case first =>
       go_region_held3 (λw'=>w'.cell? (cb,0)=some (p.A k)/\w'.cell? (cb,1)=some (p.B k)/\w'.cell? (f,k)=some (Za p S n k))
        ((refine u _ ?_;(repeat(first|exact bZ|refine Jh ?_|refine zk ?_ _|refine setI ?_ (by omega) _|refine ze ?_ s))))
        (first|(go_at_call 336;refine Jm (R _) ?_;rintro e w4 ⟨rfl,s⟩;have s4:W.heap.size<=w4.heap.size:=(by have:=s.size;first|omega|(simp at this;omega));(first|(have a:w4.heap[W.heap.size]?=_:=zb (Jb W.drew (.cells _ 228)) s;have y0:=za a 0 _ rfl;have y1:=za a 1 _ rfl;have y2:=za a 2 _ rfl;have y3:=za a 3 _ rfl;have f0:=zg a 0;have f1:=zg a 1;have f2:=zg a 2;have f3:=zg a 3)|skip)))
       all_goals
        go_wp2;go_meet
        first|exact⟨_,rfl,rfl,Jb w4 _,s4,(by(repeat(first|exact bZ|refine Jh ?_|refine zk ?_ _|refine setI ?_ (by omega) _|refine ze ?_ s)))⟩|exact⟨_,rfl,rfl,rec4W a _ _ _ _,Jr _,(by(repeat(first|exact bZ|refine Jh ?_|refine zk ?_ _|refine setI ?_ (by omega) _|refine ze ?_ s)))⟩
      case rest =>
      obtain⟨B,rfl,rfl,t,a7,o⟩:=hcut;have a8:=(u _ o).1
      by_cases g3:p.A k=cl
      ·have e3:(p.A k == cl)=true:=by simpa using g3
       have H3:=hI g3;clear g3
       cases P with
       | true =>
        have h4:=Js O.symm;have M:=hI h4;clear h4;obtain⟨o0,o1,o2,o3⟩:=ce4 t;have f0:=zg t 0;have f1:=zg t 1;have H:Hid (Below _ w ((wc.setCell (B,0) x).setCell (B,1) (k:Int))):=((ze I o).setCell (by show w.heap.size<=B;omega) _).setCell (by show w.heap.size<=B;omega) _
        go_wp2_with (first|(go_at_call 298;refine Jm (zgT bo n c S ⟨x,(k:Int),p.B k,_⟩ _ hn (Y.below H) a0) ?_;rintro e w5 ⟨⟨v,rfl,a3⟩,a1⟩))
        have a4:=H.size;exact Jj (by simp[results,results295,go_sem]) rfl ⟨.inl ⟨k,v,⟨X,H2,H1⟩,⟨by rw[L.out];exact hlt,⟨H3,M⟩,V⟩,rfl,zu a3 a4⟩,ze H a1⟩
       | false =>
        have M:Hid (¬ HadW p n S cl q k):=λh=>of_decide_eq_false O.symm h.2
        go_wp2;go_roundw
        case rel=>exact⟨k+1,by omega,by go_num,λj hj=>by
         by_cases e:j=k
         ·subst e;exact M
         ·exact V j (by omega),qo J o,ze I o⟩
        case measure=>simp[intOf];omega
      ·have e3:(p.A k == cl)=false:=by simpa using g3
       have M:Hid (¬ HadW p n S cl q k):=λh=>g3 h.1
       clear g3;go_wp2;go_roundw
       case rel=>exact⟨k+1,by omega,by go_num,λj hj=>by
        by_cases e:j=k
        ·subst e;exact M
        ·exact V j (by omega),qo J o,ze I o⟩
       case measure=>simp[intOf];omega
     ·obtain rfl:k=m:=by omega
      go_wp2;exact Jj (by simp[results,results295,go_sem]) rfl ⟨.inr ⟨λj h=>V j (by have:=h.2.1;rw[L.out] at this;exact this) h.2.2.1,rfl⟩,d⟩
  ·have e1:=Jc g1
   have H1:=hI g1;clear g1;go_wp2_with (first|(go_at_call 102;refine sC (Qg _ _) ?_))
   exact Jj (by simp[results,results295,go_sem]) rfl ⟨.inr ⟨λk h=>H1 h.1.2.2,rfl⟩,zk g _⟩
 ·have X:Hid (¬ _):=λh=>T (zct.2 h)
  clear T;unfold six;go_wp2;exact Jj (by simp[results,results295,go_sem]) rfl ⟨.inr ⟨λk h=>X h.1.1,rfl⟩,zk g _⟩
attribute [local go_sem ↓] Go.wp_at_zero Go.wp_at_succ
def MayB (p:zH)(n:Nat)(S:Nat->qN)(x:Int):Prop:=Qr p n S/\¬ Has (ZV S) n x/\In x 1 9999
def HadB (p:zH)(n:Nat)(S:Nat->qN)(cl q:Int)(j:Nat):Prop:=p.A j=cl/\(In q 1 (Za p S n j))
def PlaceB (w':World)(base t:Nat)(p:zH)(n:Nat)(S:Nat->qN)(x cl q:Int)(e:Ending):Prop :=
 (∃ k v,MayB p n S x/\ZH p.n (HadB p n S cl q) k/\e=.returned (.tuple #[v,(k:Int),.bool true])/\w'.ownsRow base t 4 v (n+1) (zw (ZE S n (λ_=>⟨x,(k:Int),q,false⟩)) (n+1))) ∨
 ((∀ k,¬ (MayB p n S x/\ZH p.n (HadB p n S cl q) k))/\e=.returned (.tuple #[True,(),.bool false]))
theorem rec4B {w:World}{g t:Nat}{u0 u1 u2 u3:Value}(h:w.heap[g]?=some (.cells #[u0,u1,u2,u3] t (0,0)))(v0 v1 v2 v3:Value) :
  ((((w.setCell (g,0) v0).setCell (g,1) v1).setCell (g,2) v2).setCell (g,3) v3).heap[g]?=some (.cells #[v0,v1,v2,v3] t (0,0)):=by
 have:=zm (zm (zm (zm h 0 v0) 1 v1) 2 v2) 3 v3
 simpa using this
theorem row6B {w:World}{g t:Nat}{F:Nat->Int}(h:w.heap[g]?=some (.cells #[(F 0),(F 1),(F 2),(F 3),(F 4),(F 5)] t (0,0))):w.rowIs g t 6 (λk=>int i64 (F k)):=by
 refine⟨_,h,rfl,λi hi=>?_⟩
 have:i=0∨i=1∨i=2∨i=3∨i=4∨i=5:=by omega
 rcases this with rfl|rfl|rfl|rfl|rfl|rfl <;> rfl
theorem znv (ao bo:Option Addr)(m mc n c:Nat)(p:zH)(S:Nat->qN)(x cl q:Int)(w:World)(hl:p.n=m)(hm:m<=1048576)(hn:n<=1048576)(hc:n<=c)(hx:zG w ao p)(hz:qp w bo n S)(E:bo=none->n=0/\c=0) :
  Calls prog 295 #[(ao,m,mc),(bo,n,c),x,cl,.iface 381 (.agg #[q])] w λe w'=>PlaceB w' w.heap.size 228 p n S x cl q e/\Below w.heap.size w w':=by
 have L:=hI hl;have HX:=hI hx;have Y:=hI hz;have a0:=hI E;clear hl hx hz E;have b2:∀ (fn) (first cap) (w),(Instr.makeFunc fn _ cap).run prog w=.ok (.func fn first cap) w:=λ_ _ _ _=>rfl
 have k1:=nilB;have k3:=methB;go_enter func295,ntmps295;go_wp2_with fail;refine(zbh ao bo m mc n c p S _ L hm hn hc HX Y).mono ?_;rintro e w1 ⟨Q,g⟩
 rcases Q with⟨U,rfl⟩|⟨T,rfl⟩
 ·have X:=hI (zct.1 U)
  clear U;unfold six;have b1:m<=6:=by rw[← L.out];exact X.1.1
  by_cases g1:In x 1 9999
  ·have e1:=Jd g1
   have H1:=hI g1;clear g1
   by_cases g2:Has (ZV S) n x
   ·have e2:=Jd ((QC _ _ _).2 g2)
    have H2:=hI g2;clear g2;go_wp2_with (first|(go_at_call 102;refine sC (Qg _ _) ?_)|(go_at_call 244;refine(QF bo n c S x _ hn (Y.below (zk g _))).mono ?_;rintro e w2 ⟨rfl,r⟩))
    exact Jj (by simp[results,results295,go_sem]) rfl ⟨.inr ⟨λk h=>h.1.2.1 H2,rfl⟩,ze (zk g _) r⟩
   ·have e2:=Jc (λh=>g2 ((QC _ _ _).1 h))
    have H2:=hI g2;clear g2;have A:Hid ((w1.alloc _).rowIs _ 323 6 (λk=>.int _ (Zl p S n k))):=row6B (Jb w1 _)
    have G:Hid (Below _ w (w1.alloc (.cells #[(Zl p S n 0),(Zl p S n 1),(Zl p S n 2),(Zl p S n 3),(Zl p S n 4),(Zl p S n 5)] 323))):=zk g _;have a2:=g.size;go_upto_region 4 with(first|(go_at_call 102;refine sC (Qg _ _) ?_)|(go_at_call 244;refine(QF bo n c S x _ hn (Y.below G)).mono ?_;rintro e w2 ⟨rfl,r⟩))
    have l:=qo A r;have D:=ze G r;generalize w1.heap.size=f at a2 l ⊢;clear A G r g e1 e2;go_wp2;go_loopw [15,16,17,18,40] (λ_ _ _ _ i wr=>∃ k,k<=m/\i=int i64 k/\(∀ j,j<k->¬ HadB p n S cl q j)/\wr.rowIs f 323 6 (λj=>int i64 (Zl p S n j))/\Below w.heap.size w wr) (λ_ _ _ _ i _=>m - (intOf i).toNat)
    case atStart=>exact⟨0,Jq _,rfl,λj hj=>by omega,l,D⟩
    case round =>
     obtain⟨k,hk,rfl,C,F,d⟩:=hrel;have V:=hI C;clear C l D
     by_cases hlt:k<m
     ·obtain⟨b,off,rfl,h1,h2⟩:=HX k (by rw[L.out];exact hlt)
      have hb:=Ja w _ h1;have c1:=(d.cell hb).trans h1;have c2:=(d.cell (p:=⟨b,_+1,_⟩) hb).trans h2;have Z:=Jb wr (.cells #[(p.A k),(p.B k)] 231);have y:=zk d (.cells #[(p.A k),(p.B k)] 231);have z:=qo F (zk (Ji _ wr) (.cells #[(p.A k),(p.B k)] 231));clear h1 h2;go_upto_region 7 with fail;generalize hW:wr.alloc _=W at Z y z ⊢;clear hW;have b3:=zM Z;have a9:=z.lt;have b4:=y.size;have N:=hI Z;have J:=hI z;have I:=hI y;generalize wr.heap.size=cb at *;have i1:(0:Int)<=(k:Int):=by omega
      have i3:(k:Int)<6:=by omega
      have u:Hid (∀ w',Below _ W w'->(w'.cell? _=some (.int _ _)/\w'.cell? _=some (.int _ _)/\w'.cell? _=_)):=λw' h=>⟨za (zb N h) 0 _ rfl,za (zb N h) 1 _ rfl,by
       have:=(qo J h).cell (i:=k) (by omega)
       rw[this,zcN (by rw[L.out];exact hlt)]⟩
      obtain⟨P,K⟩:∃ P,P=decide (In q 1 (Za p S n k)):=⟨_,rfl⟩;have O:=hI K;have R:Hid (∀ w0,Calls _ 337 #[_,.agg #[.int _ (p.A k),.int _ (p.B k)],_] w0 λe w'=>e=.returned (.tuple #[_,P])/\_):=λw0=>by rw[K];exact zgQ _ _ _ _ w0
      clear c1 c2 Z y z F d K;go_cut [17,18] (λa5 a6 wc=>∃ B,a5=.pointer (some (B,0))/\a6=.bool P/\wc.heap[B]?=some (.cells #[(),(),(q),.bool false] 228 (0,0))/\W.heap.size<=B/\Below W.heap.size W wc)
      case first =>
       go_region_held3 (λw'=>w'.cell? (cb,0)=some (p.A k)/\w'.cell? (cb,1)=some (p.B k)/\w'.cell? (f,k)=some (Za p S n k))
        ((refine u _ ?_;(repeat(first|exact bZ|refine Jh ?_|refine zk ?_ _|refine setI ?_ (by omega) _|refine ze ?_ s))))
        (first|(go_at_call 337;refine Jm (R _) ?_;rintro e w4 ⟨rfl,s⟩;have s4:W.heap.size<=w4.heap.size:=(by have:=s.size;first|omega|(simp at this;omega));(first|(have a:w4.heap[W.heap.size]?=_:=zb (Jb W.drew (.cells _ 228)) s;have y0:=za a 0 _ rfl;have y1:=za a 1 _ rfl;have y2:=za a 2 _ rfl;have y3:=za a 3 _ rfl;have f0:=zg a 0;have f1:=zg a 1;have f2:=zg a 2;have f3:=zg a 3)|skip)))
       all_goals
        go_wp2;go_meet
        first|exact⟨_,rfl,rfl,Jb w4 _,s4,(by(repeat(first|exact bZ|refine Jh ?_|refine zk ?_ _|refine setI ?_ (by omega) _|refine ze ?_ s)))⟩|exact⟨_,rfl,rfl,rec4B a _ _ _ _,Jr _,(by(repeat(first|exact bZ|refine Jh ?_|refine zk ?_ _|refine setI ?_ (by omega) _|refine ze ?_ s)))⟩
      case rest =>
      obtain⟨B,rfl,rfl,t,a7,o⟩:=hcut;have a8:=(u _ o).1
      by_cases g3:p.A k=cl
      ·have e3:(p.A k == cl)=true:=by simpa using g3
       have H3:=hI g3;clear g3
       cases P with
       | true =>
        have h4:=Js O.symm;have M:=hI h4;clear h4;obtain⟨o0,o1,o2,o3⟩:=ce4 t;have f0:=zg t 0;have f1:=zg t 1;have H:Hid (Below _ w ((wc.setCell (B,0) x).setCell (B,1) (k:Int))):=((ze I o).setCell (by show w.heap.size<=B;omega) _).setCell (by show w.heap.size<=B;omega) _
        go_wp2_with (first|(go_at_call 298;refine Jm (zgT bo n c S ⟨x,(k:Int),q,_⟩ _ hn (Y.below H) a0) ?_;rintro e w5 ⟨⟨v,rfl,a3⟩,a1⟩))
        have a4:=H.size;exact Jj (by simp[results,results295,go_sem]) rfl ⟨.inl ⟨k,v,⟨X,H2,H1⟩,⟨by rw[L.out];exact hlt,⟨H3,M⟩,V⟩,rfl,zu a3 a4⟩,ze H a1⟩
       | false =>
        have M:Hid (¬ HadB p n S cl q k):=λh=>of_decide_eq_false O.symm h.2
        go_wp2;go_roundw
        case rel=>exact⟨k+1,by omega,by go_num,λj hj=>by
         by_cases e:j=k
         ·subst e;exact M
         ·exact V j (by omega),qo J o,ze I o⟩
        case measure=>simp[intOf];omega
      ·have e3:(p.A k == cl)=false:=by simpa using g3
       have M:Hid (¬ HadB p n S cl q k):=λh=>g3 h.1
       clear g3;go_wp2;go_roundw
       case rel=>exact⟨k+1,by omega,by go_num,λj hj=>by
        by_cases e:j=k
        ·subst e;exact M
        ·exact V j (by omega),qo J o,ze I o⟩
       case measure=>simp[intOf];omega
     ·obtain rfl:k=m:=by omega
      go_wp2;exact Jj (by simp[results,results295,go_sem]) rfl ⟨.inr ⟨λj h=>V j (by have:=h.2.1;rw[L.out] at this;exact this) h.2.2.1,rfl⟩,d⟩
  ·have e1:=Jc g1
   have H1:=hI g1;clear g1;go_wp2_with (first|(go_at_call 102;refine sC (Qg _ _) ?_))
   exact Jj (by simp[results,results295,go_sem]) rfl ⟨.inr ⟨λk h=>H1 h.1.2.2,rfl⟩,zk g _⟩
 ·have X:Hid (¬ _):=λh=>T (zct.2 h)
  clear T;unfold six;go_wp2;exact Jj (by simp[results,results295,go_sem]) rfl ⟨.inr ⟨λk h=>X h.1.1,rfl⟩,zk g _⟩
def zfs (p:zH)(cl q:Int):Prop:=∃ j,j<p.n/\p.A j=cl/\q<=p.B j
theorem zkA (n:Option Addr)(m v:Nat)(p:zH)(cl q:Int)(w:World)(r:p.n=m)(hm:m<=1048576)(u:zG w n p) :
  Calls prog 296 #[(n,m,v),cl,q] w λe w'=>(∃ lst:Int,e=.returned (.iface 379 (.agg #[lst]))/\((lst=q/\zfs p cl q)∨(lst=0/\¬ zfs p cl q)))/\Below w.heap.size w w':=by
 have l:=hI r;clear r;go_enter func296,ntmps296;go_wp2;go_loopw [8,11] (λ_ i wr=>∃ k,k<=m/\i=int i64 k/\(∀ j,j<k->¬ (p.A j=cl/\q<=p.B j))/\Below w.heap.size w wr) (λ_ i _=>m - (intOf i).toNat)
 case atStart=>exact⟨0,Jq _,rfl,λj f=>by omega,bZ⟩
 case round =>
  obtain⟨k,hk,rfl,c,a⟩:=hrel;have g:=hI c;clear c
  by_cases hlt:k<m
  ·obtain⟨b,off,rfl,h1,h2⟩:=u k (by rw[l.out];omega)
   have o:=Ja w _ h1;have c1:=(a.cell o).trans h1;have c2:=(a.cell (p:=⟨b,_+1,_⟩) o).trans h2;clear h1 h2
   by_cases g1:p.A k=cl
   ·have s:(p.A k == cl)=true:=by simpa using g1
    by_cases g2:q<=p.B k
    ·have t:=Jd g2
     have d:Hid (zfs p cl q):=⟨k,by rw[l.out];exact hlt,g1,g2⟩
     clear g1 g2;go_wp2;go_ret;exact⟨⟨q,rfl,.inl ⟨rfl,d⟩⟩,zk a _⟩
    ·have t:=Jc g2
     have d:Hid (¬ (p.A k=cl/\_)):=λh=>g2 h.2
     clear g1 g2;go_wp2;go_roundw
     case rel=>exact⟨k+1,by omega,by go_num,λj f=>by
      by_cases e:j=k
      ·subst e;exact d
      ·exact g j (by omega),zk a _⟩
     case measure=>simp[intOf];omega
   ·have s:(p.A k == cl)=false:=by simpa using g1
    have d:Hid (¬ (_/\q<=p.B k)):=λh=>g1 h.1
    clear g1;go_wp2;go_roundw
    case rel=>exact⟨k+1,by omega,by go_num,λj f=>by
     by_cases e:j=k
     ·subst e;exact d
     ·exact g j (by omega),zk a _⟩
    case measure=>simp[intOf];omega
  ·obtain rfl:k=m:=by omega
   have d:Hid (¬ zfs p cl q):=λ⟨j,f,h⟩=>g j (by rw[l.out] at f;exact f) h
   go_wp2;go_ret;exact⟨⟨0,rfl,.inr ⟨rfl,d⟩⟩,a⟩
theorem zeF {m:Nat}{P Q:Nat->Prop}{k:Nat}(h:∀ j,j<m->(P j↔Q j)):ZH m P k↔ZH m Q k:=by
 unfold ZH
 constructor
 ·rintro⟨a,b,c⟩;exact⟨a,(h k a).1 b,λj d q=>c j d ((h j (by omega)).2 q)⟩
 ·rintro⟨a,b,c⟩;exact⟨a,(h k a).2 b,λj d q=>c j d ((h j (by omega)).1 q)⟩
theorem zkB {p:zH}{n:Nat}{S:Nat->qN}{cl q d:Int}(g:zgt p)(e:(d=q/\zfs p cl q)∨(d=0/\¬ zfs p cl q)):∀ j,j<p.n->(HadW p n S cl d j↔zbD p n S cl q j):=by
 intro j i;have f:=(g.2 j i).2;unfold In at f;unfold HadW zbD
 constructor
 ·rintro⟨a,b,c⟩
  refine⟨a,b,?_⟩
  rcases e with⟨rfl,_⟩|⟨rfl,h⟩
  ·exact .inl c
  ·exact .inr h
 ·rintro⟨a,b,c⟩
  refine⟨a,b,?_⟩
  rcases e with⟨rfl,h⟩|⟨rfl,_⟩
  ·rcases c with c|c
   ·exact c
   ·exact absurd h c
  ·omega
theorem zkC {p:zH}{n:Nat}{S:Nat->qN}{x:Int}(h:Qr p n S/\¬ Has (ZV S) n x/\In x 1 9999):PlaceG p n S x :=
 ⟨h.1,by have:=zks h.1;omega,h.2.1,h.2.2⟩
theorem ziQ (o bo:Option Addr)(m y n c:Nat)(p:zH)(S:Nat->qN)(x cl q:Int)(w:World)(B:p.n=m)(C:m<=1048576)(I:n<=1048576)(H:n<=c)(D:zG w o p)(E:qp w bo n S)(g:bo=none->n=0/\c=0) :
  Calls prog 289 #[(o,m,y),(bo,n,c),x,cl,q] w λe w'=>zgc w' w.heap.size 228 p n S x cl q e/\Below w.heap.size w w':=by
 have A:=hI D;have F:=hI E;have z:=hI B;have s:=hI g;clear D E B g
 by_cases g1:In q 1 20
 ·have G:=Jd g1
  have r:=hI g1;clear g1;go_enter func289,ntmps289;go_wp2_with (first|(go_at_call 191;refine sC (zz _ _ _ _) ?_)|(go_at_call 296;refine(zkA o m y p cl q _ z C A).mono ?_;rintro e w1 ⟨⟨u,rfl,f⟩,a⟩;have i:=hI f;clear f)|(go_at_call 295;refine(znu o bo m y n c p S x cl u _ z C I H (A.below a) (F.below a) s).mono ?_;rintro e w2 ⟨j,l⟩;rcases j with⟨k,v,d,b,rfl,J⟩|⟨t,rfl⟩))
  ·exact Jj (by simp[results,results289,go_sem]) rfl ⟨zkc ⟨zkC d,by rw[← b.2.1.1];exact(d.1.1.2 k b.1).1,r⟩ ((zeF (zkB d.1.1 i)).1 b) (zu J a.size),ze a l⟩
  ·exact Jj (by simp[results,results289,go_sem]) rfl ⟨zgx (λk h=>t k ⟨⟨h.1.1.1,h.1.1.2.2.1,h.1.1.2.2.2⟩,(zeF (zkB h.1.1.1.1 i)).2 h.2⟩),ze a l⟩
 ·have G:=Jc g1
  have r:=hI g1;clear g1;go_enter func289,ntmps289;go_wp2_with (first|(go_at_call 191;refine sC (zz _ _ _ _) ?_))
  exact Jj (by simp[results,results289,go_sem]) rfl ⟨zgx (λk h=>r h.1.2.2),bZ⟩
theorem zkD {p:zH}{n:Nat}{S:Nat->qN}{cl q:Int}(h1:1<=q):∀ j,j<p.n->(HadB p n S cl q j↔zbN p n S cl q j):=by
 intro j _;unfold HadB zbN In
 constructor
 ·rintro⟨a,_,b⟩;exact⟨a,b⟩
 ·rintro⟨a,b⟩;exact⟨a,h1,b⟩
theorem zhC (j bo:Option Addr)(m u n c:Nat)(p:zH)(S:Nat->qN)(x cl q:Int)(w:World)(o:p.n=m)(C:m<=1048576)(D:n<=1048576)(B:n<=c)(s:zG w j p)(t:qp w bo n S)(d:bo=none->n=0/\c=0) :
  Calls prog 290 #[(j,m,u),(bo,n,c),x,cl,q] w λe w'=>zgd w' w.heap.size 228 p n S x cl q e/\Below w.heap.size w w':=by
 have z:=hI s;have A:=hI t;have y:=hI o;have i:=hI d;clear s t o d;go_enter func290,ntmps290;go_wp2_with (first|(go_at_call 295;refine(znv j bo m u n c p S x cl q _ y C D B z A i).mono ?_;rintro e w2 ⟨f,g⟩;rcases f with⟨k,v,b,a,rfl,E⟩|⟨l,rfl⟩))
 ·have r:=a.2.1.2
  have hb:=zdq b.1.1 b.1.2.1 b.1.manys a.1;unfold In at r;exact Jj (by simp[results,results290,go_sem]) rfl ⟨zkd ⟨zkC b,by rw[← a.2.1.1];exact(b.1.1.2 k a.1).1,by unfold In;omega⟩ ((zeF (zkD r.1)).1 a) E,g⟩
 ·exact Jj (by simp[results,results290,go_sem]) rfl ⟨zlL (λk h=>l k ⟨⟨h.1.1.1,h.1.1.2.2.1,h.1.1.2.2.2⟩,(zeF (zkD h.1.2.2.1)).2 h.2⟩),g⟩
theorem zgU (c d x:Int)(a:Nat)(w:World)(g:w.cell? (a,0)=some (int i64 x)) :
  Calls prog 274 #[.agg #[c,d],.pointer (some (a,0))] w λe w'=>e=.returned (.bool (c == x))/\Below w.heap.size w w':=by
 have b:=Ja w _ g;have f:¬ a=w.heap.size:=by have:a<w.heap.size:=b;omega
 go_enter func274,ntmps274;go_wp2;go_ret;exact⟨rfl,zk bZ _⟩
theorem ziR (s:Option Addr)(n c:Nat)(S:Nat->Qe)(x:Int)(g:Nat)(w:World)(hn:n<=1048576)(z:qE w s n S)(q:w.cell? (g,0)=some (int i64 x)) :
  Calls prog 273 #[(s,n,c),.func (.func 274) #[] #[.pointer (some (g,0))]] w λe w'=>e=.returned (Zv (zag S) x n)/\Below w.heap.size w w':=by
 have o:=Ja w _ q;go_enter func273,ntmps273;go_wp2;go_loopw [5,8] (λ_ i wr=>∃ k,k<=n/\i=int i64 k/\(∀ j,j<k->zag S j≠x)/\Below w.heap.size w wr) (λ_ i _=>n - (intOf i).toNat)
 case atStart=>exact⟨0,Jq _,rfl,λj y=>by omega,bZ⟩
 case round =>
  obtain⟨k,hk,rfl,d,a⟩:=hrel;have h:=hI d;clear d
  by_cases hlt2:k<n
  ·obtain⟨b,off,rfl,m,h1⟩:=z k hlt2
   have t:=Ja w _ m;have c0:=(a.cell t).trans m;have c1:=(a.cell (p:=⟨b,_+1,_⟩) t).trans h1;have r:=hI ((a.cell o).trans q);clear m h1 q
   by_cases he:zag S k=x
   ·have v:((S k).who == x)=true:=by unfold zag at he;simpa using he
    have l:Hid (Zv (zag S) x n=k):=by
     have:=zfe hlt2 he h;unfold Zv Hid;rw[this,Jf hlt2]
    clear he;go_wp2_with (first|(go_at_call 274;refine(zgU _ _ x g _ r).mono ?_;rintro e A ⟨rfl,f⟩))
    go_ret;exact⟨by rw[l.out];rfl,ze a f⟩
   ·have v:((S k).who == x)=false:=by unfold zag at he;simpa using he
    have u:=hI he;clear he;go_wp2_with (first|(go_at_call 274;refine(zgU _ _ x g _ r).mono ?_;rintro e A ⟨rfl,f⟩))
    go_roundw
    case rel=>exact⟨k+1,by omega,by go_num,λj y=>by
     by_cases e:j=k
     ·subst e;exact u
     ·exact h j (by omega),ze a f⟩
    case measure=>simp[intOf];omega
  ·obtain rfl:k=n:=by omega
   have l:=hI (zbM (zdp h));go_wp2;go_ret;exact⟨by rw[l.out];rfl,a⟩
/-- seatOf: where the stay of the by stands, -1 Zx one. -/
theorem zdU (b:Option Addr)(n c:Nat)(S:Nat->Qe)(x:Int)(w:World)(i:n<=1048576)(j:qE w b n S) :
  Calls prog 245 #[(b,n,c),x] w λe w'=>e=.returned (Zv (zag S) x n)/\Below w.heap.size w w':=by
 have a:Below _ w (w.alloc (.cells #[x] 3)):=zk bZ _;have g:=hI (j.below a);have f:Hid ((w.alloc (.cells #[_] 3)).cell? _=some (int i64 x)):=za (Jb w _) 0 _ rfl;have h:∀ (fn) (first cap) (w),(Instr.makeFunc fn _ cap).run prog w=.ok (.func fn first cap) w:=λ_ _ _ _=>rfl
 go_enter func245,ntmps245;go_wp2_with (first|(go_at_call 273;refine(ziR b n c S x _ _ i g f).mono ?_;rintro e w2 ⟨rfl,d⟩))
 go_ret;exact⟨rfl,ze a d⟩
end Go.Proofs.YtmdnjgihooflfaaGreatDoor
