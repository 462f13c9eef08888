/-
  OWN TEXT: SpecEf, SpecEg, SpecEh, SpecHas, SpecRows, SpecEi, SpecEj.
-/
import Derived.Deep.DeepCutAuto
import Derived.Deep.RegionLawGrows
import Derived.Deep.RegionHeld3
import Derived.Deep.AppendLies
import Derived.Great.Walk
import Derived.Test.YtmdnjgihooflfaaGreatDoorRows
import Derived.Test.YtmdnjgihooflfaaGreatDoorB27
namespace Go.Proofs.YtmdnjgihooflfaaGreatDoor
open Go.RowKit
open Go.Value (int)
open Go.IntKind (i64)
set_option maxHeartbeats 64000000
set_option maxRecDepth 100000
theorem l7End_1 (g base N R l k u c:Nat)(j i t b:Option Addr)(Q:Int)(y:OpD)(x:Off)(L C A B D E:Nat->Value)(w:World)(X:w.heap[g]?=some (.cells #[.slice j N l,.slice i N k,.slice t R u] 38 (0,0)))(U:zF w base (.slice j N l) (.slice i N k) (.slice t R u) N N R x L C A B D E)(J:x.bkn=R)(F:base<=w.heap.size)(m:y.kind=1)(S:In y.pe 0 20)(a3:y.lgn<=3)(G:zT w b y.lgn y.lg)(I:qj b y.lgn c)(H:0<y.lgn->∀ a,b=some a->a.block<base) :
  Calls Tryz.prog 93 #[.pointer (some ⟨g,0,none⟩),int i64 Q,.agg #[int i64 y.kind,.string y.own,int i64 y.name,.slice b y.lgn c,int i64 y.pe,int i64 y.len,int i64 y.hei,int i64 y.cl,.bool y.all,int i64 y.be,int i64 y.unt,int i64 y.now]] w fun e w'=>zdm g base N l k j i (fun _=>False) x 0 0 (zE ⟨y.pe,y.len,y.hei,y.cl,y.all,y.be⟩ (y.lgn:Int)) (fun _ v=>v=.slice none 0 0) L C A B D w e w':=by
 rw[m];have HO:=hI U;have HQ:=hI X;have Z:=hI m;have P:=hI J;have Y:=hI F;have a0:=hI G;have a2:=hI I;have a1:=hI H;clear U X m J F G I H;obtain⟨M,n⟩:∃ M,M=zE ⟨y.pe,y.len,y.hei,y.cl,y.all,y.be⟩ (y.lgn:Int):=⟨_,rfl⟩;have O:=hI n;have d:Below w.heap.size w ((w.alloc (.cells #[int i64 1,.string y.own,int i64 y.name,.slice b y.lgn c,int i64 y.pe,int i64 y.len,int i64 y.hei,int i64 y.cl,.bool y.all,int i64 y.be,int i64 y.unt,int i64 y.now] 47)).alloc (.cells #[int i64 0,int i64 0,int i64 0,.slice none 0 0] 41)):=zk (zk bZ _) _;have K:=zd (heap_alloc_new w (.cells #[int i64 1,.string y.own,int i64 y.name,.slice b y.lgn c,int i64 y.pe,int i64 y.len,int i64 y.hei,int i64 y.cl,.bool y.all,int i64 y.be,int i64 y.unt,int i64 y.now] 47)) (.cells #[int i64 0,int i64 0,int i64 0,.slice none 0 0] 41);have o:=zfT w (.cells #[int i64 1,.string y.own,int i64 y.name,.slice b y.lgn c,int i64 y.pe,int i64 y.len,int i64 y.hei,int i64 y.cl,.bool y.all,int i64 y.be,int i64 y.unt,int i64 y.now] 47) (.cells #[int i64 0,int i64 0,int i64 0,.slice none 0 0] 41);go_enter Tryz.func93,Tryz.ntmps93;go_wp2_with fail;generalize ((w.alloc (.cells #[int i64 1,.string y.own,int i64 y.name,.slice b y.lgn c,int i64 y.pe,int i64 y.len,int i64 y.hei,int i64 y.cl,.bool y.all,int i64 y.be,int i64 y.unt,int i64 y.now] 47)).alloc (.cells #[int i64 0,int i64 0,int i64 0,.slice none 0 0] 41))=W at d K o ⊢;refine(Zy y.pe y.len y.hei y.cl y.all y.be (y.lgn:Int) _ S (by unfold In;omega)).mono ?_
 rintro e V ⟨rfl,f⟩;rw[← n];clear n;replace d:=ze d f;replace K:=zb K f;replace o:=zb o f;clear f W;have o0:=za K 0 _ rfl;obtain⟨s,z,r,bF⟩:=zbC (T:=(fun _=>False)) (zx.of_below d) (HO.out.below d) (zb HQ.out d) o (by omega) (int i64 0) (int i64 0) (int i64 M) (.slice none 0 0) rfl
 obtain⟨v0,v1,v2,v3⟩:=ce4 o;obtain⟨e0,e1,e2,e3⟩:=fe4 o;have h:Hid _:=s;have q:Hid _:=z;have p:Hid _:=r;clear s z r;go_wp2;obtain⟨x0,x1,x2,x3⟩:=ce4 bF;refine bodyPost_ret (v:=.agg #[int i64 0,int i64 0,int i64 M,.slice none 0 0]) (by simp[results,Tryz.results93,go_sem,x0,x1,x2,x3]) rfl ?_
 have hR:=P.out;subst hR;rw[O.out] at h q p ⊢;exact⟨_,_,_,_,rfl,rfl,h.out,q.out,p.out⟩
theorem l7End_2f (g base N R k j t d:Nat)(i h s b:Option Addr)(O:Int)(y:OpD)(x:Off)(L C A B D E:Nat->Value)(w:World)(U:w.heap[g]?=some (.cells #[.slice i N k,.slice h N j,.slice s R t] 38 (0,0)))(S:zF w base (.slice i N k) (.slice h N j) (.slice s R t) N N R x L C A B D E)(I:x.bkn=R)(z:base<=w.heap.size)(l:y.kind=2)(P:In y.pe 0 20)(a4:y.lgn<=3)(F:zT w b y.lgn y.lg)(H:qj b y.lgn d)(G:0<y.lgn->∀ a,b=some a->a.block<base)(hR:R=30) :
  Calls Tryz.prog 93 #[.pointer (some ⟨g,0,none⟩),int i64 O,.agg #[int i64 y.kind,.string y.own,int i64 y.name,.slice b y.lgn d,int i64 y.pe,int i64 y.len,int i64 y.hei,int i64 y.cl,.bool y.all,int i64 y.be,int i64 y.unt,int i64 y.now]] w fun e w'=>zdm g base N k j i h (fun _=>False) x 8 0 0 (fun _ v=>v=.slice none 0 0) L C A B D w e w':=by
 subst hR;rw[l];have HO:=hI S;have Q:=hI U;have Z:=hI l;have r:=hI I;have Y:=hI z;have a0:=hI F;have a3:=hI H;have a1:=hI G;clear S U l I z F H G;obtain⟨X,m⟩:∃ X,X=zE ⟨y.pe,y.len,y.hei,y.cl,y.all,y.be⟩ (y.lgn:Int):=⟨_,rfl⟩;have a2:=hI m;have c:Below w.heap.size w ((w.alloc (.cells #[int i64 2,.string y.own,int i64 y.name,.slice b y.lgn d,int i64 y.pe,int i64 y.len,int i64 y.hei,int i64 y.cl,.bool y.all,int i64 y.be,int i64 y.unt,int i64 y.now] 47)).alloc (.cells #[int i64 0,int i64 0,int i64 0,.slice none 0 0] 41)):=zk (zk bZ _) _;have J:=zd (heap_alloc_new w (.cells #[int i64 2,.string y.own,int i64 y.name,.slice b y.lgn d,int i64 y.pe,int i64 y.len,int i64 y.hei,int i64 y.cl,.bool y.all,int i64 y.be,int i64 y.unt,int i64 y.now] 47)) (.cells #[int i64 0,int i64 0,int i64 0,.slice none 0 0] 41);have n:=zfT w (.cells #[int i64 2,.string y.own,int i64 y.name,.slice b y.lgn d,int i64 y.pe,int i64 y.len,int i64 y.hei,int i64 y.cl,.bool y.all,int i64 y.be,int i64 y.unt,int i64 y.now] 47) (.cells #[int i64 0,int i64 0,int i64 0,.slice none 0 0] 41);go_enter Tryz.func93,Tryz.ntmps93;go_wp2_with fail;generalize ((w.alloc (.cells #[int i64 2,.string y.own,int i64 y.name,.slice b y.lgn d,int i64 y.pe,int i64 y.len,int i64 y.hei,int i64 y.cl,.bool y.all,int i64 y.be,int i64 y.unt,int i64 y.now] 47)).alloc (.cells #[int i64 0,int i64 0,int i64 0,.slice none 0 0] 41))=W at c J n ⊢;refine(Zy y.pe y.len y.hei y.cl y.all y.be (y.lgn:Int) _ P (by unfold In;omega)).mono ?_
 rintro e V ⟨rfl,f⟩;rw[← m];clear m;replace c:=ze c f;replace J:=zb J f;replace n:=zb n f;clear f W;have o0:=za J 0 _ rfl;have zq:=za (zb Q.out c) 2 _ rfl;obtain⟨q,u,p,bF⟩:=zbC (T:=(fun _=>False)) (zx.of_below c) (HO.out.below c) (zb Q.out c) n (by omega) (int i64 8) (int i64 0) (int i64 0) (.slice none 0 0) rfl
 obtain⟨v0,v1,v2,v3⟩:=ce4 n;obtain⟨e0,e1,e2,e3⟩:=fe4 n;have o:Hid _:=q;have M:Hid _:=u;have K:Hid _:=p;clear q u p;go_wp2;obtain⟨x0,x1,x2,x3⟩:=ce4 bF;refine bodyPost_ret (v:=.agg #[int i64 8,int i64 0,int i64 0,.slice none 0 0]) (by simp[results,Tryz.results93,go_sem,x0,x1,x2,x3]) rfl ?_
 exact⟨_,_,_,_,rfl,rfl,by rw[r.out];exact o.out,by rw[r.out];exact M.out,K.out⟩
theorem l7End_3f (g base N R k j t d:Nat)(i h s b:Option Addr)(O:Int)(y:OpD)(x:Off)(L C A B D E:Nat->Value)(w:World)(U:w.heap[g]?=some (.cells #[.slice i N k,.slice h N j,.slice s R t] 38 (0,0)))(S:zF w base (.slice i N k) (.slice h N j) (.slice s R t) N N R x L C A B D E)(I:x.bkn=R)(z:base<=w.heap.size)(l:y.kind=3)(P:In y.pe 0 20)(a4:y.lgn<=3)(F:zT w b y.lgn y.lg)(H:qj b y.lgn d)(G:0<y.lgn->∀ a,b=some a->a.block<base)(hR:R=30) :
  Calls Tryz.prog 93 #[.pointer (some ⟨g,0,none⟩),int i64 O,.agg #[int i64 y.kind,.string y.own,int i64 y.name,.slice b y.lgn d,int i64 y.pe,int i64 y.len,int i64 y.hei,int i64 y.cl,.bool y.all,int i64 y.be,int i64 y.unt,int i64 y.now]] w fun e w'=>zdm g base N k j i h (fun _=>False) x 8 0 0 (fun _ v=>v=.slice none 0 0) L C A B D w e w':=by
 subst hR;rw[l];have HO:=hI S;have Q:=hI U;have Z:=hI l;have r:=hI I;have Y:=hI z;have a0:=hI F;have a3:=hI H;have a1:=hI G;clear S U l I z F H G;obtain⟨X,m⟩:∃ X,X=zE ⟨y.pe,y.len,y.hei,y.cl,y.all,y.be⟩ (y.lgn:Int):=⟨_,rfl⟩;have a2:=hI m;have c:Below w.heap.size w ((w.alloc (.cells #[int i64 3,.string y.own,int i64 y.name,.slice b y.lgn d,int i64 y.pe,int i64 y.len,int i64 y.hei,int i64 y.cl,.bool y.all,int i64 y.be,int i64 y.unt,int i64 y.now] 47)).alloc (.cells #[int i64 0,int i64 0,int i64 0,.slice none 0 0] 41)):=zk (zk bZ _) _;have J:=zd (heap_alloc_new w (.cells #[int i64 3,.string y.own,int i64 y.name,.slice b y.lgn d,int i64 y.pe,int i64 y.len,int i64 y.hei,int i64 y.cl,.bool y.all,int i64 y.be,int i64 y.unt,int i64 y.now] 47)) (.cells #[int i64 0,int i64 0,int i64 0,.slice none 0 0] 41);have n:=zfT w (.cells #[int i64 3,.string y.own,int i64 y.name,.slice b y.lgn d,int i64 y.pe,int i64 y.len,int i64 y.hei,int i64 y.cl,.bool y.all,int i64 y.be,int i64 y.unt,int i64 y.now] 47) (.cells #[int i64 0,int i64 0,int i64 0,.slice none 0 0] 41);go_enter Tryz.func93,Tryz.ntmps93;go_wp2_with fail;generalize ((w.alloc (.cells #[int i64 3,.string y.own,int i64 y.name,.slice b y.lgn d,int i64 y.pe,int i64 y.len,int i64 y.hei,int i64 y.cl,.bool y.all,int i64 y.be,int i64 y.unt,int i64 y.now] 47)).alloc (.cells #[int i64 0,int i64 0,int i64 0,.slice none 0 0] 41))=W at c J n ⊢;refine(Zy y.pe y.len y.hei y.cl y.all y.be (y.lgn:Int) _ P (by unfold In;omega)).mono ?_
 rintro e V ⟨rfl,f⟩;rw[← m];clear m;replace c:=ze c f;replace J:=zb J f;replace n:=zb n f;clear f W;have o0:=za J 0 _ rfl;have zq:=za (zb Q.out c) 2 _ rfl;obtain⟨q,u,p,bF⟩:=zbC (T:=(fun _=>False)) (zx.of_below c) (HO.out.below c) (zb Q.out c) n (by omega) (int i64 8) (int i64 0) (int i64 0) (.slice none 0 0) rfl
 obtain⟨v0,v1,v2,v3⟩:=ce4 n;obtain⟨e0,e1,e2,e3⟩:=fe4 n;have o:Hid _:=q;have M:Hid _:=u;have K:Hid _:=p;clear q u p;go_wp2;obtain⟨x0,x1,x2,x3⟩:=ce4 bF;refine bodyPost_ret (v:=.agg #[int i64 8,int i64 0,int i64 0,.slice none 0 0]) (by simp[results,Tryz.results93,go_sem,x0,x1,x2,x3]) rfl ?_
 exact⟨_,_,_,_,rfl,rfl,by rw[r.out];exact o.out,by rw[r.out];exact M.out,K.out⟩
theorem l1Has_no (d:Option Addr)(n a:Nat)(f:Nat->Int)(x:Int)(w:World)(hn:n<=1048576)(h:zT w d n f)(c:∀ j,j<n->f j≠x) :
  Calls Tryz.prog 87 #[.slice d n a,int i64 x] w fun e w'=>e=.returned (.bool false)/\w'=w:=by
 go_enter Tryz.func87,Tryz.ntmps87;go_wp2;go_loop [9] (fun i=>∃ k:Nat,k<=n/\i=int i64 k) (fun i=>n - (intOf i).toNat)
 case atStart=>exact⟨0,Nat.zero_le _,rfl⟩
 case round =>
  obtain⟨k,hk,rfl⟩:=hrel
  by_cases hlt:k<n
  ·obtain⟨b,off,rfl,hc⟩:=h k hlt
   have g:(f k == x)=false:=by simpa using c k hlt
   go_wp2;go_round
   case rel=>exact⟨k+1,by omega,by go_num⟩
   case measure=>simp[intOf];omega
  ·go_wp2
   go_ret;exact⟨rfl,rfl⟩
theorem l1Has_yes (l:Option Addr)(n d:Nat)(f:Nat->Int)(x:Int)(w:World)(hn:n<=1048576)(p:zT w l n f)(c:∃ j,j<n/\f j=x) :
  Calls Tryz.prog 87 #[.slice l n d,int i64 x] w fun e w'=>e=.returned (.bool true)/\w'=w:=by
 have H:=hI c;clear c;go_enter Tryz.func87,Tryz.ntmps87;go_wp2;go_loop [9] (fun i=>∃ k:Nat,k<=n/\i=int i64 k/\∀ j,j<k->f j≠x) (fun i=>n - (intOf i).toNat)
 case atStart=>exact⟨0,Nat.zero_le _,rfl,by omega⟩
 case round =>
  obtain⟨k,hk,rfl,a⟩:=hrel;have h:=hI a;clear a
  by_cases hlt:k<n
  ·obtain⟨b,off,rfl,hc⟩:=p k hlt
   by_cases he:f k=x
   ·have g:(f k == x)=true:=by simpa using he
    clear he;go_wp2;go_ret;exact⟨rfl,rfl⟩
   ·have g:(f k == x)=false:=by simpa using he
    have m:=hI he;clear he;go_wp2;go_round
    case rel=>exact⟨k+1,by omega,by go_num,fun j o=>by
     by_cases e:j=k
     ·rw[e];exact m.out
     ·exact h.out j (by omega)⟩
    case measure=>simp[intOf];omega
  ·exfalso
   obtain⟨j,o,e⟩:=H.out;exact h.out j (by omega) e
theorem zkV (d:Option Addr)(n c:Nat)(f:Nat->Int)(x:Int)(w:World)(g:n<=1048576)(i:zT w d n f) :
  Calls Tryz.prog 87 #[.slice d n c,int i64 x] w fun e w'=>(∃ b:Bool,e=.returned (.bool b)/\(b=true↔∃ j,j<n/\f j=x))/\w'=w:=by
 by_cases h:∃ j,j<n/\f j=x
 ·exact(l1Has_yes d n c f x w g i h).mono fun _ _ ⟨a,b⟩=>⟨⟨true,a,⟨fun _=>h,fun _=>rfl⟩⟩,b⟩
 ·exact(l1Has_no d n c f x w g i (fun j k e=>h ⟨j,k,e⟩)).mono fun _ _ ⟨a,b⟩=>⟨⟨false,a,⟨fun e=>(by cases e),fun e=>absurd e h⟩⟩,b⟩
theorem setV {n:Nat}{w w':World}(h:Below n w w'){g o:Nat}(a:n<=g)(v:Value):Below n w (w'.setCell ⟨g,o,none⟩ v):=h.setCell (p:=⟨g,o,none⟩) a v
theorem rec3W {w:World}{g t:Nat}{u0 u1 u2:Value}(h:w.heap[g]?=some (.cells #[u0,u1,u2] t (0,0)))(v0 v1 v2:Value) :
  (((w.setCell ⟨g,0,none⟩ v0).setCell ⟨g,1,none⟩ v1).setCell ⟨g,2,none⟩ v2).heap[g]?=some (.cells #[v0,v1,v2] t (0,0)):=by
 have a:(w.setCell ⟨g,0,none⟩ v0).heap[g]?=some (.cells #[v0,u1,u2] t (0,0)):=by simpa using zm h 0 v0
 have b:((w.setCell ⟨g,0,none⟩ v0).setCell ⟨g,1,none⟩ v1).heap[g]?=some (.cells #[v0,v1,u2] t (0,0)):=by simpa using zm a 1 v1
 simpa using zm b 2 v2
theorem rowln_set {w:World}{g t:Nat}{u0 u1 u2 u3 u4:Value}(h:w.heap[g]?=some (.cells #[u0,u1,u2,u3,u4] t (0,0)))(v:Value):(w.setCell ⟨g,3,none⟩ v).heap[g]?=some (.cells #[u0,u1,u2,v,u4] t (0,0)):=by simpa using zm h 3 v
theorem znW {w:World}{g t:Nat}{u0 u1 u2 u3 u4:Value}(h:w.heap[g]?=some (.cells #[u0,u1,u2,u3,u4] t (0,0)))(v:Value):(w.setCell ⟨g,4,none⟩ v).heap[g]?=some (.cells #[u0,u1,u2,u3,v] t (0,0)):=by simpa using zm h 4 v
theorem zkW (x:Off)(E e5 X:Option Addr)(H P b3 k:Nat)(z:Int)(w:World)(hs:Off.Short x 1048576)(f3:qB w E x.san x.sa)(T:ZG w e5 x.ldn x.ld)(e7:qO w X x.bkn x.bk)(j7:x.bkn<=30)(e8:zW x.sa z x.san=k)(k0:k<x.san)(i9:x.ldn=x.san) :
  Calls Tryz.prog 170 #[.agg #[.slice E x.san H,.slice e5 x.ldn P,.slice X x.bkn b3],int i64 z] w fun e w'=>(∃ v,e=.returned v/\w'.ownsRow w.heap.size 203 5 v (Qn (x.ld k) x.bk z x.bkn).length (qW (zeM (Qn (x.ld k) x.bk z x.bkn)) (Qn (x.ld k) x.bk z x.bkn).length))/\Below w.heap.size w w':=by
 obtain⟨j0,ji,j2,j3,j4⟩:=info_parts Tryz.infoRow;have g9:=hI f3;have g0:=hI e7;have h4:=hI hs;have n1:x.san<=1048576:=hs.1.1;have g5:=hI e8;obtain⟨C,hC,hI⟩:=T;obtain⟨G,lo,rfl,A⟩:=hC k (by omega)
 obtain⟨l,T⟩:∃ l,l=x.ld k:=⟨_,rfl⟩;obtain⟨Z,a1,b0,b4,b1,b5,y,d6,f9,d5,f7,f4,f8⟩:=hI k (by omega)
 rw[← T] at y d6 f9 d5 f7 f4 f8;have b7:=hs.2.1.2 k (by omega)
 rw[← T] at b7;have n2:l.stn<=1048576:=b7.1;have n3:l.ron<=1048576:=b7.2.1;rw[← T];have h5:=hI d6;have g8:=hI d5;have e0:G<w.heap.size:=World.block_lt_of_cell? w _ (A 0 (by decide))
 have j8:(0:Int)<=(k:Int):=by omega
 have j9:(k:Int)<(x.ldn:Int):=by omega
 have a9:Hid (w.cell? ⟨G,lo+k*3,none⟩=some (.slice Z l.stn a1)/\w.cell? ⟨G,lo+k*3+1,none⟩=some (.slice b0 l.ron b4)/\w.cell? ⟨G,lo+k*3+2,none⟩=some (.slice b1 l.sen b5)) :=
  ⟨by have:=A 0 (by decide);rw[y] at this;exact this,by have:=A 1 (by decide);rw[y] at this;exact this,by have:=A 2 (by decide);rw[y] at this;exact this⟩
 have e2:Hid (∀ w',Below w.heap.size w w'->Calls Tryz.prog 161 #[.slice E x.san H,int i64 z] w' fun e w2=>e=.returned (int i64 k)/\Below w'.heap.size w' w2):=fun w' h =>
  (Q9 E x.san H x.sa z w' n1 (g9.out.below h)).mono fun e w2 ⟨a,b⟩=>⟨by
   rw[g5.out] at a
   rcases a with⟨_,rfl⟩|⟨h,_⟩
   ·rfl
   ·omega,b⟩
 have R:Below w.heap.size w (w.alloc (.cells #[.slice E x.san H,.slice (some ⟨G,lo,none⟩) x.ldn P,.slice X x.bkn b3] 38)):=zk bZ _;have bO:=heap_alloc_new w (.cells #[.slice E x.san H,.slice (some ⟨G,lo,none⟩) x.ldn P,.slice X x.bkn b3] 38);clear f3 e7 hs e8 hC hI A y d6 f9 d5 f7 f4 f8 b7 T i9;go_enter Tryz.func170,Tryz.ntmps170;go_upto_region 1 with fail;generalize w.alloc (.cells #[.slice E x.san H,.slice (some ⟨G,lo,none⟩) x.ldn P,.slice X x.bkn b3] 38)=V at R bO ⊢;have i6:=R.size;have BW:Hid (∀ w',Below V.heap.size V w'->Below w.heap.size w w'):=fun w' h=>ze R h
 have i0:=zM bO;have KS:Hid (∀ w',Below V.heap.size V w'->(w'.cell? ⟨w.heap.size,0,none⟩=some (.slice E x.san H)/\w'.cell? ⟨w.heap.size,1,none⟩=some (.slice (some ⟨G,lo,none⟩) x.ldn P)/\w'.cell? ⟨G,lo+k*3,none⟩=some (.slice Z l.stn a1)/\w'.cell? ⟨G,lo+k*3+1,none⟩=some (.slice b0 l.ron b4)/\w'.cell? ⟨G,lo+k*3+2,none⟩=some (.slice b1 l.sen b5))):=fun w' h=>by
  have g1:=zb bO h;have g2:=ze R h;exact⟨za g1 0 _ rfl,za g1 1 _ rfl,(g2.cell (p:=⟨G,lo+k*3,none⟩) e0).trans a9.out.1,(g2.cell (p:=⟨G,lo+k*3+1,none⟩) e0).trans a9.out.2.1,(g2.cell (p:=⟨G,lo+k*3+2,none⟩) e0).trans a9.out.2.2⟩
 go_cut [5] (fun s5 wc=>∃ B,s5=.pointer (some ⟨B,0,none⟩)/\wc.heap[B]?=some (.cells #[.slice Z l.stn a1,.slice b0 l.ron b4,.slice b1 l.sen b5] 145 (0,0))/\Below V.heap.size V wc)
 case first =>
  go_region_held3 (fun w'=>w'.cell? ⟨w.heap.size,0,none⟩=some (.slice E x.san H)/\w'.cell? ⟨w.heap.size,1,none⟩=some (.slice (some ⟨G,lo,none⟩) x.ldn P)/\w'.cell? ⟨G,lo+k*3,none⟩=some (.slice Z l.stn a1)/\w'.cell? ⟨G,lo+k*3+1,none⟩=some (.slice b0 l.ron b4)/\w'.cell? ⟨G,lo+k*3+2,none⟩=some (.slice b1 l.sen b5))
   ((refine KS.out _ ?_;exact(by repeat(first|exact bZ|refine Below.drew ?_|refine zk ?_ _|refine setV ?_ (by omega) _|refine ze ?_ S))))
   (first|(go_at_call 161;refine Calls.mono (e2.out _ (BW.out _ (by repeat(first|exact bZ|refine Below.drew ?_|refine zk ?_ _|refine setV ?_ (by omega) _|refine ze ?_ S)))) ?_;rintro e w4 ⟨rfl,S⟩;have s4:V.heap.size<=w4.heap.size:=(by have:=S.size;first|omega|(simp at this;omega));(first|(have m:w4.heap[V.heap.size]?=some (.cells #[.slice none 0 0,.slice none 0 0,.slice none 0 0] 145 (0,0)):=zb (heap_alloc_new V.drew (.cells #[.slice none 0 0,.slice none 0 0,.slice none 0 0] 145)) S;have y0:=za m 0 _ rfl;have y1:=za m 1 _ rfl;have y2:=za m 2 _ rfl;have f0:=zg m 0;have f1:=zg m 1;have f2:=zg m 2)|skip)))
  all_goals
   go_wp2;go_meet
   first|exact⟨_,rfl,heap_alloc_new w4 _,(by repeat(first|exact bZ|refine Below.drew ?_|refine zk ?_ _|refine setV ?_ (by omega) _|refine ze ?_ S))⟩|exact⟨_,rfl,rec3W m _ _ _,(by repeat(first|exact bZ|refine Below.drew ?_|refine zk ?_ _|refine setV ?_ (by omega) _|refine ze ?_ S))⟩
 case rest =>
 obtain⟨B,rfl,bL,d2⟩:=hcut;have h7:=zb bO d2;have a2:=ze R d2;clear bO R d2 KS BW e2 a9 i0 i6;have z2:=za h7 2 _ rfl;go_wp2;clear z2;go_loopw [6,8,9,11,13,25] (fun v _ _ _ _ q wr=>∃ (i r:Nat),i<=x.bkn/\q=int i64 i/\r=(Qn l x.bk z i).length/\wr.ownsRow wc.heap.size 203 5 v r (qW (zeM (Qn l x.bk z i)) r)/\Below wc.heap.size wc wr) (fun _ _ _ _ _ q _=>x.bkn - (intOf q).toNat)
 case atStart=>exact⟨0,0,Nat.zero_le _,rfl,rfl,⟨rfl,.inl ⟨rfl,rfl⟩⟩,bZ⟩
 case round =>
  obtain⟨i,r,hi,rfl,e9,a5,a3⟩:=hrel;have W:=hI e9;have j5:r<=30:=by have:=zmL l x.bk z i;omega
  clear e9;have c:=ze a2 a3
  by_cases hlt2:i<x.bkn
  ·obtain⟨D,hD,hJ⟩:=g0.out
   obtain⟨bb,bo,rfl,A⟩:=hD i hlt2;obtain⟨b,b6⟩:∃ b,b=x.bk i:=⟨_,rfl⟩;obtain⟨K,M,y,d4,f6⟩:=hJ i hlt2;rw[← b6] at y d4 f6;have a8:=hI b6;have g4:Hid (ql.Short b 1048576):=by rw[b6];exact h4.out.2.2.2 i hlt2
   have g6:=hI d4;have f:bb<w.heap.size:=World.block_lt_of_cell? w _ (A 0 (by decide))
   have c0:wr.cell? ⟨bb,bo+i*13,none⟩=some (int i64 b.name):=(c.cell (p:=⟨bb,bo+i*13,none⟩) f).trans (by have:=A 0 (by decide);rw[y] at this;exact this)
   have c1:wr.cell? ⟨bb,bo+i*13+1,none⟩=some (int i64 b.who):=(c.cell (p:=⟨bb,bo+i*13+1,none⟩) f).trans (by have:=A 1 (by decide);rw[y] at this;exact this)
   have c2:wr.cell? ⟨bb,bo+i*13+2,none⟩=some (.string b.own):=(c.cell (p:=⟨bb,bo+i*13+2,none⟩) f).trans (by have:=A 2 (by decide);rw[y] at this;exact this)
   have c3:wr.cell? ⟨bb,bo+i*13+3,none⟩=some (.slice K b.lgn M):=(c.cell (p:=⟨bb,bo+i*13+3,none⟩) f).trans (by have:=A 3 (by decide);rw[y] at this;exact this)
   have c4:wr.cell? ⟨bb,bo+i*13+4,none⟩=some (int i64 b.pe):=(c.cell (p:=⟨bb,bo+i*13+4,none⟩) f).trans (by have:=A 4 (by decide);rw[y] at this;exact this)
   have c5:wr.cell? ⟨bb,bo+i*13+5,none⟩=some (int i64 b.len):=(c.cell (p:=⟨bb,bo+i*13+5,none⟩) f).trans (by have:=A 5 (by decide);rw[y] at this;exact this)
   have c6:wr.cell? ⟨bb,bo+i*13+6,none⟩=some (int i64 b.hei):=(c.cell (p:=⟨bb,bo+i*13+6,none⟩) f).trans (by have:=A 6 (by decide);rw[y] at this;exact this)
   have c7:wr.cell? ⟨bb,bo+i*13+7,none⟩=some (int i64 b.cl):=(c.cell (p:=⟨bb,bo+i*13+7,none⟩) f).trans (by have:=A 7 (by decide);rw[y] at this;exact this)
   have c8:wr.cell? ⟨bb,bo+i*13+8,none⟩=some (.bool b.all):=(c.cell (p:=⟨bb,bo+i*13+8,none⟩) f).trans (by have:=A 8 (by decide);rw[y] at this;exact this)
   have c9:wr.cell? ⟨bb,bo+i*13+9,none⟩=some (int i64 b.be):=(c.cell (p:=⟨bb,bo+i*13+9,none⟩) f).trans (by have:=A 9 (by decide);rw[y] at this;exact this)
   have i3:wr.cell? ⟨bb,bo+i*13+10,none⟩=some (int i64 b.state):=(c.cell (p:=⟨bb,bo+i*13+10,none⟩) f).trans (by have:=A 10 (by decide);rw[y] at this;exact this)
   have i4:wr.cell? ⟨bb,bo+i*13+11,none⟩=some (int i64 b.unt):=(c.cell (p:=⟨bb,bo+i*13+11,none⟩) f).trans (by have:=A 11 (by decide);rw[y] at this;exact this)
   have i5:wr.cell? ⟨bb,bo+i*13+12,none⟩=some (int i64 b.price):=(c.cell (p:=⟨bb,bo+i*13+12,none⟩) f).trans (by have:=A 12 (by decide);rw[y] at this;exact this)
   clear hD hJ A y b6 d4 f6;go_wp2_with fail;have bB:=heap_alloc_new wr (.cells #[int i64 b.name,int i64 b.who,.string b.own,.slice K b.lgn M,int i64 b.pe,int i64 b.len,int i64 b.hei,int i64 b.cl,.bool b.all,int i64 b.be,int i64 b.state,int i64 b.unt,int i64 b.price] 150);have d3:Below wc.heap.size wc (wr.alloc (.cells #[int i64 b.name,int i64 b.who,.string b.own,.slice K b.lgn M,int i64 b.pe,int i64 b.len,int i64 b.hei,int i64 b.cl,.bool b.all,int i64 b.be,int i64 b.state,int i64 b.unt,int i64 b.price] 150)):=zk a3 _;have O:=a5.alloc (.cells #[int i64 b.name,int i64 b.who,.string b.own,.slice K b.lgn M,int i64 b.pe,int i64 b.len,int i64 b.hei,int i64 b.cl,.bool b.all,int i64 b.be,int i64 b.state,int i64 b.unt,int i64 b.price] 150);generalize wr.alloc (.cells #[int i64 b.name,int i64 b.who,.string b.own,.slice K b.lgn M,int i64 b.pe,int i64 b.len,int i64 b.hei,int i64 b.cl,.bool b.all,int i64 b.be,int i64 b.state,int i64 b.unt,int i64 b.price] 150)=Y at bB d3 O ⊢;generalize wr.heap.size=d1 at bB ⊢;clear c0 c1 c2 c3 c4 c5 c6 c7 c8 c9 i3 i4 i5 a3 c a5;refine(zft b K M _).mono ?_;rintro e Y1 ⟨rfl,m⟩;have L:=zb bB m;have n:=ze d3 m;have s:=zo m O;clear bB d3 m O;obtain⟨t1,d7⟩:∃ t,t=decide (zez b):=⟨_,rfl⟩;rw[← d7];have b9:Hid (t1=true↔zez b):=by show t1=true↔zez b;rw[d7,decide_eq_true_eq]
   clear d7
   cases t1 with
   | false =>
    have HN:Hid (¬ OnZ (x.bk i) z):=fun h=>by rw[← a8.out] at h;have:=b9.out.2 h.1;cases this
    go_wp2;go_roundw
    case rel=>exact⟨i+1,r,by omega,by go_num,by rw[zdW HN.out];exact W.out,by rw[zdW HN.out];exact s,n⟩
    case measure=>simp[intOf];omega
   | true =>
    have e3:Hid (zez b):=b9.out.1 rfl;clear b9;have y3:=za L 3 _ rfl;go_wp2_with fail;refine(zkV K b.lgn M b.lg z _ g4.out.2 (g6.out.below (ze a2 n))).mono ?_;rintro e Y2 ⟨⟨t2,rfl,f5⟩,d9⟩;have d9:=d9.symm;subst d9;have d0:=hI f5;clear f5 y3
    cases t2 with
    | false =>
     have HN:Hid (¬ OnZ (x.bk i) z):=fun h=>by rw[← a8.out] at h;have:=d0.out.2 h.2;cases this
     go_wp2;go_roundw
     case rel=>exact⟨i+1,r,by omega,by go_num,by rw[zdW HN.out];exact W.out,by rw[zdW HN.out];exact s,n⟩
     case measure=>simp[intOf];omega
    | true =>
     have e4:Hid (OnZ (x.bk i) z):=by show OnZ (x.bk i) z;rw[← a8.out];exact⟨e3.out,d0.out.1 rfl⟩
     clear d0 e3;have y0:=za L 0 _ rfl;have y2:=za L 2 _ rfl;have y4:=za L 4 _ rfl;have l0:∀ o,(Y1.alloc o).cell? ⟨B,0,none⟩=some (.slice Z l.stn a1):=fun o=>za (zd (zb bL n) o) 0 _ rfl
     go_wp2;have bR:=heap_alloc_new Y1 (.cells #[int i64 b.name,.string b.own,int i64 b.pe,int i64 (-1),int i64 (-1)] 203);have a4:Below wc.heap.size wc (Y1.alloc (.cells #[int i64 b.name,.string b.own,int i64 b.pe,int i64 (-1),int i64 (-1)] 203)):=zk n _;have a6:=s.alloc (.cells #[int i64 b.name,.string b.own,int i64 b.pe,int i64 (-1),int i64 (-1)] 203);have b2:=zd L (.cells #[int i64 b.name,.string b.own,int i64 b.pe,int i64 (-1),int i64 (-1)] 203);have d8:=fun g hg=>And.right (World.ownsRow.lt s g hg)
     have i7:wc.heap.size<=Y1.heap.size:=n.size;have e6:d1<Y1.heap.size:=zM L;generalize Y1.alloc (.cells #[int i64 b.name,.string b.own,int i64 b.pe,int i64 (-1),int i64 (-1)] 203)=R0 at bR a4 a6 b2 ⊢;generalize Y1.heap.size=U at bR i7 e6 d8 ⊢;clear y0 y2 y4 l0 n L s;have h6:Hid _:=d8;clear d8;have j6:B<wc.heap.size:=zM bL;go_loopw [11,50] (fun _ q wr=>∃ j:Nat,j<=l.stn/\q=int i64 j/\wr.heap[U]?=some (.cells #[int i64 b.name,.string b.own,int i64 b.pe,int i64 (zas l.st b.who j),int i64 (-1)] 203 (0,0))/\zx R0 wr (fun b=>b=U)) (fun _ q _=>l.stn - (intOf q).toNat)
     case atStart=>exact⟨0,Nat.zero_le _,rfl,bR,zx.refl _ _⟩
     case round =>
      obtain⟨j,hj,rfl,Q,d⟩:=hrel;have N:Below wc.heap.size wc wr:=zx.below a4 a4.size d (fun g e=>by have e:g=U:=e;omega)
      have c:=ze a2 N;have a0:=d.blk b2 (by omega)
      by_cases hjl:j<l.stn
      ·obtain⟨I,J,rfl,h0,h1,h2,h3⟩:=h5.out j hjl
       have F:=World.block_lt_of_cell? w _ h0;have c0:wr.cell? ⟨I,J+j*4,none⟩=some (int i64 (l.st j).who):=(c.cell (p:=⟨I,J+j*4,none⟩) F).trans h0;have c1:wr.cell? ⟨I,J+j*4+1,none⟩=some (int i64 (l.st j).ln):=(c.cell (p:=⟨I,J+j*4+1,none⟩) F).trans h1;have c2:wr.cell? ⟨I,J+j*4+2,none⟩=some (int i64 (l.st j).len):=(c.cell (p:=⟨I,J+j*4+2,none⟩) F).trans h2;have c3:wr.cell? ⟨I,J+j*4+3,none⟩=some (int i64 (l.st j).hei):=(c.cell (p:=⟨I,J+j*4+3,none⟩) F).trans h3;clear h0 h1 h2 h3;have y1:∀ o,(wr.alloc o).cell? ⟨d1,1,none⟩=some (int i64 b.who):=fun o=>za (zd a0 o) 1 _ rfl
       have r3:∀ o,(wr.alloc o).cell? ⟨U,3,none⟩=some (int i64 (zas l.st b.who j)):=fun o=>za (zd Q o) 3 _ rfl
       have g3:∀ o,(wr.alloc o).frozen? ⟨U,3,none⟩=false:=fun o=>zg (zd Q o) 3
       have i1:(0:Int)<=(j:Int):=by omega
       have i2:(j:Int)<(l.stn:Int):=by omega
       by_cases he:(l.st j).who=b.who
       ·have e1:((l.st j).who == b.who)=true:=by simpa using he
        have HE:=hI he;clear he;go_wp2;go_roundw
        case rel=>exact⟨j+1,by omega,by go_num,by rw[show zas l.st b.who (j+1)=(l.st j).ln by rw[zas,if_pos HE.out]];exact rowln_set (zd Q _) _,(d.trans (zx.of_below (zk bZ _))).set (a:=⟨U,3,none⟩) rfl _⟩
        case measure=>simp[intOf];omega
       ·have e1:((l.st j).who == b.who)=false:=by simpa using he
        have HE:=hI he;clear he;go_wp2;go_roundw
        case rel=>exact⟨j+1,by omega,by go_num,by rw[show zas l.st b.who (j+1)=zas l.st b.who j by rw[zas,if_neg HE.out]];exact zd Q _,d.trans (zx.of_below (zk bZ _))⟩
        case measure=>simp[intOf];omega
      ·obtain rfl:j=l.stn:=by omega
       have l1:=za (zb bL N) 1 _ rfl;clear N c a0 bR hj hjl;go_wp2;clear l1;have bR:=Q;have b8:=d;clear Q d;go_loopw [13,66] (fun _ q wr=>∃ j:Nat,j<=l.ron/\q=int i64 j/\wr.heap[U]?=some (.cells #[int i64 b.name,.string b.own,int i64 b.pe,int i64 (zas l.st b.who l.stn),int i64 (QA l.ro b.who j)] 203 (0,0))/\zx R0 wr (fun b=>b=U)) (fun _ q _=>l.ron - (intOf q).toNat)
       case atStart=>exact⟨0,Nat.zero_le _,rfl,bR,b8⟩
       case round =>
        obtain⟨j,hj,rfl,Q,d⟩:=hrel;have N:Below wc.heap.size wc wr:=zx.below a4 a4.size d (fun g e=>by have e:g=U:=e;omega)
        have c:=ze a2 N;have a0:=d.blk b2 (by omega)
        by_cases hjl:j<l.ron
        ·obtain⟨I,J,rfl,h0,h1,h2,h3⟩:=g8.out j hjl
         have F:=World.block_lt_of_cell? w _ h0;have c0:wr.cell? ⟨I,J+j*4,none⟩=some (int i64 (l.ro j).who):=(c.cell (p:=⟨I,J+j*4,none⟩) F).trans h0;have c1:wr.cell? ⟨I,J+j*4+1,none⟩=some (int i64 (l.ro j).cab):=(c.cell (p:=⟨I,J+j*4+1,none⟩) F).trans h1;have c2:wr.cell? ⟨I,J+j*4+2,none⟩=some (int i64 (l.ro j).many):=(c.cell (p:=⟨I,J+j*4+2,none⟩) F).trans h2;have c3:wr.cell? ⟨I,J+j*4+3,none⟩=some (.bool (l.ro j).all):=(c.cell (p:=⟨I,J+j*4+3,none⟩) F).trans h3;clear h0 h1 h2 h3;have y1:∀ o,(wr.alloc o).cell? ⟨d1,1,none⟩=some (int i64 b.who):=fun o=>za (zd a0 o) 1 _ rfl
         have r3:∀ o,(wr.alloc o).cell? ⟨U,4,none⟩=some (int i64 (QA l.ro b.who j)):=fun o=>za (zd Q o) 4 _ rfl
         have g3:∀ o,(wr.alloc o).frozen? ⟨U,4,none⟩=false:=fun o=>zg (zd Q o) 4
         have i1:(0:Int)<=(j:Int):=by omega
         have i2:(j:Int)<(l.ron:Int):=by omega
         by_cases he:(l.ro j).who=b.who
         ·have e1:((l.ro j).who == b.who)=true:=by simpa using he
          have HE:=hI he;clear he;go_wp2;go_roundw
          case rel=>exact⟨j+1,by omega,by go_num,by rw[show QA l.ro b.who (j+1)=(l.ro j).cab by rw[QA,if_pos HE.out]];exact znW (zd Q _) _,(d.trans (zx.of_below (zk bZ _))).set (a:=⟨U,4,none⟩) rfl _⟩
          case measure=>simp[intOf];omega
         ·have e1:((l.ro j).who == b.who)=false:=by simpa using he
          have HE:=hI he;clear he;go_wp2;go_roundw
          case rel=>exact⟨j+1,by omega,by go_num,by rw[show QA l.ro b.who (j+1)=QA l.ro b.who j by rw[QA,if_neg HE.out]];exact zd Q _,d.trans (zx.of_below (zk bZ _))⟩
          case measure=>simp[intOf];omega
        ·obtain rfl:j=l.ron:=by omega
         have a7:=d.own a6 (fun g hg e=>by have:=h6.out g hg;have e:g=U:=e;omega)
         obtain⟨r0,r1,r2,r3,r4⟩:=ce5 Q;have k1:=N.size;clear a0 b2 c bR d b8 Q hj hjl;have g7:Hid (∀ ad,(some ⟨wr.heap.size,0,none⟩:Option Addr)=some ad->∀ j u,([int i64 b.name,.string b.own,int i64 b.pe,int i64 (zas l.st b.who l.stn),int i64 (QA l.ro b.who l.ron)]:List Value)[j]?=some u->(wr.alloc (.cells #[int i64 b.name,.string b.own,int i64 b.pe,int i64 (zas l.st b.who l.stn),int i64 (QA l.ro b.who l.ron)] 203)).cell? (ad.add j)=some u):=by
          intro ad e
          cases e
          exact World.news_of_block (heap_alloc_new wr _)
         go_wp2_with (first|(at_builtin;refine zv _ (by rfl) (.tmp 79) (.tmp 81) 39 (by rfl) wc.heap.size 203 j0 (.agg #[int i64 0,.string ⟨#[]⟩,int i64 0,int i64 0,int i64 0]) 5 48 Tryz.underlying39 ji j2 j3 j4 rfl (by decide) _ r (qW (zeM (Qn l x.bk z i)) r) (by rfl) (a7.alloc _) (some ⟨wr.heap.size,0,none⟩) 1 1 [int i64 b.name,.string b.own,int i64 b.pe,int i64 (zas l.st b.who l.stn),int i64 (QA l.ro b.who l.ron)] (by rfl) (fun h=>(by cases h)) (by rfl) g7.out (by intro u hu;simp at hu;rcases hu with rfl|rfl|rfl|rfl|rfl <;> rfl) (by unfold maxLen;omega) (by omega) (by simp;omega) ?_;intro v' w3 j1 i8))
         go_roundw
         case rel =>
          refine⟨i+1,r+1,by omega,by go_num,?_,?_,(zk N _).grown i8 (by simp;omega) (fun j hj=>(a7.lt j hj).1)⟩
          ·rw[zeL e4.out,List.length_append,← W.out];rfl
          ·have e:=zkP (Qn l x.bk z i) (zhD l (x.bk i))
           rw[← W.out] at e;rw[zeL e4.out,e,← a8.out];exact j1
         case measure=>simp[intOf];omega
  ·obtain rfl:i=x.bkn:=by omega
   go_wp2;go_ret;exact⟨⟨_,rfl,by rw[← W.out];exact zu a5 a2.size⟩,c⟩
theorem l7End_9 (g base N R l i o j:Nat)(f d m t:Option Addr)(d1:Int)(y:OpD)(x:Off)(L C A B D E:Nat->Value)(w:World)(hq:w.heap[g]?=some (.cells #[.slice f N l,.slice d N i,.slice m R o] 38 (0,0)))(ho:zF w base (.slice f N l) (.slice d N i) (.slice m R o) N N R x L C A B D E)(b4:x.bkn=R)(a8:base<=w.heap.size)(J:y.kind=9)(d4:In y.pe 0 20)(f0:y.lgn<=3)(K:zT w t y.lgn y.lg)(b3:qj t y.lgn j)(b2:0<y.lgn->∀ a,t=some a->a.block<base)(k:Nat)(b1:0<y.lgn)(I:zW x.sa (y.lg 0) N=k)(b0:k<N)(hs:Off.Short x 1048576)(b6:x.san=N)(b5:x.ldn=N)(a0:x.bkn<=30) :
  Calls Tryz.prog 93 #[.pointer (some ⟨g,0,none⟩),int i64 d1,.agg #[int i64 y.kind,.string y.own,int i64 y.name,.slice t y.lgn j,int i64 y.pe,int i64 y.len,int i64 y.hei,int i64 y.cl,.bool y.all,int i64 y.be,int i64 y.unt,int i64 y.now]] w fun e w'=>zdm g base N l i f d (fun _=>False) x 0 0 0 (fun z v=>z.ownsRow w.heap.size 203 5 v (Qn (x.ld k) x.bk (y.lg 0) x.bkn).length (qW (zeM (Qn (x.ld k) x.bk (y.lg 0) x.bkn)) (Qn (x.ld k) x.bk (y.lg 0) x.bkn).length)) L C A B D w e w':=by
 have c9:Hid (zW x.sa (y.lg 0) N=k/\k<N/\Off.Short x 1048576/\x.san=N/\x.ldn=N/\x.bkn<=30/\0<y.lgn):=⟨I,b0,hs,b6,b5,a0,b1⟩;clear I b0 hs b6 b5 a0;rw[J];obtain⟨q,lo,rfl,a9⟩:=K 0 b1;have HO:=hI ho;have Y:=hI hq;have d6:=hI J;have s:=hI b4;have d5:=hI a8;have d7:=hI K;have e4:=hI b3;have d8:=hI b2;clear ho hq J b4 a8 K b3 b2;obtain⟨pr,M⟩:∃ pr,pr=zE ⟨y.pe,y.len,y.hei,y.cl,y.all,y.be⟩ (y.lgn:Int):=⟨_,rfl⟩;have d9:=hI M;have b:Below w.heap.size w ((w.alloc (.cells #[int i64 9,.string y.own,int i64 y.name,.slice (some (⟨q,lo,none⟩:Addr)) y.lgn j,int i64 y.pe,int i64 y.len,int i64 y.hei,int i64 y.cl,.bool y.all,int i64 y.be,int i64 y.unt,int i64 y.now] 47)).alloc (.cells #[int i64 0,int i64 0,int i64 0,.slice none 0 0] 41)):=zk (zk bZ _) _;have bO:=zd (heap_alloc_new w (.cells #[int i64 9,.string y.own,int i64 y.name,.slice (some (⟨q,lo,none⟩:Addr)) y.lgn j,int i64 y.pe,int i64 y.len,int i64 y.hei,int i64 y.cl,.bool y.all,int i64 y.be,int i64 y.unt,int i64 y.now] 47)) (.cells #[int i64 0,int i64 0,int i64 0,.slice none 0 0] 41);have P:=zfT w (.cells #[int i64 9,.string y.own,int i64 y.name,.slice (some (⟨q,lo,none⟩:Addr)) y.lgn j,int i64 y.pe,int i64 y.len,int i64 y.hei,int i64 y.cl,.bool y.all,int i64 y.be,int i64 y.unt,int i64 y.now] 47) (.cells #[int i64 0,int i64 0,int i64 0,.slice none 0 0] 41);go_enter Tryz.func93,Tryz.ntmps93;go_wp2_with fail;generalize ((w.alloc (.cells #[int i64 9,.string y.own,int i64 y.name,.slice (some (⟨q,lo,none⟩:Addr)) y.lgn j,int i64 y.pe,int i64 y.len,int i64 y.hei,int i64 y.cl,.bool y.all,int i64 y.be,int i64 y.unt,int i64 y.now] 47)).alloc (.cells #[int i64 0,int i64 0,int i64 0,.slice none 0 0] 41))=W at b bO P ⊢;refine(Zy y.pe y.len y.hei y.cl y.all y.be (y.lgn:Int) _ d4 (by unfold In;omega)).mono ?_
 rintro e V ⟨rfl,F⟩;rw[← M];clear M;replace b:=ze b F;replace bO:=zb bO F;replace P:=zb P F;clear F W;have o0:=za bO 0 _ rfl;have e9:g<w.heap.size:=zM Y.out;have d3:q<w.heap.size:=World.block_lt_of_cell? w _ a9;have i5:(0:Int)<(y.lgn:Int):=by omega
 have KS:Hid (∀ z,Below V.heap.size V z->z.cell? ⟨g,0,none⟩=some (.slice f N l)/\z.cell? ⟨g,1,none⟩=some (.slice d N i)/\z.cell? ⟨g,2,none⟩=some (.slice m R o)/\z.cell? ⟨w.heap.size,3,none⟩=some (.slice (some ⟨q,lo,none⟩) y.lgn j)/\z.cell? ⟨q,lo,none⟩=some (int i64 (y.lg 0))):=fun z h=>⟨za (zb Y.out (ze b h)) 0 _ rfl,za (zb Y.out (ze b h)) 1 _ rfl,za (zb Y.out (ze b h)) 2 _ rfl,za (zb bO h) 3 _ rfl,((ze b h).cell (p:=⟨q,lo,none⟩) d3).trans a9⟩
 have KT:Hid (∀ z,Below V.heap.size V z->∀ c0 c1 c2 c3 O,O=(((z.setCell ⟨w.heap.size+1,0,none⟩ c0).setCell ⟨w.heap.size+1,1,none⟩ c1).setCell ⟨w.heap.size+1,2,none⟩ c2).setCell ⟨w.heap.size+1,3,none⟩ c3->O.cell? ⟨g,0,none⟩=some (.slice f N l)/\O.cell? ⟨g,1,none⟩=some (.slice d N i)/\O.cell? ⟨g,2,none⟩=some (.slice m R o)/\O.cell? ⟨w.heap.size,3,none⟩=some (.slice (some ⟨q,lo,none⟩) y.lgn j)/\O.cell? ⟨q,lo,none⟩=some (int i64 (y.lg 0))):=fun z h c0 c1 c2 c3 O e=>by
  subst e;obtain⟨a1,a2,a3,a4,a5⟩:=KS.out z h;have I:=zaU z (w.heap.size+1) c0 c1 c2 c3;exact⟨QV I a1 (by show ¬ _=_;dsimp only;omega),QV I a2 (by show ¬ _=_;dsimp only;omega),QV I a3 (by show ¬ _=_;dsimp only;omega),QV I a4 (by show ¬ _=_;dsimp only;omega),QV I a5 (by show ¬ _=_;dsimp only;omega)⟩
 have b7:Hid (∀ Z,Below V.heap.size V Z->Calls Tryz.prog 170 #[.agg #[.slice f N l,.slice d N i,.slice m R o],int i64 (y.lg 0)] Z fun e w5=>(∃ G n H,e=.returned (.slice G n H)/\Hid (w5.ownsRow w.heap.size 203 5 (.slice G n H) (Qn (x.ld k) x.bk (y.lg 0) x.bkn).length (qW (zeM (Qn (x.ld k) x.bk (y.lg 0) x.bkn)) (Qn (x.ld k) x.bk (y.lg 0) x.bkn).length)))/\Below V.heap.size V w5):=fun Z hZ=>by
  have hh:=(HO.out.below (ze b hZ));obtain⟨q1,q2,q3,q4,q5,q6,_⟩:=c9.out;have e1:Calls Tryz.prog 170 #[.agg #[.slice f x.san l,.slice d x.ldn i,.slice m x.bkn o],int i64 (y.lg 0)] Z _:=zkW x f d m l i o k (y.lg 0) Z q3 (by rw[q4];exact hh.sa.at) (by rw[q5];exact hh.ld.at) (by rw[s.out];exact hh.bk.at) q6 (by rw[q4];exact q1) (by rw[q4];exact q2) (by rw[q4,q5])
  rw[q4,q5,s.out] at e1;refine e1.mono ?_;rintro e w5 ⟨⟨u,rfl,o1⟩,d2⟩;rw[s.out];obtain⟨G,H,rfl,_⟩:=zp o1;exact⟨⟨G,_,H,rfl,zu o1 (Nat.le_trans b.size hZ.size)⟩,ze hZ d2⟩
 obtain⟨v0,v1,v2,v3⟩:=ce4 P;obtain⟨e0,e1,e2,e3⟩:=fe4 P;go_upto_region 6 with fail;go_region_held3 (fun w'=>w'.cell? ⟨g,0,none⟩=some (.slice f N l)/\w'.cell? ⟨g,1,none⟩=some (.slice d N i)/\w'.cell? ⟨g,2,none⟩=some (.slice m R o)/\w'.cell? ⟨w.heap.size,3,none⟩=some (.slice (some ⟨q,lo,none⟩) y.lgn j)/\w'.cell? ⟨q,lo,none⟩=some (int i64 (y.lg 0)))
  (first|(with_reducible exact KT.out _ r.out _ _ _ _ _ rfl)|(refine KS.out _ ?_;repeat(first|exact r.out|exact bZ|refine Below.drew ?_|refine zk ?_ _)))
  (first
   | (go_simp;go_at_call 170;(with_reducible refine Calls.mono (b7.out _ ?_) ?_);(focus(repeat(first | exact bZ | refine Below.drew ?_ | refine zk ?_ _)));rintro e u2 ⟨⟨G,n,H,rfl,X⟩,a7⟩;have r:=hI a7;have c:=zb P a7;have f1:=za c 0 _ rfl;have e5:=zg c 0;have f2:=za c 1 _ rfl;have e6:=zg c 1;have f3:=za c 2 _ rfl;have e7:=zg c 2;have f4:=za c 3 _ rfl;have e8:=zg c 3;dsimp only))
 obtain⟨U,a6,S,bF⟩:=zbC (T:=(fun _=>False)) (zx.of_below (ze b r.out)) (HO.out.below (ze b r.out)) (zb Y.out (ze b r.out)) c (by omega) (int i64 0) (int i64 0) (int i64 0) (.slice G n H) rfl
 have d0:Hid _:=(zaU u2 (w.heap.size+1) (int i64 0) (int i64 0) (int i64 0) (.slice G n H)).own X.out (zQ X.out c (by decide))
 have Q:Hid _:=U;have b9:Hid _:=a6;have b8:Hid _:=S;clear U a6 S;go_wp2;obtain⟨x0,x1,x2,x3⟩:=ce4 bF;refine bodyPost_ret (v:=.agg #[int i64 0,int i64 0,int i64 0,.slice G n H]) (by simp[results,Tryz.results93,go_sem,x0,x1,x2,x3]) rfl ?_
 have hR:=s.out;subst hR;exact⟨_,_,_,_,rfl,d0.out,Q.out,b9.out,b8.out⟩
theorem l7End_2 (g base N R Z Y s G:Nat)(X U q o:Option Addr)(c:Int)(y:OpD)(x:Off)(L C A B D E:Nat->Value)(w:World)(hq:w.heap[g]?=some (.cells #[.slice X N Z,.slice U N Y,.slice q R s] 38 (0,0)))(ho:zF w base (.slice X N Z) (.slice U N Y) (.slice q R s) N N R x L C A B D E)(h6:x.bkn=R)(O:base<=w.heap.size)(f1:y.kind=2)(i9:In y.pe 0 20)(k5:y.lgn<=3)(g9:zT w o y.lgn y.lg)(h5:qj o y.lgn G)(h0:0<y.lgn->∀ a,o=some a->a.block<base)(hR:R<30) :
  Calls Tryz.prog 93 #[.pointer (some ⟨g,0,none⟩),int i64 c,.agg #[int i64 y.kind,.string y.own,int i64 y.name,.slice o y.lgn G,int i64 y.pe,int i64 y.len,int i64 y.hei,int i64 y.cl,.bool y.all,int i64 y.be,int i64 y.unt,int i64 y.now]] w fun e w'=>zdm g base N Z Y X U (fun b=>b=g∨(Value.slice q R s).ownBlock=some b) { x with bkn:=R+1,bk:=zah x.bk R (Qf R c y) } 0 ((R:Int)+1) (zE ⟨y.pe,y.len,y.hei,y.cl,y.all,y.be⟩ (y.lgn:Int)) (fun _ v=>v=.slice none 0 0) L C A B D w e w':=by
 obtain⟨n0,ni,f3,f4,f5⟩:=info_parts Tryz.infoInt;obtain⟨r0,ri,j2,j3,j4⟩:=info_parts Tryz.infoBookingO;rw[f1];have HO:=hI ho;have HQ:=hI hq;have h7:=hI f1;have j9:=hI h6;have f6:=hI O;have i0:=hI g9;have b5:=hI h5;have j8:=hI h0;clear ho hq f1 h6 O g9 h5 h0;obtain⟨f,f2⟩:∃ f,f=zE ⟨y.pe,y.len,y.hei,y.cl,y.all,y.be⟩ (y.lgn:Int):=⟨_,rfl⟩;have g5:=hI f2;have H:Below w.heap.size w ((w.alloc (.cells #[int i64 2,.string y.own,int i64 y.name,.slice o y.lgn G,int i64 y.pe,int i64 y.len,int i64 y.hei,int i64 y.cl,.bool y.all,int i64 y.be,int i64 y.unt,int i64 y.now] 47)).alloc (.cells #[int i64 0,int i64 0,int i64 0,.slice none 0 0] 41)):=zk (zk bZ _) _;have bO:=zd (heap_alloc_new w (.cells #[int i64 2,.string y.own,int i64 y.name,.slice o y.lgn G,int i64 y.pe,int i64 y.len,int i64 y.hei,int i64 y.cl,.bool y.all,int i64 y.be,int i64 y.unt,int i64 y.now] 47)) (.cells #[int i64 0,int i64 0,int i64 0,.slice none 0 0] 41);have bA:=zfT w (.cells #[int i64 2,.string y.own,int i64 y.name,.slice o y.lgn G,int i64 y.pe,int i64 y.len,int i64 y.hei,int i64 y.cl,.bool y.all,int i64 y.be,int i64 y.unt,int i64 y.now] 47) (.cells #[int i64 0,int i64 0,int i64 0,.slice none 0 0] 41);go_enter Tryz.func93,Tryz.ntmps93;go_wp2_with fail;generalize ((w.alloc (.cells #[int i64 2,.string y.own,int i64 y.name,.slice o y.lgn G,int i64 y.pe,int i64 y.len,int i64 y.hei,int i64 y.cl,.bool y.all,int i64 y.be,int i64 y.unt,int i64 y.now] 47)).alloc (.cells #[int i64 0,int i64 0,int i64 0,.slice none 0 0] 41))=W at H bO bA ⊢;refine(Zy y.pe y.len y.hei y.cl y.all y.be (y.lgn:Int) _ i9 (by unfold In;omega)).mono ?_
 rintro e V ⟨rfl,b1⟩;rw[← f2];clear f2;replace H:=ze H b1;replace bO:=zb bO b1;replace bA:=zb bA b1;clear b1 W;have o0:=za bO 0 _ rfl;have k0:((R:Int) == 30)=false:=by simp;omega
 have k1:(R == 30)=false:=by simp;omega
 have k6:IntKind.i64.wrap ((R:Int)+1)=(R:Int)+1:=by rw[IntKind.wrap_i64];omega
 have zq:=za (zb HQ.out H) 2 _ rfl;have b4:Hid (∀ z,Below V.heap.size V z->zT z o y.lgn y.lg):=fun z h=>i0.out.below (ze H h)
 have KS:Hid (∀ z,Below V.heap.size V z->z.cell? ⟨g,2,none⟩=some (.slice q R s)/\z.cell? ⟨w.heap.size,1,none⟩=some (.string y.own)/\z.cell? ⟨w.heap.size,3,none⟩=some (.slice o y.lgn G)/\z.cell? ⟨w.heap.size,4,none⟩=some (int i64 y.pe)/\z.cell? ⟨w.heap.size,5,none⟩=some (int i64 y.len)/\z.cell? ⟨w.heap.size,6,none⟩=some (int i64 y.hei)/\z.cell? ⟨w.heap.size,7,none⟩=some (int i64 y.cl)/\z.cell? ⟨w.heap.size,8,none⟩=some (.bool y.all)/\z.cell? ⟨w.heap.size,9,none⟩=some (int i64 y.be)):=fun z h=>⟨za (zb HQ.out (ze H h)) 2 _ rfl,za (zb bO h) 1 _ rfl,za (zb bO h) 3 _ rfl,za (zb bO h) 4 _ rfl,za (zb bO h) 5 _ rfl,za (zb bO h) 6 _ rfl,za (zb bO h) 7 _ rfl,za (zb bO h) 8 _ rfl,za (zb bO h) 9 _ rfl⟩
 go_upto_region 11 with fail;refine qg 18 19 (fun w'=>w'.cell? ⟨g,2,none⟩=some (.slice q R s)/\w'.cell? ⟨w.heap.size,1,none⟩=some (.string y.own)/\w'.cell? ⟨w.heap.size,3,none⟩=some (.slice o y.lgn G)/\w'.cell? ⟨w.heap.size,4,none⟩=some (int i64 y.pe)/\w'.cell? ⟨w.heap.size,5,none⟩=some (int i64 y.len)/\w'.cell? ⟨w.heap.size,6,none⟩=some (int i64 y.hei)/\w'.cell? ⟨w.heap.size,7,none⟩=some (int i64 y.cl)/\w'.cell? ⟨w.heap.size,8,none⟩=some (.bool y.all)/\w'.cell? ⟨w.heap.size,9,none⟩=some (int i64 y.be)) rfl (by kernel_rfl) (KS.out _ (Below.drew bZ)) (fun hS=>?_)
 simp only[List.replicate_succ,List.replicate_zero]
 (refine tkL 0 (v:=?_) rfl (by kernel_rfl) (fun _ _ _ h=>h) rfl (by assumption) ?_ ?_;rotate_left;(focus(intro w' h;(try dsimp only at h);go_simp;try with_reducible rfl));simp only[Act.put,sB,sZ,sS])
 (refine tkL 1 (v:=?_) rfl (by kernel_rfl) (fun _ _ _ h=>h) rfl (by assumption) ?_ ?_;rotate_left;(focus(intro w' h;(try dsimp only at h);go_simp;try with_reducible rfl));simp only[Act.put,sB,sZ,sS])
 (refine tkL 2 (v:=?_) rfl (by kernel_rfl) (fun _ _ _ h=>h) rfl (by assumption) ?_ ?_;rotate_left;(focus(intro w' h;(try dsimp only at h);go_simp;try with_reducible rfl));simp only[Act.put,sB,sZ,sS])
 (refine tkL 3 (v:=?_) rfl (by kernel_rfl) (fun _ _ _ h=>h) rfl (by assumption) ?_ ?_;rotate_left;(focus(intro w' h;(try dsimp only at h);go_simp;try with_reducible rfl));simp only[Act.put,sB,sZ,sS])
 (refine tkL 4 (v:=?_) rfl (by kernel_rfl) (fun _ _ _ h=>h) rfl (by assumption) ?_ ?_;rotate_left;(focus(intro w' h;(try dsimp only at h);go_simp;try with_reducible rfl));simp only[Act.put,sB,sZ,sS])
 (refine tkL 5 (v:=?_) rfl (by kernel_rfl) (fun _ _ _ h=>h) rfl (by assumption) ?_ ?_;rotate_left;(focus(intro w' h;(try dsimp only at h);go_simp;try with_reducible rfl));simp only[Act.put,sB,sZ,sS])
 (refine tkL 6 (v:=?_) rfl (by kernel_rfl) (fun _ _ _ h=>h) rfl (by assumption) ?_ ?_;rotate_left;(focus(intro w' h;(try dsimp only at h);go_simp;try with_reducible rfl));simp only[Act.put,sB,sZ,sS])
 (refine tkL 7 (v:=?_) rfl (by kernel_rfl) (fun _ _ _ h=>h) rfl (by assumption) ?_ ?_;rotate_left;(focus(intro w' h;(try dsimp only at h);go_simp;try with_reducible rfl));simp only[Act.put,sB,sZ,sS])
 (refine tkL 8 (v:=?_) rfl (by kernel_rfl) (fun _ _ _ h=>h) rfl (by assumption) ?_ ?_;rotate_left;(focus(intro w' h;(try dsimp only at h);go_simp;try with_reducible rfl));simp only[Act.put,sB,sZ,sS])
 (refine tkL 10 (v:=?_) rfl (by kernel_rfl) (fun _ _ _ h=>h) rfl (by assumption) ?_ ?_;rotate_left;(focus(intro w' h;(try dsimp only at h);go_simp;try with_reducible rfl));simp only[Act.put,sB,sZ,sS])
 (refine tkL 11 (v:=?_) rfl (by kernel_rfl) (fun _ _ _ h=>h) rfl (by assumption) ?_ ?_;rotate_left;(focus(intro w' h;(try dsimp only at h);go_simp;try with_reducible rfl));simp only[Act.put,sB,sZ,sS])
 (refine tkL 13 (v:=?_) rfl (by kernel_rfl) (fun _ _ _ h=>h) rfl (by assumption) ?_ ?_;rotate_left;(focus(intro w' h;(try dsimp only at h);go_simp;try with_reducible rfl));simp only[Act.put,sB,sZ,sS])
 (refine tkL 14 (v:=?_) rfl (by kernel_rfl) (fun _ _ _ h=>h) rfl (by assumption) ?_ ?_;rotate_left;(focus(intro w' h;(try dsimp only at h);go_simp;try with_reducible rfl));simp only[Act.put,sB,sZ,sS])
 (refine tkL 15 (v:=?_) rfl (by kernel_rfl) (fun _ _ _ h=>h) rfl (by assumption) ?_ ?_;rotate_left;(focus(intro w' h;(try dsimp only at h);go_simp;try with_reducible rfl));simp only[Act.put,sB,sZ,sS])
 refine zj (rs:=[9,17]) (by kernel_rfl) (by simp) ?_
 refine zc.consL rfl (fun K d=>?_) (zc.consL rfl (fun K d=>?_) zc.nil)
 focus
  go_simp;refine d.out _ _ (KS.out _ (by repeat(first|with_reducible exact k.out|with_reducible exact bZ|with_reducible refine Below.drew ?_|with_reducible refine zk ?_ _))) (fun hS=>?_)
  clear d K;simp only[sZ,sS];refine zj (rs:=[12,17]) (by kernel_rfl) (by simp) ?_
  refine zc.consL rfl (fun K d=>?_) (zc.consL rfl (fun K d=>?_) zc.nil)
  focus
   refine zP (by rfl) (.tmp 53) (.tmp 55) 27 (by rfl) 3 n0 (int i64 0) 1 8 Tryz.underlying27 ni f3 f4 f5 rfl (by decide) V.heap.size _ (by rfl) (by first|exact Nat.le_refl _|omega|(simp;done)|(simp;omega)) (by repeat(first|((with_reducible refine Qa _ _ _ ?_);(first|with_reducible rfl|(simp;done)))|with_reducible refine zK ?_|with_reducible refine zd ?_ _)) o y.lgn G (zS y.lg y.lgn) (by rfl) b5.out.2.2 (by rw[Zn,Nat.mul_one]) (QY (b4.out _ (by repeat(first|exact bZ|refine Below.drew ?_|refine zk ?_ _)))) (Qd _ _) (by unfold maxLen;omega) (by omega) ?_;intro m n u1 S T Q;clear Q;have k:Hid (Below V.heap.size V u1):=(by show Below _ _ _;refine ze ?_ (zr S);exact(by repeat(first|exact bZ|refine Below.drew ?_|refine zk ?_ _)));refine d.out _ _ (KS.out _ k.out) (fun hS=>?_)
   clear d K;simp only[Act.put,sB,sZ,sS]
   (refine tkL 16 (v:=?_) rfl (by kernel_rfl) (fun _ _ _ h=>h) rfl (by assumption) ?_ ?_;rotate_left;(focus(intro w' h;(try dsimp only at h);go_simp;try with_reducible rfl));simp only[Act.put,sB,sZ,sS])
   refine zj (rs:=[17]) (by kernel_rfl) (by simp) ?_
   refine zc.consL rfl (fun K d=>?_) zc.nil
   focus
    go_simp;refine d.out _ _ (KS.out _ (by repeat(first|with_reducible exact k.out|with_reducible exact bZ|with_reducible refine Below.drew ?_|with_reducible refine zk ?_ _))) (fun hS=>?_)
    clear d K;simp only[sZ,sS];refine zj (rs:=[18]) (by kernel_rfl) (by simp) ?_
    refine zc.lastL rfl (fun K d=>?_)
    go_simp;refine d.out _ _ ?_;clear d K;refine zX (by kernel_rfl) ?_ _
    have l:=heap_alloc_new u1 (.cells #[int i64 ((R:Int)+1),int i64 c,.string y.own,.slice m y.lgn n,int i64 y.pe,int i64 y.len,int i64 y.hei,int i64 y.cl,.bool y.all,int i64 y.be,int i64 2,int i64 0,int i64 f] 150);have J:=zk k.out (.cells #[int i64 ((R:Int)+1),int i64 c,.string y.own,.slice m y.lgn n,int i64 y.pe,int i64 y.len,int i64 y.hei,int i64 y.cl,.bool y.all,int i64 y.be,int i64 2,int i64 0,int i64 f] 150);have P:Hid _:=zo (zk bZ (.cells #[int i64 ((R:Int)+1),int i64 c,.string y.own,.slice m y.lgn n,int i64 y.pe,int i64 y.len,int i64 y.hei,int i64 y.cl,.bool y.all,int i64 y.be,int i64 2,int i64 0,int i64 f] 150)) T;generalize u1.alloc (.cells #[int i64 ((R:Int)+1),int i64 c,.string y.own,.slice m y.lgn n,int i64 y.pe,int i64 y.len,int i64 y.hei,int i64 y.cl,.bool y.all,int i64 y.be,int i64 2,int i64 0,int i64 f] 150)=F at l J P ⊢;have M:V.heap.size<=u1.heap.size:=k.out.size;generalize u1.heap.size=bb at l M ⊢
  rotate_left 1
  focus
   go_simp;refine d.out _ _ (KS.out _ (by repeat(first|with_reducible exact k.out|with_reducible exact bZ|with_reducible refine Below.drew ?_|with_reducible refine zk ?_ _))) (fun hS=>?_)
   clear d K;simp only[sZ,sS];refine zj (rs:=[12]) (by kernel_rfl) (by simp) ?_
   refine zc.consL rfl (fun K d=>?_) zc.nil
   focus
    refine zP (by rfl) (.tmp 53) (.tmp 55) 27 (by rfl) 3 n0 (int i64 0) 1 8 Tryz.underlying27 ni f3 f4 f5 rfl (by decide) V.heap.size _ (by rfl) (by first|exact Nat.le_refl _|omega|(simp;done)|(simp;omega)) (by repeat(first|((with_reducible refine Qa _ _ _ ?_);(first|with_reducible rfl|(simp;done)))|with_reducible refine zK ?_|with_reducible refine zd ?_ _)) o y.lgn G (zS y.lg y.lgn) (by rfl) b5.out.2.2 (by rw[Zn,Nat.mul_one]) (QY (b4.out _ (by repeat(first|exact bZ|refine Below.drew ?_|refine zk ?_ _)))) (Qd _ _) (by unfold maxLen;omega) (by omega) ?_;intro m n u1 S T Q;clear Q;have k:Hid (Below V.heap.size V u1):=(by show Below _ _ _;refine ze ?_ (zr S);exact(by repeat(first|exact bZ|refine Below.drew ?_|refine zk ?_ _)));refine d.out _ _ (KS.out _ k.out) (fun hS=>?_)
    clear d K;simp only[Act.put,sB,sZ,sS]
    (refine tkL 16 (v:=?_) rfl (by kernel_rfl) (fun _ _ _ h=>h) rfl (by assumption) ?_ ?_;rotate_left;(focus(intro w' h;(try dsimp only at h);go_simp;try with_reducible rfl));simp only[Act.put,sB,sZ,sS])
    have I:u1.heap[V.heap.size+1]?=some (.cells #[int i64 0,int i64 0,.string ⟨#[]⟩,.slice none 0 0,int i64 0,int i64 0,int i64 0,int i64 0,.bool false,int i64 0,int i64 0,int i64 0,int i64 0] 150 (0,0)):=zb (by repeat(first|((with_reducible refine Qa _ _ _ ?_);(first|with_reducible rfl|(simp;done)))|with_reducible refine zK ?_|with_reducible refine zd ?_ _)) (zr S)
    obtain⟨d7,d8,d9,e4,e5,e6,e7,e8,e9,f0,a4,a5,a6⟩:=zeX I;obtain⟨b8,b9,c9,d0,d1,d2,d3,d4,d5,d6,a1,a2,a3⟩:=fe13 I;refine zj (rs:=[18]) (by kernel_rfl) (by simp) ?_
    refine zc.lastL rfl (fun K d=>?_)
    go_simp;refine d.out _ _ ?_;clear d K;refine zX (by kernel_rfl) ?_ _
    have l:=zev I (int i64 ((R:Int)+1)) (int i64 c) (.string y.own) (.slice m y.lgn n) (int i64 y.pe) (int i64 y.len) (int i64 y.hei) (int i64 y.cl) (.bool y.all) (int i64 y.be) (int i64 2) (int i64 0) (int i64 f);have J:=zew k.out (b:=V.heap.size+1) (by omega) (int i64 ((R:Int)+1)) (int i64 c) (.string y.own) (.slice m y.lgn n) (int i64 y.pe) (int i64 y.len) (int i64 y.hei) (int i64 y.cl) (.bool y.all) (int i64 y.be) (int i64 2) (int i64 0) (int i64 f)
    have P:Hid _:=(zdl u1 (V.heap.size+1) (int i64 ((R:Int)+1)) (int i64 c) (.string y.own) (.slice m y.lgn n) (int i64 y.pe) (int i64 y.len) (int i64 y.hei) (int i64 y.cl) (.bool y.all) (int i64 y.be) (int i64 2) (int i64 0) (int i64 f)).own T (zQ T I (by decide))
    clear I d7 b8 d8 b9 d9 c9 e4 d0 e5 d1 e6 d2 e7 d3 e8 d4 e9 d5 f0 d6 a4 a1 a5 a2 a6 a3;generalize (((((((((((((u1.setCell ⟨V.heap.size+1,0,none⟩ (int i64 ((R:Int)+1))).setCell ⟨V.heap.size+1,1,none⟩ (int i64 c)).setCell ⟨V.heap.size+1,2,none⟩ (.string y.own)).setCell ⟨V.heap.size+1,3,none⟩ (.slice m y.lgn n)).setCell ⟨V.heap.size+1,4,none⟩ (int i64 y.pe)).setCell ⟨V.heap.size+1,5,none⟩ (int i64 y.len)).setCell ⟨V.heap.size+1,6,none⟩ (int i64 y.hei)).setCell ⟨V.heap.size+1,7,none⟩ (int i64 y.cl)).setCell ⟨V.heap.size+1,8,none⟩ (.bool y.all)).setCell ⟨V.heap.size+1,9,none⟩ (int i64 y.be)).setCell ⟨V.heap.size+1,10,none⟩ (int i64 2)).setCell ⟨V.heap.size+1,11,none⟩ (int i64 0)).setCell ⟨V.heap.size+1,12,none⟩ (int i64 f))=F at l J P ⊢;have M:V.heap.size<=V.heap.size+1:=(by omega)
    generalize V.heap.size+1=bb at l M ⊢
 rotate_left 2
 focus
  go_simp;refine d.out _ _ (KS.out _ (by repeat(first|with_reducible exact k.out|with_reducible exact bZ|with_reducible refine Below.drew ?_|with_reducible refine zk ?_ _))) (fun hS=>?_)
  clear d K;simp only[sZ,sS];refine zj (rs:=[9]) (by kernel_rfl) (by simp) ?_
  refine zc.consL rfl (fun K d=>?_) zc.nil
  focus
   go_simp;refine d.out _ _ (KS.out _ (by repeat(first|with_reducible exact k.out|with_reducible exact bZ|with_reducible refine Below.drew ?_|with_reducible refine zk ?_ _))) (fun hS=>?_)
   clear d K;simp only[sZ,sS];refine zj (rs:=[12]) (by kernel_rfl) (by simp) ?_
   refine zc.consL rfl (fun K d=>?_) zc.nil
   focus
    refine zP (by rfl) (.tmp 53) (.tmp 55) 27 (by rfl) 3 n0 (int i64 0) 1 8 Tryz.underlying27 ni f3 f4 f5 rfl (by decide) V.heap.size _ (by rfl) (by first|exact Nat.le_refl _|omega|(simp;done)|(simp;omega)) (by repeat(first|((with_reducible refine Qa _ _ _ ?_);(first|with_reducible rfl|(simp;done)))|with_reducible refine zK ?_|with_reducible refine zd ?_ _)) o y.lgn G (zS y.lg y.lgn) (by rfl) b5.out.2.2 (by rw[Zn,Nat.mul_one]) (QY (b4.out _ (by repeat(first|exact bZ|refine Below.drew ?_|refine zk ?_ _)))) (Qd _ _) (by unfold maxLen;omega) (by omega) ?_;intro m n u1 S T Q;clear Q;have k:Hid (Below V.heap.size V u1):=(by show Below _ _ _;refine ze ?_ (zr S);exact(by repeat(first|exact bZ|refine Below.drew ?_|refine zk ?_ _)));refine d.out _ _ (KS.out _ k.out) (fun hS=>?_)
    clear d K;simp only[Act.put,sB,sZ,sS]
    (refine tkL 16 (v:=?_) rfl (by kernel_rfl) (fun _ _ _ h=>h) rfl (by assumption) ?_ ?_;rotate_left;(focus(intro w' h;(try dsimp only at h);go_simp;try with_reducible rfl));simp only[Act.put,sB,sZ,sS])
    have I:u1.heap[V.heap.size]?=some (.cells #[int i64 0,int i64 0,.string ⟨#[]⟩,.slice none 0 0,int i64 0,int i64 0,int i64 0,int i64 0,.bool false,int i64 0,int i64 0,int i64 0,int i64 0] 150 (0,0)):=zb (by repeat(first|((with_reducible refine Qa _ _ _ ?_);(first|with_reducible rfl|(simp;done)))|with_reducible refine zK ?_|with_reducible refine zd ?_ _)) (zr S)
    obtain⟨d7,d8,d9,e4,e5,e6,e7,e8,e9,f0,a4,a5,a6⟩:=zeX I;obtain⟨b8,b9,c9,d0,d1,d2,d3,d4,d5,d6,a1,a2,a3⟩:=fe13 I;refine zj (rs:=[18]) (by kernel_rfl) (by simp) ?_
    refine zc.lastL rfl (fun K d=>?_)
    go_simp;refine d.out _ _ ?_;clear d K;refine zX (by kernel_rfl) ?_ _
    have l:=zev I (int i64 ((R:Int)+1)) (int i64 c) (.string y.own) (.slice m y.lgn n) (int i64 y.pe) (int i64 y.len) (int i64 y.hei) (int i64 y.cl) (.bool y.all) (int i64 y.be) (int i64 2) (int i64 0) (int i64 f);have J:=zew k.out (b:=V.heap.size) (by omega) (int i64 ((R:Int)+1)) (int i64 c) (.string y.own) (.slice m y.lgn n) (int i64 y.pe) (int i64 y.len) (int i64 y.hei) (int i64 y.cl) (.bool y.all) (int i64 y.be) (int i64 2) (int i64 0) (int i64 f)
    have P:Hid _:=(zdl u1 (V.heap.size) (int i64 ((R:Int)+1)) (int i64 c) (.string y.own) (.slice m y.lgn n) (int i64 y.pe) (int i64 y.len) (int i64 y.hei) (int i64 y.cl) (.bool y.all) (int i64 y.be) (int i64 2) (int i64 0) (int i64 f)).own T (zQ T I (by decide))
    clear I d7 b8 d8 b9 d9 c9 e4 d0 e5 d1 e6 d2 e7 d3 e8 d4 e9 d5 f0 d6 a4 a1 a5 a2 a6 a3;generalize (((((((((((((u1.setCell ⟨V.heap.size,0,none⟩ (int i64 ((R:Int)+1))).setCell ⟨V.heap.size,1,none⟩ (int i64 c)).setCell ⟨V.heap.size,2,none⟩ (.string y.own)).setCell ⟨V.heap.size,3,none⟩ (.slice m y.lgn n)).setCell ⟨V.heap.size,4,none⟩ (int i64 y.pe)).setCell ⟨V.heap.size,5,none⟩ (int i64 y.len)).setCell ⟨V.heap.size,6,none⟩ (int i64 y.hei)).setCell ⟨V.heap.size,7,none⟩ (int i64 y.cl)).setCell ⟨V.heap.size,8,none⟩ (.bool y.all)).setCell ⟨V.heap.size,9,none⟩ (int i64 y.be)).setCell ⟨V.heap.size,10,none⟩ (int i64 2)).setCell ⟨V.heap.size,11,none⟩ (int i64 0)).setCell ⟨V.heap.size,12,none⟩ (int i64 f))=F at l J P ⊢;obtain⟨bb,g8⟩:∃ bb,bb=V.heap.size:=⟨_,rfl⟩;rw[← g8] at l ⊢;have M:V.heap.size<=bb:=by omega
    clear g8
 all_goals
  clear hS S T k;have O:=ze H J;have a9:=zb bO J;have b7:=zb bA J;have o0:=za a9 0 _ rfl;have k2:w.heap.size+1<V.heap.size:=zM bA;have i5:=za l 10 _ rfl;have i6:=za l 11 _ rfl;have i7:=zg l 10;have i8:=zg l 11;have j0:∀ v,(F.setCell ⟨bb,10,none⟩ v).cell? ⟨w.heap.size,10,none⟩=some (int i64 y.unt):=fun v=>za (zD (b':=bb) a9 10 v (by omega)) 10 _ rfl
  go_upto_region 15 with fail;have a8:((F.setCell ⟨bb,10,none⟩ (int i64 1)).setCell ⟨bb,11,none⟩ (int i64 y.unt)).heap[bb]?=some (.cells #[int i64 ((R:Int)+1),int i64 c,.string y.own,.slice m y.lgn n,int i64 y.pe,int i64 y.len,int i64 y.hei,int i64 y.cl,.bool y.all,int i64 y.be,int i64 1,int i64 y.unt,int i64 f] 150 (0,0)):=by simpa using zm (zm l 10 (int i64 1)) 11 (int i64 y.unt)
  have b0:Below V.heap.size V ((F.setCell ⟨bb,10,none⟩ (int i64 1)).setCell ⟨bb,11,none⟩ (int i64 y.unt)):=Below.setCell (p:=⟨bb,11,none⟩) (Below.setCell (p:=⟨bb,10,none⟩) J M _) M _;have g6:Hid (((F.setCell ⟨bb,10,none⟩ (int i64 1)).setCell ⟨bb,11,none⟩ (int i64 y.unt)).ownsRow V.heap.size 3 1 (.slice m y.lgn n) y.lgn (zS y.lg y.lgn)):=(((zx.refl F (fun b=>b=bb)).set (a:=⟨bb,10,none⟩) rfl (int i64 1)).set (a:=⟨bb,11,none⟩) rfl (int i64 y.unt)).own P.out (zQ P.out l (by decide))
  generalize (F.setCell ⟨bb,10,none⟩ (int i64 1)).setCell ⟨bb,11,none⟩ (int i64 y.unt)=F2 at a8 b0 g6 ⊢;clear i5 i6 i7 i8 o0 j0;clear l J P O a9 b7 F;have O:=ze H b0;have a9:=zb bO b0;have b7:=zb bA b0;have qF:=zb HQ.out O;have k3:g<w.heap.size:=zM HQ.out;have b6:Hid (∀ z:World,z.heap[g]?=some (.cells #[.slice X N Z,.slice U N Y,.slice q R s] 38 (0,0))->z.heap[bb]?=some (.cells #[int i64 ((R:Int)+1),int i64 c,.string y.own,.slice m y.lgn n,int i64 y.pe,int i64 y.len,int i64 y.hei,int i64 y.cl,.bool y.all,int i64 y.be,int i64 1,int i64 y.unt,int i64 f] 150 (0,0))->z.cell? ⟨g,2,none⟩=some (.slice q R s)/\z.cell? ⟨bb,0,none⟩=some (int i64 ((R:Int)+1))/\z.cell? ⟨bb,1,none⟩=some (int i64 c)/\z.cell? ⟨bb,2,none⟩=some (.string y.own)/\z.cell? ⟨bb,3,none⟩=some (.slice m y.lgn n)/\z.cell? ⟨bb,4,none⟩=some (int i64 y.pe)/\z.cell? ⟨bb,5,none⟩=some (int i64 y.len)/\z.cell? ⟨bb,6,none⟩=some (int i64 y.hei)/\z.cell? ⟨bb,7,none⟩=some (int i64 y.cl)/\z.cell? ⟨bb,8,none⟩=some (.bool y.all)/\z.cell? ⟨bb,9,none⟩=some (int i64 y.be)/\z.cell? ⟨bb,10,none⟩=some (int i64 1)/\z.cell? ⟨bb,11,none⟩=some (int i64 y.unt)/\z.cell? ⟨bb,12,none⟩=some (int i64 f)):=fun z h1 h2=>⟨za h1 2 _ rfl,za h2 0 _ rfl,za h2 1 _ rfl,za h2 2 _ rfl,za h2 3 _ rfl,za h2 4 _ rfl,za h2 5 _ rfl,za h2 6 _ rfl,za h2 7 _ rfl,za h2 8 _ rfl,za h2 9 _ rfl,za h2 10 _ rfl,za h2 11 _ rfl,za h2 12 _ rfl⟩
  refine qg 10 11 (fun w'=>w'.cell? ⟨g,2,none⟩=some (.slice q R s)/\w'.cell? ⟨bb,0,none⟩=some (int i64 ((R:Int)+1))/\w'.cell? ⟨bb,1,none⟩=some (int i64 c)/\w'.cell? ⟨bb,2,none⟩=some (.string y.own)/\w'.cell? ⟨bb,3,none⟩=some (.slice m y.lgn n)/\w'.cell? ⟨bb,4,none⟩=some (int i64 y.pe)/\w'.cell? ⟨bb,5,none⟩=some (int i64 y.len)/\w'.cell? ⟨bb,6,none⟩=some (int i64 y.hei)/\w'.cell? ⟨bb,7,none⟩=some (int i64 y.cl)/\w'.cell? ⟨bb,8,none⟩=some (.bool y.all)/\w'.cell? ⟨bb,9,none⟩=some (int i64 y.be)/\w'.cell? ⟨bb,10,none⟩=some (int i64 1)/\w'.cell? ⟨bb,11,none⟩=some (int i64 y.unt)/\w'.cell? ⟨bb,12,none⟩=some (int i64 f)) rfl (by kernel_rfl) (b6.out _ qF a8) (fun hS=>?_)
  simp only[List.replicate_succ,List.replicate_zero]
  (refine tkL 0 (v:=?_) rfl (by kernel_rfl) (fun _ _ _ h=>h) rfl (by assumption) ?_ ?_;rotate_left;(focus(intro w' h;(try dsimp only at h);go_simp;try with_reducible rfl));simp only[Act.put,sB,sZ,sS])
  (refine tkL 1 (v:=?_) rfl (by kernel_rfl) (fun _ _ _ h=>h) rfl (by assumption) ?_ ?_;rotate_left;(focus(intro w' h;(try dsimp only at h);go_simp;try with_reducible rfl));simp only[Act.put,sB,sZ,sS])
  (refine tkL 2 (v:=?_) rfl (by kernel_rfl) (fun _ _ _ h=>h) rfl (by assumption) ?_ ?_;rotate_left;(focus(intro w' h;(try dsimp only at h);go_simp;try with_reducible rfl));simp only[Act.put,sB,sZ,sS])
  (refine tkL 3 (v:=?_) rfl (by kernel_rfl) (fun _ _ _ h=>h) rfl (by assumption) ?_ ?_;rotate_left;(focus(intro w' h;(try dsimp only at h);go_simp;try with_reducible rfl));simp only[Act.put,sB,sZ,sS])
  (refine tkL 4 (v:=?_) rfl (by kernel_rfl) (fun _ _ _ h=>h) rfl (by assumption) ?_ ?_;rotate_left;(focus(intro w' h;(try dsimp only at h);go_simp;try with_reducible rfl));simp only[Act.put,sB,sZ,sS])
  (refine tkL 5 (v:=?_) rfl (by kernel_rfl) (fun _ _ _ h=>h) rfl (by assumption) ?_ ?_;rotate_left;(focus(intro w' h;(try dsimp only at h);go_simp;try with_reducible rfl));simp only[Act.put,sB,sZ,sS])
  refine zj (rs:=[6]) (by kernel_rfl) (by simp) ?_
  refine zc.consL rfl (fun K d=>?_) zc.nil
  refine zdk (by rfl) 36 150 1 #[(0,.tmp 73)] (by rfl) Tryz.underlying36 #[int i64 ((R:Int)+1),int i64 c,.string y.own,.slice m y.lgn n,int i64 y.pe,int i64 y.len,int i64 y.hei,int i64 y.cl,.bool y.all,int i64 y.be,int i64 1,int i64 y.unt,int i64 f] (Eq.trans (congrArg (Program.builtSlice Tryz.prog 150 1) (show _=[(0,Value.agg #[int i64 ((R:Int)+1),int i64 c,.string y.own,.slice m y.lgn n,int i64 y.pe,int i64 y.len,int i64 y.hei,int i64 y.cl,.bool y.all,int i64 y.be,int i64 1,int i64 y.unt,int i64 f])] from by first|(simp[go_sem];done)|rfl|kernel_rfl)) (zeO ((R:Int)+1) c y.pe y.len y.hei y.cl y.be 1 y.unt f y.own y.all m y.lgn n)) ?_
  refine d.out _ _ (b6.out _ (zd qF _) (zd a8 _)) (fun hS=>?_)
  clear d K;simp only[Act.put,sB,sZ,sS];have j7:F2.drew.heap.size=F2.heap.size:=rfl;refine zj (rs:=[7]) (by kernel_rfl) (by simp) ?_
  refine zc.consL rfl (fun K d=>?_) zc.nil
  have a0:Hid (zF (F2.drew.alloc (.cells #[int i64 ((R:Int)+1),int i64 c,.string y.own,.slice m y.lgn n,int i64 y.pe,int i64 y.len,int i64 y.hei,int i64 y.cl,.bool y.all,int i64 y.be,int i64 1,int i64 y.unt,int i64 f] 150)) base (.slice X N Z) (.slice U N Y) (.slice q R s) N N R x L C A B D E):=HO.out.below (zk (Below.drew O) _);refine step_append_lies _ (by rfl) (.tmp 72) (.tmp 74) 36 (by rfl) base 150 r0 (.agg #[int i64 0,int i64 0,.string ⟨#[]⟩,.slice none 0 0,int i64 0,int i64 0,int i64 0,int i64 0,.bool false,int i64 0,int i64 0,int i64 0,int i64 0]) 13 128 Tryz.underlying36 ri j2 j3 j4 rfl (by decide) _ R (zbg x.bk E R) (by rfl) a0.out.bk.row _ 1 1 [int i64 ((R:Int)+1),int i64 c,.string y.own,.slice m y.lgn n,int i64 y.pe,int i64 y.len,int i64 y.hei,int i64 y.cl,.bool y.all,int i64 y.be,int i64 1,int i64 y.unt,int i64 f] (by rfl) (by rfl) (World.news_of_block (cs:=#[int i64 ((R:Int)+1),int i64 c,.string y.own,.slice m y.lgn n,int i64 y.pe,int i64 y.len,int i64 y.hei,int i64 y.cl,.bool y.all,int i64 y.be,int i64 1,int i64 y.unt,int i64 f]) (t:=150) (fr:=(0,0)) (heap_alloc_new F2.drew _)) (by intro u hu;simp at hu;rcases hu with rfl|rfl|rfl|rfl|rfl|rfl|rfl|rfl|rfl|rfl|rfl|rfl|rfl <;> rfl) (by decide) (by unfold maxLen;omega) (by omega) (by have:=f6.out;have:=O.size;simp;omega) _ rfl ?_
  intro g2 r u2 h4 a7 j5 j6;have qU:=(qJ a7).blk (zd (zK qF) (.cells #[int i64 ((R:Int)+1),int i64 c,.string y.own,.slice m y.lgn n,int i64 y.pe,int i64 y.len,int i64 y.hei,int i64 y.cl,.bool y.all,int i64 y.be,int i64 1,int i64 y.unt,int i64 f] 150)) (fun e=>by obtain⟨cs,e2⟩:=zA a0.out.bk.row g e;rw[zd (zK qF) (.cells #[int i64 ((R:Int)+1),int i64 c,.string y.own,.slice m y.lgn n,int i64 y.pe,int i64 y.len,int i64 y.hei,int i64 y.cl,.bool y.all,int i64 y.be,int i64 1,int i64 y.unt,int i64 f] 150)] at e2;simp at e2)
  have bU:=(qJ a7).blk (zd (zK a8) (.cells #[int i64 ((R:Int)+1),int i64 c,.string y.own,.slice m y.lgn n,int i64 y.pe,int i64 y.len,int i64 y.hei,int i64 y.cl,.bool y.all,int i64 y.be,int i64 1,int i64 y.unt,int i64 f] 150)) (fun e=>by have h1:=(HO.out.bk.row.lt bb e).2;have:=H.size;omega)
  have aU:=(qJ a7).blk (zd (zK b7) (.cells #[int i64 ((R:Int)+1),int i64 c,.string y.own,.slice m y.lgn n,int i64 y.pe,int i64 y.len,int i64 y.hei,int i64 y.cl,.bool y.all,int i64 y.be,int i64 1,int i64 y.unt,int i64 f] 150)) (fun e=>by have h1:=(HO.out.bk.row.lt _ e).2;omega)
  refine d.out _ _ (b6.out _ qU bU) (fun hS=>?_)
  clear d K;simp only[Act.put,sB,sZ,sS]
  (refine tkL 8 (v:=?_) rfl (by kernel_rfl) (fun _ _ _ h=>h) rfl (by assumption) ?_ ?_;rotate_left;(focus(intro w' h;(try dsimp only at h);go_simp;try with_reducible rfl));simp only[Act.put,sB,sZ,sS])
  (refine tkL 9 (v:=?_) rfl (by kernel_rfl) (fun _ _ _ h=>h) rfl (by assumption) ?_ ?_;rotate_left;(focus(intro w' h;(try dsimp only at h);go_simp;try with_reducible rfl));simp only[Act.put,sB,sZ,sS])
  have q0:=za qU 2 _ rfl;have j1:=zg qU 2;refine zj (rs:=[10]) (by kernel_rfl) (by simp) ?_
  refine zc.lastL rfl (fun K d=>?_)
  go_simp;refine d.out _ _ ?_;clear d K;refine zX (by kernel_rfl) ?_ _
  have qG:=zlK qU (.slice (some ⟨g2,0,none⟩) (R+1) r);have bG:=zD (b':=g) bU 2 (.slice (some ⟨g2,0,none⟩) (R+1) r) (by omega)
  have aG:=zD (b':=g) aU 2 (.slice (some ⟨g2,0,none⟩) (R+1) r) (by omega)
  have g1:Hid (Qf R c y=⟨(R:Int)+1,c,y.own,y.lgn,y.lg,y.pe,y.len,y.hei,y.cl,y.all,y.be,1,y.unt,f⟩):=by show _=_;unfold Qf;rw[h7.out,← g5.out];rfl
  have i4:Hid (zF (F2.drew.alloc (.cells #[int i64 ((R:Int)+1),int i64 c,.string y.own,.slice m y.lgn n,int i64 y.pe,int i64 y.len,int i64 y.hei,int i64 y.cl,.bool y.all,int i64 y.be,int i64 1,int i64 y.unt,int i64 f] 150)) base (.slice X N Z) (.slice U N Y) (.slice q R s) N N R { x with bkn:=R+1,bk:=zah x.bk R (Qf R c y) } L C A B D E):=⟨a0.out.sa,a0.out.ld,a0.out.bk.congr (fun i hi=>(zaf _ _ _ (by omega)).symm)⟩
  have i3:Hid (zF u2 base (.slice X N Z) (.slice U N Y) (.slice (some ⟨g2,0,none⟩) (R+1) r) N N (R+1) { x with bkn:=R+1,bk:=zah x.bk R (Qf R c y) } L C A B D (atV E R (.slice m y.lgn n))):=by
   refine i4.out.book (lim:=V.heap.size) (fun i hi b e=>by have h1:=((HO.out.bk.legs i hi).lt b e).2;have:=H.size;omega) ?_ (Nat.le_trans f6.out H.size) a7 ?_
   ·dsimp only
    rw[ZL,g1.out];exact zo (zk (Below.drew bZ) _) g6.out
   ·have e1:zbg (zah x.bk R (Qf R c y)) E R=zbg x.bk E R:=List.map_congr_left fun j hj=>by
     have k4:j<R*13:=by simpa using hj
     unfold zZ bkC;rw[zaf _ _ _ (by omega)]
    dsimp only;rw[e1];unfold bkC;rw[ZL,qu,g1.out];exact h4
  have b2:zx u2 (u2.setCell ⟨g,2,none⟩ (.slice (some ⟨g2,0,none⟩) (R+1) r)) (fun b=>b=g):=(zx.refl u2 (fun b=>b=g)).set (a:=⟨g,2,none⟩) rfl _
  have g4:Hid _:=i3.out.box b2 qU (by decide)
  have g0:Hid (zx w (u2.setCell ⟨g,2,none⟩ (.slice (some ⟨g2,0,none⟩) (R+1) r)) (fun b=>b=g∨(Value.slice q R s).ownBlock=some b)):=((zx.of_below (zk (Below.drew O) _)).trans ((qJ a7).mono (fun b e=>.inr e))).trans (b2.mono (fun b e=>.inl e))
  have c0:=za bG 0 _ rfl;generalize u2.setCell ⟨g,2,none⟩ (.slice (some ⟨g2,0,none⟩) (R+1) r)=Z1 at qG bG aG b2 g4 g0 c0 ⊢;obtain⟨g3,g7,f9,bF⟩:=zbC g0.out g4.out qG aG (by omega) (int i64 0) (int i64 ((R:Int)+1)) (int i64 f) (.slice none 0 0) rfl
  obtain⟨v0,v1,v2,v3⟩:=ce4 aG;obtain⟨e0,e1,e2,e3⟩:=fe4 aG;have b3:Hid _:=g3;have f8:Hid _:=g7;have f7:Hid _:=f9;clear g3 g7 f9;clear q0 j1 hS b2 h4;go_wp2;obtain⟨x0,x1,x2,x3⟩:=ce4 bF;refine bodyPost_ret (v:=.agg #[int i64 0,int i64 ((R:Int)+1),int i64 f,.slice none 0 0]) (by simp[results,Tryz.results93,go_sem,x0,x1,x2,x3]) rfl ?_
  rw[g5.out] at b3 f8 f7 ⊢;exact⟨_,_,_,_,rfl,rfl,b3.out,f8.out,f7.out⟩
end Go.Proofs.YtmdnjgihooflfaaGreatDoor
