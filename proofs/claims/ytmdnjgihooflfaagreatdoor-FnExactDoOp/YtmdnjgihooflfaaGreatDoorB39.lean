/-
  OWN TEXT: LawDop, LaidF, LaidB, LaidE, LawDopR, JoinD, Views.
-/
import Derived.Deep.RegionHeld3
import Derived.Deep.DeepCutAuto
import Derived.ProofKit
import Derived.OpenShut
import Derived.LaidMore
import Derived.WalkSmall
import Derived.Lib.LaidTab
import Derived.Deep.DeepHandedRow
import Derived.Stop.LaidErr
import Derived.LaidHandle
import Derived.Test.YtmdnjgihooflfaaGreatDoorRows
import Derived.RowKit
import Derived.JoinedOf
import Derived.ChangeOld
import Derived.SizedLaws
import Derived.Deep.Slices
import Derived.Deep.Strs
import Derived.Lib.SmallJoins
import Derived.Test.YtmdnjgihooflfaaGreatDoorB38
namespace Go.Proofs.YtmdnjgihooflfaaGreatDoor
open Go.RowKit
open Go.Value (int)
open Go.IntKind (i64)
open Tryz
set_option maxHeartbeats 64000000
set_option maxRecDepth 100000
section
open Go.RowKit
variable{y:OpD}{x:Off}{m base g:Nat}{name price:Int}
theorem name_nat (h:zac y)(a:In y.kind 4 8):y.name=(((y.name - 1).toNat:Nat):Int)+1/\(y.name - 1).toNat<=1048576:=by
 have q:=h.2.2.1;unfold Qs at q;rw[Jf a] at q;unfold In at q
 omega
theorem spec_some {a:Int}{c d:List Value}{u:World}(t:Off.Short x 1048576)(q:OpD.Short y 1048576)(s:zac y->In y.kind 4 8->y.name=(m:Int)+1/\m<=1048576)(h1:Off.Is u c x)(h2:OpD.Is u d y) :
  Calls prog 8 #[.agg c.toArray,a,.agg d.toArray] u λe p=>zla (λ_=>Res x a y m) u.heap.size e p/\Below u.heap.size u p:=by
 obtain⟨j,o,g,l,f,k,rfl,w,q1,z,q2,A,C⟩:=h1;obtain⟨i,n,rfl,B,D⟩:=h2;refine(zmp x j g f i o l k n m a y u t w z A C.1 B D q.2 q.1 s).mono ?_;rintro e p ⟨h,r⟩;obtain⟨E,F,b,name,price,N,T,ok,hr,v⟩:=h.res;exact⟨⟨E,F,b,name,price,N,T,ok,hr,v⟩,r⟩
theorem impl_some {g:Int}{pe:Nat->Addr}{c d:List Value}{u:World}{B:Off}{f:Int}{N:Nat}{T:Nat->zcB}{ok:Bool}(H:Off.Short x 1048576)(A:OpD.Short y 1048576)(G:zac y->In y.kind 4 8->y.name=(m:Int)+1/\m<=1048576)
  (C:Zm u) (t:Zq u/\Zu u) (E:qY u pe) (F:u.cell? (0,0)=some (.iface 284 (.agg #[.pointer (some (12,92))]))) (hr:Res x g y m B f name price N T ok) (h1:Off.Is u c x) (h2:OpD.Is u d y) :
  Calls prog 11 #[.agg c.toArray,g,.agg d.toArray] u λe z=>zmO u.heap.size u.heap.size B f name price N T ok e z/\Below u.heap.size u z:=by
 have s:=h1;obtain⟨l,r,j,o,i,n,rfl,p1,q1,p2,q2,p3,q3⟩:=h1;obtain⟨k,p,rfl,K,L⟩:=h2;refine(zmn x l j i k r o n p m g y pe u H C t E F s K L A.1 A.2 (λa b=>(G a b).1)).mono ?_
 rintro e z ⟨⟨M,q,w,h,N',T',J,v,I⟩,D⟩;obtain⟨rfl,rfl,rfl,rfl,rfl,t,rfl⟩:=v.one hr;exact⟨I.rows t,D⟩
theorem zF.noBox {w:World}{v1 v2 v3:Value}{d f j:Nat}{L C A B D E:Nat->Value}{t:Nat}{cs:Array Value}(h:zF w base v1 v2 v3 d f j x L C A B D E)(a:w.heap[g]?=some (.cells cs t (0,0)))(k:140≠t/\223≠t/\231≠t/\145≠t/\220≠t/\228≠t/\234≠t/\150≠t/\3≠t):∀ b,OffB v1 v2 v3 d f j L C A B D E b->b≠g:=by
 obtain⟨l,m,n,o,p,q,r,s,u⟩:=k;rintro b ((e|⟨i,c,e|e⟩)|e|⟨i,c,e|e|e⟩|e|⟨i,c,e⟩)
 ·exact zQ h.sa.row a l b e
 ·exact zQ (h.sa.la i c) a m b e
 ·exact zQ (h.sa.ca i c) a n b e
 ·exact zQ h.ld.row a o b e
 ·exact zQ (h.ld.st i c) a p b e
 ·exact zQ (h.ld.ro i c) a q b e
 ·exact zQ (h.ld.se i c) a r b e
 ·exact zQ h.bk.row a s b e
 ·exact zQ (h.bk.legs i c) a u b e
theorem once {P G:Prop}(p:P)(h:P->G):G:=h p
theorem zhG.lds {b:Int}{d:Off}{a:Int}(h:zhG x b y m d a name price):d.ldn=x.ldn:=by
 rcases h with⟨_,rfl,_⟩|⟨_,_,rfl,_⟩|⟨hf,M,x3,f,e,h1,h2⟩
 ·rfl
 ·rfl
 ·by_cases c:a≠0∨y.kind=1
  ·rw[h1 c]
  ·rw[h2 c]
   rcases e with⟨_,rfl,_⟩|⟨_,rfl,_⟩|⟨_,_,rfl,_⟩|⟨_,h3,rfl,_⟩|⟨_,_,rfl,_⟩ <;> rfl
theorem res_short {e:Int}{d:Off}{b:Int}{N:Nat}{T:Nat->zcB}{ok:Bool}(g:Off.Short x 1048576)(j:OpD.Short y 1048576)(h:Res x e y m d b name price N T ok):(Off.Short d 1048576/\d.san<=1000/\d.ldn<=1000/\d.bkn<=1000)/\N<=1048576:=by
 rcases h with⟨⟨c,hf⟩,_,a,f⟩|⟨_,_,rfl,_,_,_,rfl⟩
 ·have h2:=a.short c g (by decide) j.1
  obtain⟨q1,q2,q3⟩:=a.few c;have t1:=c.1.1;have t2:=c.2.2.1;refine⟨⟨h2,by omega,?_,by omega⟩,?_⟩
  ·have:=a.lds;have:=c.2.1;omega
  ·rcases f with⟨rfl,_⟩|⟨_,_,rfl,_⟩
   ·omega
   ·have:=zmL (x.ld (zW x.sa (y.lg 0) x.san)) x.bk (y.lg 0) x.bkn
    omega
 ·exact⟨⟨⟨⟨Jq _,λi h=>absurd h (by show ¬ i<0;omega)⟩,⟨Jq _,λi h=>absurd h (by show ¬ i<0;omega)⟩,⟨Jq _,λi h=>absurd h (by show ¬ i<0;omega)⟩⟩,Jq _,Jq _,Jq _⟩,Jq _⟩
theorem lawDoOp (cs os:List Value)(x:Off)(y:OpD)(b3:Int)(pe:Nat->Addr)(w:World)(hs:Off.Short x 1000000000000000)(hi:Off.Is w cs x)(hr:OpD.Short y 1000000000000000)(hj:OpD.Is w os y)(hF:Zm w)(hT:Zq w/\Zu w)(he:qY w pe)(hg:w.cell? ⟨0,0,none⟩=some (.iface 284 (.agg #[.pointer (some ⟨12,92,none⟩)]))) :
  Calls prog 3 #[.agg cs.toArray,int i64 b3,.agg os.toArray] w λe w'=>e=.returned (.bool true)/\Below w.heap.size w w':=by
 have d8:=hI hi;have e0:=hI hj;obtain⟨V,Z,S,X,R,W,rfl,h1,s1,h2,s2,h3,s3⟩:=hi;obtain⟨U,Y,rfl,g1,g2⟩:=hj;clear h1 s1 h2 s2 h3 s3 g1 g2;have HS:Hid (Off.Short x 1000000000000000/\OpD.Short y 1000000000000000):=⟨hs,hr⟩;have HG:Hid (Zm w/\(Zq w/\Zu w)/\qY w pe/\w.cell? ⟨0,0,none⟩=some (.iface 284 (.agg #[.pointer (some ⟨12,92,none⟩)]))):=⟨hF,hT,he,hg⟩;clear hs hr hF hT he hg;have HB:Below w.heap.size w ((w.alloc (.cells #[.slice V x.san Z,.slice S x.ldn X,.slice R x.bkn W] 26)).alloc (.cells #[int i64 y.kind,.string y.own,int i64 y.name,.slice U y.lgn Y,int i64 y.pe,int i64 y.len,int i64 y.hei,int i64 y.cl,.bool y.all,int i64 y.be,int i64 y.unt,int i64 y.now] 31)):=zk (zk bZ _) _;have A:=zoQ HB;have B:=zoR HB;have g5:=hI (zM B);go_enter func3,ntmps3;go_wp2_with fail;generalize ((w.alloc (.cells #[.slice V x.san Z,.slice S x.ldn X,.slice R x.bkn W] 26)).alloc (.cells #[int i64 y.kind,.string y.own,int i64 y.name,.slice U y.lgn Y,int i64 y.pe,int i64 y.len,int i64 y.hei,int i64 y.cl,.bool y.all,int i64 y.be,int i64 y.unt,int i64 y.now] 31))=wA at HB A B g5 ⊢;refine(zjR [.slice V x.san Z,.slice S x.ldn X,.slice R x.bkn W] x _ HS.out.1 (d8.out.below HB)).mono ?_;rintro e w1 ⟨r,rfl,hr,f⟩;replace A:=zb A f;replace B:=zb B f;replace HB:=ze HB f;have k0:Hid (w.heap.size+1<w1.heap.size):=Nat.lt_of_lt_of_le g5.out f.size;clear f g5
 rcases hr with rfl|⟨r0,r1,ht⟩
 ·go_wp2
  go_ret;exact⟨rfl,HB⟩
 have d0:decide (r<0)=false:=by simpa using r0
 have HT:=hI ht;clear ht;obtain⟨q0,q1,q2,q3,q4,q5,q6,q7,q8,q9,f5,f6⟩:=zeW B;go_wp2_with fail;refine(szOp_any [int i64 y.kind,.string y.own,int i64 y.name,.slice U y.lgn Y,int i64 y.pe,int i64 y.len,int i64 y.hei,int i64 y.cl,.bool y.all,int i64 y.be,int i64 y.unt,int i64 y.now] y r _ r0 r1 HS.out.2 (e0.out.below HB)).mono ?_;rintro e w2 ⟨r',rfl,hr,f⟩;clear q0 q1 q2 q3 q4 q5 q6 q7 q8 q9 f5 f6 d0 r0 r1;replace A:=zb A f;replace B:=zb B f;replace HB:=ze HB f;have k3:Hid (w.heap.size+1<w2.heap.size):=Nat.lt_of_lt_of_le k0.out f.size;clear f k0
 rcases hr with rfl|⟨r0,_,ht⟩
 ·go_wp2
  go_ret;exact⟨rfl,HB⟩
 have d0:decide (r'<0)=false:=by simpa using r0
 have HU:=hI ht;clear ht HS r0;obtain⟨pA,e9⟩:∃ p,p=w.heap.size:=⟨_,rfl⟩;obtain⟨H,f4⟩:∃ p,p=w.heap.size+1:=⟨_,rfl⟩;rw[← e9] at A;rw[← f4] at B;have HP:Hid (pA=w.heap.size/\H=w.heap.size+1):=⟨e9,f4⟩;obtain⟨m,hm⟩:∃ m,m=(y.name - 1).toNat:=⟨_,rfl⟩;have HM:Hid (zac y->In y.kind 4 8->y.name=(m:Int)+1/\m<=1048576):=by rw[hm];exact name_nat
 clear hm;have k6:Hid (∀ c d u,Off.Is u c x->OpD.Is u d y->Calls prog 8 #[.agg c.toArray,int i64 b3,.agg d.toArray] u λe u'=>zla (λ_=>Res x b3 y m) u.heap.size e u'/\Below u.heap.size u u'):=λc d u h1 h2=>spec_some HT.out HU.out HM.out h1 h2
 have HI:=hI (d8.out.below HB);have HJ:=hI (e0.out.below HB);rw[← f4,← e9];clear e9 f4;go_upto_region 8 with fail;go_cut [8,9,10] (λs8 s9 j6 wx=>∃ b8 b9 ok,s8=.pointer (some ⟨b8,0,none⟩)/\s9=.pointer (some ⟨b9,0,none⟩)/\j6=.bool ok/\Hid ((wx.heap[pA]?=some (.cells #[.slice V x.san Z,.slice S x.ldn X,.slice R x.bkn W] 26 (0,0))/\wx.heap[H]?=some (.cells #[int i64 y.kind,.string y.own,int i64 y.name,.slice U y.lgn Y,int i64 y.pe,int i64 y.len,int i64 y.hei,int i64 y.cl,.bool y.all,int i64 y.be,int i64 y.unt,int i64 y.now] 31 (0,0)))/\DopB (λ_=>Res x b3 y m) w2.heap.size b8 b9 ok wx/\Below w2.heap.size w2 wx/\w2.heap.size<=b8/\w2.heap.size<=b9))
 case first =>
  have h4:Hid (RG w2 w2.drew pA H #[.slice V x.san Z,.slice S x.ldn X,.slice R x.bkn W] #[int i64 y.kind,.string y.own,int i64 y.name,.slice U y.lgn Y,int i64 y.pe,int i64 y.len,int i64 y.hei,int i64 y.cl,.bool y.all,int i64 y.be,int i64 y.unt,int i64 y.now] x y (λ_=>Res x b3 y m) none none none none none):=⟨bZ.drew,zb A bZ.drew,zb B bZ.drew,λ_ e=>(by cases e),λ_ e=>(by cases e),λ_ e=>(by cases e),λ_ e=>(by cases e),λ_ e=>(by cases e)⟩
  clear A B HB;refine once ?_ (by
   intro e6;have g:=h4;refine qg 15 15 (λu=>u.cell? ⟨pA,0,none⟩=some (.slice V x.san Z)/\u.cell? ⟨pA,1,none⟩=some (.slice S x.ldn X)/\u.cell? ⟨pA,2,none⟩=some (.slice R x.bkn W)/\u.cell? ⟨H,0,none⟩=some (int i64 y.kind)/\u.cell? ⟨H,1,none⟩=some (.string y.own)/\u.cell? ⟨H,2,none⟩=some (int i64 y.name)/\u.cell? ⟨H,3,none⟩=some (.slice U y.lgn Y)/\u.cell? ⟨H,4,none⟩=some (int i64 y.pe)/\u.cell? ⟨H,5,none⟩=some (int i64 y.len)/\u.cell? ⟨H,6,none⟩=some (int i64 y.hei)/\u.cell? ⟨H,7,none⟩=some (int i64 y.cl)/\u.cell? ⟨H,8,none⟩=some (.bool y.all)/\u.cell? ⟨H,9,none⟩=some (int i64 y.be)/\u.cell? ⟨H,10,none⟩=some (int i64 y.unt)/\u.cell? ⟨H,11,none⟩=some (int i64 y.now)) rfl (by kernel_rfl) (QK g.out.a g.out.b) (λhS=>?_)
   simp only[List.replicate_succ,List.replicate_zero];generalize w2.drew=u at g hS ⊢
   (refine tkN 0 (v:=?_) rfl (by kernel_rfl) (λ_ _ _ h=>h) rfl (by assumption) ?_ ?_;rotate_left;(focus(intro w' h;(try dsimp only at h);go_simp;try with_reducible rfl));simp only[Act.put,sB,sZ,sS])
   (refine tkN 2 (v:=?_) rfl (by kernel_rfl) (λ_ _ _ h=>h) rfl (by assumption) ?_ ?_;rotate_left;(focus(intro w' h;(try dsimp only at h);go_simp;try with_reducible rfl));simp only[Act.put,sB,sZ,sS])
   (refine tkN 3 (v:=?_) rfl (by kernel_rfl) (λ_ _ _ h=>h) rfl (by assumption) ?_ ?_;rotate_left;(focus(intro w' h;(try dsimp only at h);go_simp;try with_reducible rfl));simp only[Act.put,sB,sZ,sS])
   iterate 5
    all_goals
     first
      | (have t:RG _ _ _ _ _ _ _ _ _ none none none none none:=g.out;clear t;refine zj (rs:=[1,10,11]) (by kernel_rfl) (by simp) ?_;refine zc.consL rfl (λK i=>?_) (zc.consL rfl (λK i=>?_) (zc.consL rfl (λK i=>?_) zc.nil)))
      | (have t:RG _ _ _ _ _ _ _ _ _ none (some _) none none none:=g.out;clear t;refine zj (rs:=[1,10]) (by kernel_rfl) (by simp) ?_;refine zc.consL rfl (λK i=>?_) (zc.consL rfl (λK i=>?_) zc.nil))
      | (have t:RG _ _ _ _ _ _ _ _ _ (some _) none none none none:=g.out;clear t;refine zj (rs:=[1,11]) (by kernel_rfl) (by simp) ?_;refine zc.consL rfl (λK i=>?_) (zc.consL rfl (λK i=>?_) zc.nil))
      | (have t:RG _ _ _ _ _ _ _ _ _ (some _) (some _) none none none:=g.out;clear t;refine zj (rs:=[1]) (by kernel_rfl) (by simp) ?_;refine zc.consL rfl (λK i=>?_) zc.nil)
      | (have t:RG _ _ _ _ _ _ _ _ _ none none (some _) none none:=g.out;clear t;refine zj (rs:=[4,10,11]) (by kernel_rfl) (by simp) ?_;refine zc.consL rfl (λK i=>?_) (zc.consL rfl (λK i=>?_) (zc.consL rfl (λK i=>?_) zc.nil)))
      | (have t:RG _ _ _ _ _ _ _ _ _ none (some _) (some _) none none:=g.out;clear t;refine zj (rs:=[4,10]) (by kernel_rfl) (by simp) ?_;refine zc.consL rfl (λK i=>?_) (zc.consL rfl (λK i=>?_) zc.nil))
      | (have t:RG _ _ _ _ _ _ _ _ _ (some _) none (some _) none none:=g.out;clear t;refine zj (rs:=[4,11]) (by kernel_rfl) (by simp) ?_;refine zc.consL rfl (λK i=>?_) (zc.consL rfl (λK i=>?_) zc.nil))
      | (have t:RG _ _ _ _ _ _ _ _ _ (some _) (some _) (some _) none none:=g.out;clear t;refine zj (rs:=[4]) (by kernel_rfl) (by simp) ?_;refine zc.consL rfl (λK i=>?_) zc.nil)
      | (have t:RG _ _ _ _ _ _ _ _ _ none none (some _) (some _) none:=g.out;clear t;refine zj (rs:=[5,10,11]) (by kernel_rfl) (by simp) ?_;refine zc.consL rfl (λK i=>?_) (zc.consL rfl (λK i=>?_) (zc.consL rfl (λK i=>?_) zc.nil)))
      | (have t:RG _ _ _ _ _ _ _ _ _ none (some _) (some _) (some _) none:=g.out;clear t;refine zj (rs:=[5,10]) (by kernel_rfl) (by simp) ?_;refine zc.consL rfl (λK i=>?_) (zc.consL rfl (λK i=>?_) zc.nil))
      | (have t:RG _ _ _ _ _ _ _ _ _ (some _) none (some _) (some _) none:=g.out;clear t;refine zj (rs:=[5,11]) (by kernel_rfl) (by simp) ?_;refine zc.consL rfl (λK i=>?_) (zc.consL rfl (λK i=>?_) zc.nil))
      | (have t:RG _ _ _ _ _ _ _ _ _ (some _) (some _) (some _) (some _) none:=g.out;clear t;refine zj (rs:=[5]) (by kernel_rfl) (by simp) ?_;refine zc.consL rfl (λK i=>?_) zc.nil)
      | (have t:RG _ _ _ _ _ _ _ _ _ none none (some _) (some _) (some _):=g.out;clear t;refine zj (rs:=[10,11]) (by kernel_rfl) (by simp) ?_;refine zc.consL rfl (λK i=>?_) (zc.consL rfl (λK i=>?_) zc.nil))
      | (have t:RG _ _ _ _ _ _ _ _ _ none (some _) (some _) (some _) (some _):=g.out;clear t;refine zj (rs:=[10]) (by kernel_rfl) (by simp) ?_;refine zc.consL rfl (λK i=>?_) zc.nil)
      | (have t:RG _ _ _ _ _ _ _ _ _ (some _) none (some _) (some _) (some _):=g.out;clear t;refine zj (rs:=[11]) (by kernel_rfl) (by simp) ?_;refine zc.consL rfl (λK i=>?_) zc.nil)
    all_goals
     go_simp
     first
      | (go_at_call 9;refine Jm (g.out.off [.slice V x.san Z,.slice S x.ldn X,.slice R x.bkn W] HT.out HI.out) ?_;clear g;rintro e u ⟨k1,rfl,g⟩;dsimp only;refine i.out _ _ (QK g.out.a g.out.b) (λhS=>?_);clear i K;simp only[sZ,sS])
      | (go_at_call 10;refine Jm (g.out.op [int i64 y.kind,.string y.own,int i64 y.name,.slice U y.lgn Y,int i64 y.pe,int i64 y.len,int i64 y.hei,int i64 y.cl,.bool y.all,int i64 y.be,int i64 y.unt,int i64 y.now] HU.out HJ.out) ?_;clear g;rintro e u ⟨k2,rfl,g⟩;dsimp only;refine i.out _ _ (QK g.out.a g.out.b) (λhS=>?_);clear i K;simp only[sZ,sS])
      | (go_at_call 8;refine Jm (g.out.dop 8 b3 (λc d u _ h1 h2=>k6.out c d u h1 h2)) ?_;clear g;rintro e u ⟨a1,n1,c1,a2,n2,c2,a3,n3,c3,F,name,price,ar,n,cr,ok,rfl,g⟩;dsimp only;refine i.out _ _ (QK g.out.a g.out.b) (λhS=>?_);clear i K;simp only[sZ,sS];(refine tkN 6 (v:=?_) rfl (by kernel_rfl) (λ_ _ _ h=>h) rfl (by assumption) ?_ ?_;rotate_left;(focus(intro w' h;(try dsimp only at h);go_simp;try with_reducible rfl));simp only[Act.put,sB,sZ,sS]);(refine tkN 7 (v:=?_) rfl (by kernel_rfl) (λ_ _ _ h=>h) rfl (by assumption) ?_ ?_;rotate_left;(focus(intro w' h;(try dsimp only at h);go_simp;try with_reducible rfl));simp only[Act.put,sB,sZ,sS]);(refine tkN 8 (v:=?_) rfl (by kernel_rfl) (λ_ _ _ h=>h) rfl (by assumption) ?_ ?_;rotate_left;(focus(intro w' h;(try dsimp only at h);go_simp;try with_reducible rfl));simp only[Act.put,sB,sZ,sS]);(refine tkN 9 (v:=?_) rfl (by kernel_rfl) (λ_ _ _ h=>h) rfl (by assumption) ?_ ?_;rotate_left;(focus(intro w' h;(try dsimp only at h);go_simp;try with_reducible rfl));simp only[Act.put,sB,sZ,sS]))
      | (replace g:Hid _:=g.out.al8;refine i.out _ _ (QK g.out.a g.out.b) (λhS=>?_);clear i K;simp only[sZ,sS];generalize u.heap.size=b8 at g ⊢;generalize u.alloc (.cells #[.slice none 0 0,.slice none 0 0,.slice none 0 0] 38)=u at g hS ⊢)
      | (replace g:Hid _:=g.out.al9;refine i.out _ _ (QK g.out.a g.out.b) (λhS=>?_);clear i K;simp only[sZ,sS];generalize u.heap.size=b9 at g ⊢;generalize u.alloc (.cells #[int i64 0,int i64 0,int i64 0,.slice none 0 0] 41)=u at g hS ⊢)
   all_goals (clear hS;revert g;revert ok;revert cr;revert n;revert ar;revert price;revert name;revert F;revert c3;revert n3;revert a3;revert c2;revert n2;revert a2;revert c1;revert n1;revert a1;revert k2;revert k1;revert b9;revert b8;revert u;exact e6))
  intro u b8 b9 k1 k2 a1 n1 c1 a2 n2 c2 a3 n3 c3 F name price ar n cr ok g;have HF:Hid _:=g.out.fin;obtain⟨q0,q1,q2⟩:=ce3 HF.out.1.1;obtain⟨f0,f1,f2⟩:=fe3 HF.out.1.1;have e4:=HF.out.1.2;have HA:=HF.out.2.1;have HC:Hid _:=HF.out.2.2;unfold qt at e4 HA;unfold ZK qt at HC;clear HF g;refine zj (rs:=[12]) (by kernel_rfl) (by simp) ?_
  refine zc.consL rfl (λK i=>?_) zc.nil
  go_simp;refine i.out _ _ (QK HA.1 HA.2) (λhS=>?_)
  clear i K HA q0 q1 q2 f0 f1 f2;simp only[sZ,sS];obtain⟨q0,q1,q2,q3⟩:=ce4 e4;obtain⟨f0,f1,f2,f3⟩:=fe4 e4;clear e4;refine zj (rs:=[13]) (by kernel_rfl) (by simp) ?_
  refine zc.consL rfl (λK i=>?_) zc.nil
  go_simp;refine i.out _ _ (QK HC.out.1.1 HC.out.1.2) (λhS=>?_)
  clear i K q0 q1 q2 q3 f0 f1 f2 f3;simp only[sZ,sS];refine zj (rs:=[14]) (by kernel_rfl) (by simp) ?_
  refine zc.consL rfl (λK i=>?_) zc.nil
  go_simp;refine i.out _ _ (QK HC.out.1.1 HC.out.1.2) (λhS=>?_)
  clear i K;simp only[sZ,sS];refine zX (by kernel_rfl) ?_ _
  go_wp2;go_meet;exact⟨b8,b9,ok,rfl,rfl,rfl,HC⟩
 case rest =>
  obtain⟨b8,b9,ok,rfl,rfl,rfl,HC⟩:=hcut;obtain⟨⟨A',B'⟩,⟨rb,D,F,name,price,N,T,e7,a1,c1,a2,c2,a3,c3,ar,cr,L,C,Aa,Bb,Dd,E,W8,W9,k7,k8⟩,f,l8,l9⟩:=HC.out;clear HC A B;have HA:Hid _:=A';have g7:Hid _:=B';have j9:=hI e7;have j8:Hid (∀ c d u,Below w.heap.size w u->Off.Is u c x->OpD.Is u d y->Calls prog 11 #[.agg c.toArray,int i64 b3,.agg d.toArray] u λe u'=>zmO u.heap.size u.heap.size D F name price N T ok e u'/\Below u.heap.size u u'):=λc d u q h1 h2=>impl_some HT.out HU.out HM.out (HG.out.1.below q) ⟨HG.out.2.1.1.below q,HG.out.2.1.2.below q⟩ (HG.out.2.2.1.below q) ((q.cell (p:=⟨0,0,none⟩) (Ja w _ HG.out.2.2.2)).trans HG.out.2.2.2) j9.out h1 h2
  have I:=hI (res_short HT.out HU.out e7);have m7:Hid (w.heap.size+1<w2.heap.size/\w2.heap.size<=wc.heap.size/\b8<wc.heap.size/\b9<wc.heap.size):=⟨k3.out,f.size,zM W8,zM W9⟩;have d5:Hid (Off.Is wc [.slice a1 D.san c1,.slice a2 D.ldn c2,.slice a3 D.bkn c3] D/\zbk wc ar N T):=⟨k7.is,zbI k8⟩;have h6:Hid _:=W8;have h7:Hid _:=W9;have b2:Hid _:=ze HB f;have z:Below wc.heap.size wc wc:=bZ;clear f k7 k8 e7 k6 HI HJ A' B' W8 W9 HB k3;obtain⟨q0,q1,q2⟩:=ce3 (zb HA.out z);go_wp2_with fail;refine(zdi [.slice V x.san Z,.slice S x.ldn X,.slice R x.bkn W] x _ HT.out (d8.out.below (ze b2.out z))).mono ?_;rintro e w4 ⟨m8,rfl,g3,f⟩;clear q0 q1 q2;replace z:=ze z f;have l0:=hI f.size;clear f;have f9:=hI g3;obtain⟨m1,m2,b1,l,c,a9,C',a8,E0,rfl,_,_,_,_⟩:=g3;unfold ZY;have IN:Off.In w4 wc.heap.size w4.heap.size [.slice (some ⟨b1,0,none⟩) x.san x.san,.slice (some ⟨a9,0,none⟩) x.ldn x.ldn,.slice (some ⟨a8,0,none⟩) x.bkn x.bkn] x:=f9.out;clear f9;have f:Below w4.heap.size w4 (w4.alloc (.cells #[.slice (some ⟨b1,0,none⟩) x.san x.san,.slice (some ⟨a9,0,none⟩) x.ldn x.ldn,.slice (some ⟨a8,0,none⟩) x.bkn x.bkn] 38)):=zk bZ _;have J:=zoP f;have k4:Hid (w4.heap.size<(w4.alloc (.cells #[.slice (some ⟨b1,0,none⟩) x.san x.san,.slice (some ⟨a9,0,none⟩) x.ldn x.ldn,.slice (some ⟨a8,0,none⟩) x.bkn x.bkn] 38)).heap.size):=by show w4.heap.size<(w4.alloc (.cells #[.slice (some ⟨b1,0,none⟩) x.san x.san,.slice (some ⟨a9,0,none⟩) x.ldn x.ldn,.slice (some ⟨a8,0,none⟩) x.bkn x.bkn] 38)).heap.size;simp
  replace z:=ze z f;replace IN:=IN.below f;clear f;obtain⟨q0,q1,q2,q3,q4,q5,q6,q7,q8,q9,f5,f6⟩:=zeW (zb g7.out z);go_wp2_with fail;generalize w4.alloc (.cells #[.slice (some ⟨b1,0,none⟩) x.san x.san,.slice (some ⟨a9,0,none⟩) x.ldn x.ldn,.slice (some ⟨a8,0,none⟩) x.bkn x.bkn] 38)=w5 at z IN J k4 q0 q1 q2 q3 q4 q5 q6 q7 q8 q9 f5 f6 ⊢;refine(ziu [int i64 y.kind,.string y.own,int i64 y.name,.slice U y.lgn Y,int i64 y.pe,int i64 y.len,int i64 y.hei,int i64 y.cl,.bool y.all,int i64 y.be,int i64 y.unt,int i64 y.now] y _ HU.out (e0.out.below (ze b2.out z))).mono ?_;rintro e O ⟨m9,rfl,g4,f⟩;clear q0 q1 q2 q3 q4 q5 q6 q7 q8 q9 f5 f6;replace z:=ze z f;replace IN:=IN.below f;replace J:=zb J f;have l1:=hI f.size;clear f;have g0:=hI g4;obtain⟨b0,rfl,_⟩:=g4;unfold ZY;have JN:OpD.In O w5.heap.size O.heap.size [int i64 y.kind,.string y.own,int i64 y.name,.slice (some ⟨b0,0,none⟩) y.lgn y.lgn,int i64 y.pe,int i64 y.len,int i64 y.hei,int i64 y.cl,.bool y.all,int i64 y.be,int i64 y.unt,int i64 y.now] y:=g0.out;clear g0;have f:Below O.heap.size O (O.alloc (.cells #[int i64 y.kind,.string y.own,int i64 y.name,.slice (some ⟨b0,0,none⟩) y.lgn y.lgn,int i64 y.pe,int i64 y.len,int i64 y.hei,int i64 y.cl,.bool y.all,int i64 y.be,int i64 y.unt,int i64 y.now] 47)):=zk bZ _;have M:=zoP f;have k5:Hid (O.heap.size<(O.alloc (.cells #[int i64 y.kind,.string y.own,int i64 y.name,.slice (some ⟨b0,0,none⟩) y.lgn y.lgn,int i64 y.pe,int i64 y.len,int i64 y.hei,int i64 y.cl,.bool y.all,int i64 y.be,int i64 y.unt,int i64 y.now] 47)).heap.size):=by show O.heap.size<(O.alloc (.cells #[int i64 y.kind,.string y.own,int i64 y.name,.slice (some ⟨b0,0,none⟩) y.lgn y.lgn,int i64 y.pe,int i64 y.len,int i64 y.hei,int i64 y.cl,.bool y.all,int i64 y.be,int i64 y.unt,int i64 y.now] 47)).heap.size;simp
  replace z:=ze z f;replace IN:=IN.below f;replace J:=zb J f;replace JN:=JN.below f;clear f;obtain⟨q0,q1,q2⟩:=ce3 J;go_wp2_with fail;generalize O.alloc (.cells #[int i64 y.kind,.string y.own,int i64 y.name,.slice (some ⟨b0,0,none⟩) y.lgn y.lgn,int i64 y.pe,int i64 y.len,int i64 y.hei,int i64 y.cl,.bool y.all,int i64 y.be,int i64 y.unt,int i64 y.now] 47)=w7 at z IN J JN M k5 q0 q1 q2 ⊢;refine(j8.out [.slice (some ⟨b1,0,none⟩) x.san x.san,.slice (some ⟨a9,0,none⟩) x.ldn x.ldn,.slice (some ⟨a8,0,none⟩) x.bkn x.bkn] [int i64 y.kind,.string y.own,int i64 y.name,.slice (some ⟨b0,0,none⟩) y.lgn y.lgn,int i64 y.pe,int i64 y.len,int i64 y.hei,int i64 y.cl,.bool y.all,int i64 y.be,int i64 y.unt,int i64 y.now] _ (ze b2.out z) (IN.is HT.out) (JN.is HU.out)).mono ?_;rintro e w8 ⟨⟨d1,e1,d2,e2,d3,e3,dr,er,L2,C2,A2,B2,D2,E2,rfl,G,P⟩,f⟩;clear q0 q1 q2;replace z:=ze z f;replace IN:=IN.below f;replace J:=zb J f;replace JN:=JN.below f;replace M:=zb M f;have l2:=hI f.size;clear f;have f:Below w8.heap.size w8 ((w8.alloc (.cells #[.slice d1 D.san e1,.slice d2 D.ldn e2,.slice d3 D.bkn e3] 38)).alloc (.cells #[int i64 F,int i64 name,int i64 price,.slice dr N er] 41)):=zk (zk bZ _) _;have j:=zoQ f;have s:=zoR f;replace z:=ze z f;replace IN:=IN.below f;replace J:=zb J f;replace JN:=JN.below f;replace M:=zb M f;replace G:=G.below f;replace P:=zo f P;clear f;have l6:(ok != ok)=false:=by simp
  obtain⟨i0,i1,i2⟩:=ce3 j;obtain⟨j0,j1,j2⟩:=ce3 (zb h6.out z);go_wp2_with fail;generalize ((w8.alloc (.cells #[.slice d1 D.san e1,.slice d2 D.ldn e2,.slice d3 D.bkn e3] 38)).alloc (.cells #[int i64 F,int i64 name,int i64 price,.slice dr N er] 41))=w9 at z IN J JN M G P j s i0 i1 i2 j0 j1 j2 ⊢;refine(zbp [.slice d1 D.san e1,.slice d2 D.ldn e2,.slice d3 D.bkn e3] [.slice a1 D.san c1,.slice a2 D.ldn c2,.slice a3 D.bkn c3] D _ I.out.1.1 G.is (d5.out.1.below z)).mono ?_;rintro e n4 ⟨rfl,f⟩;clear i0 i1 i2 j0 j1 j2;replace z:=ze z f;replace IN:=IN.below f;replace J:=zb J f;replace JN:=JN.below f;replace M:=zb M f;replace G:=G.below f;replace P:=zo f P;replace j:=zb j f;replace s:=zb s f;clear f;obtain⟨i0,i1,i2,i3⟩:=ce4 s;obtain⟨j0,j1,j2,j3⟩:=ce4 (zb h7.out z);go_wp2_with fail;refine(zdH F name price dr N er T ar cr _ I.out.2 (zbI P) (d5.out.2.below z)).mono ?_;rintro e b7 ⟨rfl,f⟩;clear i0 i1 i2 i3 j0 j1 j2 j3;replace z:=ze z f;replace IN:=IN.below f;replace J:=zb J f;replace JN:=JN.below f;replace M:=zb M f;replace G:=G.below f;replace P:=zo f P;replace j:=zb j f;replace s:=zb s f;clear f;go_upto_region 14 with fail;have KS:Hid (∀ w',Below b7.heap.size b7 w'->(w'.cell? ⟨pA,0,none⟩=some (.slice V x.san Z)/\w'.cell? ⟨pA,1,none⟩=some (.slice S x.ldn X)/\w'.cell? ⟨pA,2,none⟩=some (.slice R x.bkn W)/\w'.cell? ⟨w4.heap.size,0,none⟩=some (.slice (some ⟨b1,0,none⟩) x.san x.san)/\w'.cell? ⟨w4.heap.size,1,none⟩=some (.slice (some ⟨a9,0,none⟩) x.ldn x.ldn)/\w'.cell? ⟨w4.heap.size,2,none⟩=some (.slice (some ⟨a8,0,none⟩) x.bkn x.bkn))):=λw' h=>by
   have g1:=zb (zb HA.out z) h;have g2:=zb J h;exact⟨za g1 0 _ rfl,za g1 1 _ rfl,za g1 2 _ rfl,za g2 0 _ rfl,za g2 1 _ rfl,za g2 2 _ rfl⟩
  have BW:Hid (∀ w',Below b7.heap.size b7 w'->Below w.heap.size w w'):=λw' h=>ze (ze b2.out z) h
  have d9:Hid (∀ w',Below b7.heap.size b7 w'->Off.Is w' [.slice (some ⟨b1,0,none⟩) x.san x.san,.slice (some ⟨a9,0,none⟩) x.ldn x.ldn,.slice (some ⟨a8,0,none⟩) x.bkn x.bkn] x):=λw' h=>(IN.is HT.out).below h
  go_region_held3 (λw'=>w'.cell? ⟨pA,0,none⟩=some (.slice V x.san Z)/\w'.cell? ⟨pA,1,none⟩=some (.slice S x.ldn X)/\w'.cell? ⟨pA,2,none⟩=some (.slice R x.bkn W)/\w'.cell? ⟨w4.heap.size,0,none⟩=some (.slice (some ⟨b1,0,none⟩) x.san x.san)/\w'.cell? ⟨w4.heap.size,1,none⟩=some (.slice (some ⟨a9,0,none⟩) x.ldn x.ldn)/\w'.cell? ⟨w4.heap.size,2,none⟩=some (.slice (some ⟨a8,0,none⟩) x.bkn x.bkn))
   ((refine KS.out _ ?_;exact(by repeat(first|exact bZ|refine Jh ?_|refine ze ?_ a6|refine ze ?_ a5))))
   (first|(go_at_call 9;refine Jm (zdi [.slice V x.san Z,.slice S x.ldn X,.slice R x.bkn W] x _ HT.out (d8.out.below (BW.out _ (by repeat(first|exact bZ|refine Jh ?_|refine ze ?_ a6|refine ze ?_ a5))))) ?_;rintro e wt ⟨j4,rfl,b6,a5⟩)|(go_at_call 12;refine Jm (zbp [.slice (some ⟨b1,0,none⟩) x.san x.san,.slice (some ⟨a9,0,none⟩) x.ldn x.ldn,.slice (some ⟨a8,0,none⟩) x.bkn x.bkn] j4 x _ HT.out (d9.out _ (by repeat(first|exact bZ|refine Jh ?_|refine ze ?_ a6|refine ze ?_ a5))) ((b6.is HT.out).below (by repeat(first|exact bZ|refine Jh ?_|refine ze ?_ a6|refine ze ?_ a5)))) ?_;rintro e b5 ⟨rfl,a6⟩))
  have f:Below b7.heap.size b7 b5:=(by repeat(first|exact bZ|refine Jh ?_|refine ze ?_ a6|refine ze ?_ a5))
  clear b6 a5 a6 KS BW d9;replace z:=ze z f;replace IN:=IN.below f;replace J:=zb J f;replace JN:=JN.below f;replace M:=zb M f;replace G:=G.below f;replace P:=zo f P;replace j:=zb j f;replace s:=zb s f;clear f;go_upto_region 16 with fail;have KS:Hid (∀ w',Below b5.heap.size b5 w'->(w'.cell? ⟨H,0,none⟩=some (int i64 y.kind)/\w'.cell? ⟨H,1,none⟩=some (.string y.own)/\w'.cell? ⟨H,2,none⟩=some (int i64 y.name)/\w'.cell? ⟨H,3,none⟩=some (.slice U y.lgn Y)/\w'.cell? ⟨H,4,none⟩=some (int i64 y.pe)/\w'.cell? ⟨H,5,none⟩=some (int i64 y.len)/\w'.cell? ⟨H,6,none⟩=some (int i64 y.hei)/\w'.cell? ⟨H,7,none⟩=some (int i64 y.cl)/\w'.cell? ⟨H,8,none⟩=some (.bool y.all)/\w'.cell? ⟨H,9,none⟩=some (int i64 y.be)/\w'.cell? ⟨H,10,none⟩=some (int i64 y.unt)/\w'.cell? ⟨H,11,none⟩=some (int i64 y.now)/\w'.cell? ⟨O.heap.size,0,none⟩=some (int i64 y.kind)/\w'.cell? ⟨O.heap.size,1,none⟩=some (.string y.own)/\w'.cell? ⟨O.heap.size,2,none⟩=some (int i64 y.name)/\w'.cell? ⟨O.heap.size,3,none⟩=some (.slice (some ⟨b0,0,none⟩) y.lgn y.lgn)/\w'.cell? ⟨O.heap.size,4,none⟩=some (int i64 y.pe)/\w'.cell? ⟨O.heap.size,5,none⟩=some (int i64 y.len)/\w'.cell? ⟨O.heap.size,6,none⟩=some (int i64 y.hei)/\w'.cell? ⟨O.heap.size,7,none⟩=some (int i64 y.cl)/\w'.cell? ⟨O.heap.size,8,none⟩=some (.bool y.all)/\w'.cell? ⟨O.heap.size,9,none⟩=some (int i64 y.be)/\w'.cell? ⟨O.heap.size,10,none⟩=some (int i64 y.unt)/\w'.cell? ⟨O.heap.size,11,none⟩=some (int i64 y.now))):=λw' h=>by
   have g1:=zb (zb g7.out z) h;have g2:=zb M h;exact⟨za g1 0 _ rfl,za g1 1 _ rfl,za g1 2 _ rfl,za g1 3 _ rfl,za g1 4 _ rfl,za g1 5 _ rfl,za g1 6 _ rfl,za g1 7 _ rfl,za g1 8 _ rfl,za g1 9 _ rfl,za g1 10 _ rfl,za g1 11 _ rfl,za g2 0 _ rfl,za g2 1 _ rfl,za g2 2 _ rfl,za g2 3 _ rfl,za g2 4 _ rfl,za g2 5 _ rfl,za g2 6 _ rfl,za g2 7 _ rfl,za g2 8 _ rfl,za g2 9 _ rfl,za g2 10 _ rfl,za g2 11 _ rfl⟩
  have BW:Hid (∀ w',Below b5.heap.size b5 w'->Below w.heap.size w w'):=λw' h=>ze (ze b2.out z) h
  have d9:Hid (∀ w',Below b5.heap.size b5 w'->OpD.Is w' [int i64 y.kind,.string y.own,int i64 y.name,.slice (some ⟨b0,0,none⟩) y.lgn y.lgn,int i64 y.pe,int i64 y.len,int i64 y.hei,int i64 y.cl,.bool y.all,int i64 y.be,int i64 y.unt,int i64 y.now] y):=λw' h=>(JN.is HU.out).below h
  go_region_held3 (λw'=>w'.cell? ⟨H,0,none⟩=some (int i64 y.kind)/\w'.cell? ⟨H,1,none⟩=some (.string y.own)/\w'.cell? ⟨H,2,none⟩=some (int i64 y.name)/\w'.cell? ⟨H,3,none⟩=some (.slice U y.lgn Y)/\w'.cell? ⟨H,4,none⟩=some (int i64 y.pe)/\w'.cell? ⟨H,5,none⟩=some (int i64 y.len)/\w'.cell? ⟨H,6,none⟩=some (int i64 y.hei)/\w'.cell? ⟨H,7,none⟩=some (int i64 y.cl)/\w'.cell? ⟨H,8,none⟩=some (.bool y.all)/\w'.cell? ⟨H,9,none⟩=some (int i64 y.be)/\w'.cell? ⟨H,10,none⟩=some (int i64 y.unt)/\w'.cell? ⟨H,11,none⟩=some (int i64 y.now)/\w'.cell? ⟨O.heap.size,0,none⟩=some (int i64 y.kind)/\w'.cell? ⟨O.heap.size,1,none⟩=some (.string y.own)/\w'.cell? ⟨O.heap.size,2,none⟩=some (int i64 y.name)/\w'.cell? ⟨O.heap.size,3,none⟩=some (.slice (some ⟨b0,0,none⟩) y.lgn y.lgn)/\w'.cell? ⟨O.heap.size,4,none⟩=some (int i64 y.pe)/\w'.cell? ⟨O.heap.size,5,none⟩=some (int i64 y.len)/\w'.cell? ⟨O.heap.size,6,none⟩=some (int i64 y.hei)/\w'.cell? ⟨O.heap.size,7,none⟩=some (int i64 y.cl)/\w'.cell? ⟨O.heap.size,8,none⟩=some (.bool y.all)/\w'.cell? ⟨O.heap.size,9,none⟩=some (int i64 y.be)/\w'.cell? ⟨O.heap.size,10,none⟩=some (int i64 y.unt)/\w'.cell? ⟨O.heap.size,11,none⟩=some (int i64 y.now))
   ((refine KS.out _ ?_;exact(by repeat(first|exact bZ|refine Jh ?_|refine ze ?_ a6|refine ze ?_ a5))))
   (first|(go_at_call 10;refine Jm (ziu [int i64 y.kind,.string y.own,int i64 y.name,.slice U y.lgn Y,int i64 y.pe,int i64 y.len,int i64 y.hei,int i64 y.cl,.bool y.all,int i64 y.be,int i64 y.unt,int i64 y.now] y _ HU.out (e0.out.below (BW.out _ (by repeat(first|exact bZ|refine Jh ?_|refine ze ?_ a6|refine ze ?_ a5))))) ?_;rintro e wt ⟨j4,rfl,b6,a5⟩)|(go_at_call 14;refine Jm (eqOp_same [int i64 y.kind,.string y.own,int i64 y.name,.slice (some ⟨b0,0,none⟩) y.lgn y.lgn,int i64 y.pe,int i64 y.len,int i64 y.hei,int i64 y.cl,.bool y.all,int i64 y.be,int i64 y.unt,int i64 y.now] j4 y _ HU.out (d9.out _ (by repeat(first|exact bZ|refine Jh ?_|refine ze ?_ a6|refine ze ?_ a5))) ((b6.is HU.out).below (by repeat(first|exact bZ|refine Jh ?_|refine ze ?_ a6|refine ze ?_ a5)))) ?_;rintro e k9 ⟨rfl,a6⟩))
  have f:Below b5.heap.size b5 k9:=(by repeat(first|exact bZ|refine Jh ?_|refine ze ?_ a6|refine ze ?_ a5))
  clear b6 a5 a6 KS BW d9;replace z:=ze z f;replace IN:=IN.below f;replace J:=zb J f;replace JN:=JN.below f;replace M:=zb M f;replace G:=G.below f;replace P:=zo f P;replace j:=zb j f;replace s:=zb s f;clear f;obtain⟨i0,i1,i2⟩:=ce3 J;go_wp2_with fail;refine(zjy [.slice (some ⟨b1,0,none⟩) x.san x.san,.slice (some ⟨a9,0,none⟩) x.ldn x.ldn,.slice (some ⟨a8,0,none⟩) x.bkn x.bkn] x wc.heap.size w4.heap.size k9 HT.out IN (by have:=zM J;omega)).mono ?_
  rintro e m3 ⟨⟨k,hk,rfl⟩,kp⟩;clear i0 i1 i2;have a4:Hid (wc.heap.size<=w4.heap.size/\w4.heap.size<w5.heap.size/\w5.heap.size<=O.heap.size/\O.heap.size<w7.heap.size/\w7.heap.size<=w8.heap.size):=⟨l0.out,k4.out,l1.out,k5.out,l2.out⟩;have Q:Hid (∀ b,(wc.heap.size<=b/\b<w4.heap.size)->wc.heap.size<=b/\b<w4.heap.size):=λb h=>h
  replace z:=zx.below z z.size kp (λb e=>(Q.out _ e).1)
  replace JN:=JN.kept kp (λb e=>by have:=Q.out _ e;have:=a4.out;omega)
  replace M:=kp.blk M (λe=>by have:=Q.out _ e;have:=a4.out;omega)
  replace j:=kp.blk j (λe=>by have:=Q.out _ e;have:=a4.out;omega)
  replace s:=kp.blk s (λe=>by have:=Q.out _ e;have:=a4.out;omega)
  replace G:=G.keep kp (λb q e=>by have:=Q.out _ e;have:=(G.blk b q).1;have:=a4.out;omega)
  replace P:=kp.own P (λb q e=>by have:=Q.out _ e;have:=(P.lt b q).1;have:=a4.out;omega)
  clear kp IN J Q;obtain⟨i0,i1,i2,i3,i4,i5,i6,i7,i8,i9,l7,m0⟩:=zeW M;go_wp2_with fail;refine(zlh [int i64 y.kind,.string y.own,int i64 y.name,.slice (some ⟨b0,0,none⟩) y.lgn y.lgn,int i64 y.pe,int i64 y.len,int i64 y.hei,int i64 y.cl,.bool y.all,int i64 y.be,int i64 y.unt,int i64 y.now] y w5.heap.size O.heap.size k m3 HU.out JN (by omega)).mono ?_
  rintro e n5 ⟨rfl,kp⟩;clear i0 i1 i2 i3 i4 i5 i6 i7 i8 i9 l7 m0;have Q:Hid (∀ b,(w5.heap.size<=b/\b<O.heap.size)->w5.heap.size<=b/\b<O.heap.size):=λb h=>h
  replace z:=zx.below z z.size kp (λb e=>by have:=Q.out _ e;have:=a4.out;omega)
  replace j:=kp.blk j (λe=>by have:=Q.out _ e;have:=a4.out;omega)
  replace s:=kp.blk s (λe=>by have:=Q.out _ e;have:=a4.out;omega)
  replace G:=G.keep kp (λb q e=>by have:=Q.out _ e;have:=(G.blk b q).1;have:=a4.out;omega)
  replace P:=kp.own P (λb q e=>by have:=Q.out _ e;have:=(P.lt b q).1;have:=a4.out;omega)
  clear kp JN M Q;have dk:decide ((k:Int)+(y.lgn:Int)<0)=false:=Jc (by omega)
  obtain⟨i0,i1,i2⟩:=ce3 j;obtain⟨j0,j1,j2⟩:=ce3 (zb h6.out z);go_wp2_with fail;refine(zbp [.slice d1 D.san e1,.slice d2 D.ldn e2,.slice d3 D.bkn e3] [.slice a1 D.san c1,.slice a2 D.ldn c2,.slice a3 D.bkn c3] D _ I.out.1.1 G.is (d5.out.1.below z)).mono ?_;rintro e n6 ⟨rfl,f⟩;clear i0 i1 i2 j0 j1 j2;replace z:=ze z f;replace G:=G.below f;replace P:=zo f P;replace j:=zb j f;replace s:=zb s f;clear f;obtain⟨i0,i1,i2,i3⟩:=ce4 s;obtain⟨j0,j1,j2,j3⟩:=ce4 (zb h7.out z);go_wp2_with fail;refine(zdH F name price dr N er T ar cr _ I.out.2 (zbI P) (d5.out.2.below z)).mono ?_;rintro e m4 ⟨rfl,f⟩;clear i0 i1 i2 i3 j0 j1 j2 j3;replace z:=ze z f;replace G:=G.below f;replace P:=zo f P;replace j:=zb j f;replace s:=zb s f;clear f;obtain⟨i0,i1,i2⟩:=ce3 j;go_wp2_with fail;have d6:Hid (∀ b,OffB (.slice d1 D.san e1) (.slice d2 D.ldn e2) (.slice d3 D.bkn e3) D.san D.ldn D.bkn L2 C2 A2 B2 D2 E2 b->wc.heap.size<=b/\b≠w8.heap.size/\b≠w8.heap.size+1/\(Value.slice dr N er).ownBlock≠some b):=λb e=>⟨by have:=(G.blk b e).1;have:=a4.out;omega,G.noBox j (by decide) b e,G.noBox s (by decide) b e,G.noRow P (by decide) b e⟩
  refine(zhs D d1 d2 d3 e1 e2 e3 w7.heap.size L2 C2 A2 B2 D2 E2 m4 I.out.1.2.1 I.out.1.2.2.1 I.out.1.2.2.2 I.out.1.1 G).mono ?_;rintro e m5 ⟨rfl,GM,kp⟩;clear i0 i1 i2;replace z:=zx.below z z.size kp (λb e=>(d6.out b e).1)
  replace j:=kp.blk j (λe=>(d6.out _ e).2.1 rfl)
  replace s:=kp.blk s (λe=>(d6.out _ e).2.2.1 rfl)
  replace P:=kp.own P (λb q e=>(d6.out _ e).2.2.2 q)
  clear kp G;have h0:=hI ((kO_le I.out.1.2.1 I.out.1.2.2.1 I.out.1.2.2.2 I.out.1.1).2.2);obtain⟨i0,i1,i2,i3⟩:=ce4 s;go_wp2_with fail;have e8:Hid (∀ b,(Value.slice dr N er).ownBlock=some b->wc.heap.size<=b/\b≠w8.heap.size/\b≠w8.heap.size+1):=λb e=>⟨by have:=(P.lt b e).1;have:=a4.out;omega,zQ P j (by decide) b e,zQ P s (by decide) b e⟩
  refine(zhJ F name price dr N er w7.heap.size ((kO D:Nat):Int) T m5 (by have:=I.out.2;omega) (by omega) (by have:=h0.out;omega) P).mono ?_
  rintro e f7 ⟨rfl,j7,kp⟩;clear i0 i1 i2 i3;replace z:=zx.below z z.size kp (λb e=>(e8.out b e).1)
  replace j:=kp.blk j (λe=>(e8.out _ e).2.1 rfl)
  replace s:=kp.blk s (λe=>(e8.out _ e).2.2 rfl)
  replace GM:=GM.keep kp (λb q e=>(d6.out b q).2.2.2 e)
  have RM:zbk f7 dr N (Qp (kO D)):=by have:=zbI j7;simpa using this
  clear kp P j7 d6 e8;have l3:decide (((kO D:Nat):Int)<0)=false:=Jc (by omega)
  have l4:decide (((kO D:Nat):Int)+5*(N:Int)<0)=false:=Jc (by omega)
  have l5:(((kO D:Nat):Int)+5*(N:Int) != ((kO D:Nat):Int)+5*(N:Int))=false:=by simp
  have SM:qB f7 d1 D.san (mO D).sa/\ZG f7 d2 D.ldn (mO D).ld/\qO f7 d3 D.bkn (mO D).bk:=⟨GM.sa.at,GM.ld.at,GM.bk.at⟩;clear GM;obtain⟨i0,i1,i2⟩:=ce3 j;go_wp2_with fail;refine(zdF D d1 d2 d3 e1 e2 e3 _ I.out.1.2.1 I.out.1.2.2.1 I.out.1.2.2.2 I.out.1.1 SM).mono ?_;rintro e n7 ⟨rfl,f⟩;clear i0 i1 i2;replace z:=ze z f;replace SM:=a0.intro (SM.1.below f) (a0.intro (SM.2.1.below f) (SM.2.2.below f));replace RM:=RM.below f;replace j:=zb j f;replace s:=zb s f;clear f;obtain⟨i0,i1,i2,i3⟩:=ce4 s;go_wp2_with fail;refine(zei F name price dr N er (kO D) _ (by have:=I.out.2;omega) (by have:=h0.out;omega) RM).mono ?_
  rintro e a7 ⟨rfl,f⟩;clear i0 i1 i2 i3;replace z:=ze z f;replace SM:=a0.intro (SM.1.below f) (a0.intro (SM.2.1.below f) (SM.2.2.below f));replace RM:=RM.below f;replace j:=zb j f;replace s:=zb s f;clear f;go_upto_region 35 with fail;have HI:=hI (d8.out.below (ze b2.out z));have HJ:=hI (e0.out.below (ze b2.out z));have f8:Hid (∀ c d u,Below a7.heap.size a7 u->Off.Is u c x->OpD.Is u d y->Calls prog 11 #[.agg c.toArray,int i64 b3,.agg d.toArray] u λe u'=>zla (λ_ a c n p N' T' o=>D=a/\F=c/\name=n/\price=p/\N=N'/\T=T'/\ok=o) u.heap.size e u'/\Below u.heap.size u u'):=λc d u q h1 h2=>(j8.out c d u (ze (ze b2.out z) q) h1 h2).mono λe u' h=>⟨⟨_,D,F,name,price,N,T,ok,⟨rfl,rfl,rfl,rfl,rfl,rfl,rfl⟩,h.1⟩,h.2⟩
  have HX:Hid (a7.heap[w8.heap.size]?=some (.cells #[.slice d1 D.san e1,.slice d2 D.ldn e2,.slice d3 D.bkn e3] 38 (0,0))/\a7.heap[w8.heap.size+1]?=some (.cells #[int i64 F,int i64 name,int i64 price,.slice dr N er] 41 (0,0))):=⟨j,s⟩;have e5:=hI SM;have h5:=hI RM;have g6:=hI z;have hA:=(zb HA.out z);have j5:=(zb g7.out z);clear j s SM RM z;go_cut [19,20,21] (λs8 s9 j6 wx=>∃ g8 g9 d4,s8=.pointer (some ⟨g8,0,none⟩)/\s9=.pointer (some ⟨g9,0,none⟩)/\j6=.bool d4/\Hid ((wx.heap[pA]?=some (.cells #[.slice V x.san Z,.slice S x.ldn X,.slice R x.bkn W] 26 (0,0))/\wx.heap[H]?=some (.cells #[int i64 y.kind,.string y.own,int i64 y.name,.slice U y.lgn Y,int i64 y.pe,int i64 y.len,int i64 y.hei,int i64 y.cl,.bool y.all,int i64 y.be,int i64 y.unt,int i64 y.now] 31 (0,0)))/\DopB (λ_ a c n p N' T' o=>D=a/\F=c/\name=n/\price=p/\N=N'/\T=T'/\ok=o) a7.heap.size g8 g9 d4 wx/\Below a7.heap.size a7 wx/\a7.heap.size<=g8/\a7.heap.size<=g9))
  case first =>
   have h4:Hid (RG a7 a7.drew pA H #[.slice V x.san Z,.slice S x.ldn X,.slice R x.bkn W] #[int i64 y.kind,.string y.own,int i64 y.name,.slice U y.lgn Y,int i64 y.pe,int i64 y.len,int i64 y.hei,int i64 y.cl,.bool y.all,int i64 y.be,int i64 y.unt,int i64 y.now] x y (λ_ a c n p N' T' o=>D=a/\F=c/\name=n/\price=p/\N=N'/\T=T'/\ok=o) none none none none none):=⟨bZ.drew,zb hA bZ.drew,zb j5 bZ.drew,λ_ e=>(by cases e),λ_ e=>(by cases e),λ_ e=>(by cases e),λ_ e=>(by cases e),λ_ e=>(by cases e)⟩
   clear hA j5 HX e5 h5 g6 dk l3 l4 l5 l6 d0;refine once ?_ (by
    intro e6;have g:=h4;refine qg 15 15 (λu=>u.cell? ⟨pA,0,none⟩=some (.slice V x.san Z)/\u.cell? ⟨pA,1,none⟩=some (.slice S x.ldn X)/\u.cell? ⟨pA,2,none⟩=some (.slice R x.bkn W)/\u.cell? ⟨H,0,none⟩=some (int i64 y.kind)/\u.cell? ⟨H,1,none⟩=some (.string y.own)/\u.cell? ⟨H,2,none⟩=some (int i64 y.name)/\u.cell? ⟨H,3,none⟩=some (.slice U y.lgn Y)/\u.cell? ⟨H,4,none⟩=some (int i64 y.pe)/\u.cell? ⟨H,5,none⟩=some (int i64 y.len)/\u.cell? ⟨H,6,none⟩=some (int i64 y.hei)/\u.cell? ⟨H,7,none⟩=some (int i64 y.cl)/\u.cell? ⟨H,8,none⟩=some (.bool y.all)/\u.cell? ⟨H,9,none⟩=some (int i64 y.be)/\u.cell? ⟨H,10,none⟩=some (int i64 y.unt)/\u.cell? ⟨H,11,none⟩=some (int i64 y.now)) rfl (by kernel_rfl) (QK g.out.a g.out.b) (λhS=>?_)
    simp only[List.replicate_succ,List.replicate_zero];generalize a7.drew=u at g hS ⊢
    (refine tkN 0 (v:=?_) rfl (by kernel_rfl) (λ_ _ _ h=>h) rfl (by assumption) ?_ ?_;rotate_left;(focus(intro w' h;(try dsimp only at h);go_simp;try with_reducible rfl));simp only[Act.put,sB,sZ,sS])
    (refine tkN 2 (v:=?_) rfl (by kernel_rfl) (λ_ _ _ h=>h) rfl (by assumption) ?_ ?_;rotate_left;(focus(intro w' h;(try dsimp only at h);go_simp;try with_reducible rfl));simp only[Act.put,sB,sZ,sS])
    (refine tkN 3 (v:=?_) rfl (by kernel_rfl) (λ_ _ _ h=>h) rfl (by assumption) ?_ ?_;rotate_left;(focus(intro w' h;(try dsimp only at h);go_simp;try with_reducible rfl));simp only[Act.put,sB,sZ,sS])
    iterate 5
     all_goals
      first
       | (have t:RG _ _ _ _ _ _ _ _ _ none none none none none:=g.out;clear t;refine zj (rs:=[1,10,11]) (by kernel_rfl) (by simp) ?_;refine zc.consL rfl (λK i=>?_) (zc.consL rfl (λK i=>?_) (zc.consL rfl (λK i=>?_) zc.nil)))
       | (have t:RG _ _ _ _ _ _ _ _ _ none (some _) none none none:=g.out;clear t;refine zj (rs:=[1,10]) (by kernel_rfl) (by simp) ?_;refine zc.consL rfl (λK i=>?_) (zc.consL rfl (λK i=>?_) zc.nil))
       | (have t:RG _ _ _ _ _ _ _ _ _ (some _) none none none none:=g.out;clear t;refine zj (rs:=[1,11]) (by kernel_rfl) (by simp) ?_;refine zc.consL rfl (λK i=>?_) (zc.consL rfl (λK i=>?_) zc.nil))
       | (have t:RG _ _ _ _ _ _ _ _ _ (some _) (some _) none none none:=g.out;clear t;refine zj (rs:=[1]) (by kernel_rfl) (by simp) ?_;refine zc.consL rfl (λK i=>?_) zc.nil)
       | (have t:RG _ _ _ _ _ _ _ _ _ none none (some _) none none:=g.out;clear t;refine zj (rs:=[4,10,11]) (by kernel_rfl) (by simp) ?_;refine zc.consL rfl (λK i=>?_) (zc.consL rfl (λK i=>?_) (zc.consL rfl (λK i=>?_) zc.nil)))
       | (have t:RG _ _ _ _ _ _ _ _ _ none (some _) (some _) none none:=g.out;clear t;refine zj (rs:=[4,10]) (by kernel_rfl) (by simp) ?_;refine zc.consL rfl (λK i=>?_) (zc.consL rfl (λK i=>?_) zc.nil))
       | (have t:RG _ _ _ _ _ _ _ _ _ (some _) none (some _) none none:=g.out;clear t;refine zj (rs:=[4,11]) (by kernel_rfl) (by simp) ?_;refine zc.consL rfl (λK i=>?_) (zc.consL rfl (λK i=>?_) zc.nil))
       | (have t:RG _ _ _ _ _ _ _ _ _ (some _) (some _) (some _) none none:=g.out;clear t;refine zj (rs:=[4]) (by kernel_rfl) (by simp) ?_;refine zc.consL rfl (λK i=>?_) zc.nil)
       | (have t:RG _ _ _ _ _ _ _ _ _ none none (some _) (some _) none:=g.out;clear t;refine zj (rs:=[5,10,11]) (by kernel_rfl) (by simp) ?_;refine zc.consL rfl (λK i=>?_) (zc.consL rfl (λK i=>?_) (zc.consL rfl (λK i=>?_) zc.nil)))
       | (have t:RG _ _ _ _ _ _ _ _ _ none (some _) (some _) (some _) none:=g.out;clear t;refine zj (rs:=[5,10]) (by kernel_rfl) (by simp) ?_;refine zc.consL rfl (λK i=>?_) (zc.consL rfl (λK i=>?_) zc.nil))
       | (have t:RG _ _ _ _ _ _ _ _ _ (some _) none (some _) (some _) none:=g.out;clear t;refine zj (rs:=[5,11]) (by kernel_rfl) (by simp) ?_;refine zc.consL rfl (λK i=>?_) (zc.consL rfl (λK i=>?_) zc.nil))
       | (have t:RG _ _ _ _ _ _ _ _ _ (some _) (some _) (some _) (some _) none:=g.out;clear t;refine zj (rs:=[5]) (by kernel_rfl) (by simp) ?_;refine zc.consL rfl (λK i=>?_) zc.nil)
       | (have t:RG _ _ _ _ _ _ _ _ _ none none (some _) (some _) (some _):=g.out;clear t;refine zj (rs:=[10,11]) (by kernel_rfl) (by simp) ?_;refine zc.consL rfl (λK i=>?_) (zc.consL rfl (λK i=>?_) zc.nil))
       | (have t:RG _ _ _ _ _ _ _ _ _ none (some _) (some _) (some _) (some _):=g.out;clear t;refine zj (rs:=[10]) (by kernel_rfl) (by simp) ?_;refine zc.consL rfl (λK i=>?_) zc.nil)
       | (have t:RG _ _ _ _ _ _ _ _ _ (some _) none (some _) (some _) (some _):=g.out;clear t;refine zj (rs:=[11]) (by kernel_rfl) (by simp) ?_;refine zc.consL rfl (λK i=>?_) zc.nil)
     all_goals
      go_simp
      first
       | (go_at_call 9;refine Jm (g.out.off [.slice V x.san Z,.slice S x.ldn X,.slice R x.bkn W] HT.out HI.out) ?_;clear g;rintro e u ⟨k1,rfl,g⟩;dsimp only;refine i.out _ _ (QK g.out.a g.out.b) (λhS=>?_);clear i K;simp only[sZ,sS])
       | (go_at_call 10;refine Jm (g.out.op [int i64 y.kind,.string y.own,int i64 y.name,.slice U y.lgn Y,int i64 y.pe,int i64 y.len,int i64 y.hei,int i64 y.cl,.bool y.all,int i64 y.be,int i64 y.unt,int i64 y.now] HU.out HJ.out) ?_;clear g;rintro e u ⟨k2,rfl,g⟩;dsimp only;refine i.out _ _ (QK g.out.a g.out.b) (λhS=>?_);clear i K;simp only[sZ,sS])
       | (go_at_call 11;refine Jm (g.out.dop 11 b3 (λc d u q h1 h2=>f8.out c d u q h1 h2)) ?_;clear g;rintro e u ⟨f1,n1,h1,f2,n2,h2,f3,n3,h3,c0,c9,b4,fr,n,hr,d4,rfl,g⟩;dsimp only;refine i.out _ _ (QK g.out.a g.out.b) (λhS=>?_);clear i K;simp only[sZ,sS];(refine tkN 6 (v:=?_) rfl (by kernel_rfl) (λ_ _ _ h=>h) rfl (by assumption) ?_ ?_;rotate_left;(focus(intro w' h;(try dsimp only at h);go_simp;try with_reducible rfl));simp only[Act.put,sB,sZ,sS]);(refine tkN 7 (v:=?_) rfl (by kernel_rfl) (λ_ _ _ h=>h) rfl (by assumption) ?_ ?_;rotate_left;(focus(intro w' h;(try dsimp only at h);go_simp;try with_reducible rfl));simp only[Act.put,sB,sZ,sS]);(refine tkN 8 (v:=?_) rfl (by kernel_rfl) (λ_ _ _ h=>h) rfl (by assumption) ?_ ?_;rotate_left;(focus(intro w' h;(try dsimp only at h);go_simp;try with_reducible rfl));simp only[Act.put,sB,sZ,sS]);(refine tkN 9 (v:=?_) rfl (by kernel_rfl) (λ_ _ _ h=>h) rfl (by assumption) ?_ ?_;rotate_left;(focus(intro w' h;(try dsimp only at h);go_simp;try with_reducible rfl));simp only[Act.put,sB,sZ,sS]))
       | (replace g:Hid _:=g.out.al8;refine i.out _ _ (QK g.out.a g.out.b) (λhS=>?_);clear i K;simp only[sZ,sS];generalize u.heap.size=b8 at g ⊢;generalize u.alloc (.cells #[.slice none 0 0,.slice none 0 0,.slice none 0 0] 38)=u at g hS ⊢)
       | (replace g:Hid _:=g.out.al9;refine i.out _ _ (QK g.out.a g.out.b) (λhS=>?_);clear i K;simp only[sZ,sS];generalize u.heap.size=b9 at g ⊢;generalize u.alloc (.cells #[int i64 0,int i64 0,int i64 0,.slice none 0 0] 41)=u at g hS ⊢)
    all_goals (clear hS;revert g;revert d4;revert hr;revert n;revert fr;revert b4;revert c9;revert c0;revert h3;revert n3;revert f3;revert h2;revert n2;revert f2;revert h1;revert n1;revert f1;revert k2;revert k1;revert b9;revert b8;revert u;exact e6))
   intro u b8 b9 k1 k2 f1 n1 h1 f2 n2 h2 f3 n3 h3 c0 c9 b4 fr n hr d4 g;have HF:Hid _:=g.out.fin;obtain⟨q0,q1,q2⟩:=ce3 HF.out.1.1;obtain⟨f0,f1,f2⟩:=fe3 HF.out.1.1;have e4:=HF.out.1.2;have HA:=HF.out.2.1;have HC:Hid _:=HF.out.2.2;unfold qt at e4 HA;unfold ZK qt at HC;clear HF g;refine zj (rs:=[12]) (by kernel_rfl) (by simp) ?_
   refine zc.consL rfl (λK i=>?_) zc.nil
   go_simp;refine i.out _ _ (QK HA.1 HA.2) (λhS=>?_)
   clear i K HA q0 q1 q2 f0 f1 f2;simp only[sZ,sS];obtain⟨q0,q1,q2,q3⟩:=ce4 e4;obtain⟨f0,f1,f2,f3⟩:=fe4 e4;clear e4;refine zj (rs:=[13]) (by kernel_rfl) (by simp) ?_
   refine zc.consL rfl (λK i=>?_) zc.nil
   go_simp;refine i.out _ _ (QK HC.out.1.1 HC.out.1.2) (λhS=>?_)
   clear i K q0 q1 q2 q3 f0 f1 f2 f3;simp only[sZ,sS];refine zj (rs:=[14]) (by kernel_rfl) (by simp) ?_
   refine zc.consL rfl (λK i=>?_) zc.nil
   go_simp;refine i.out _ _ (QK HC.out.1.1 HC.out.1.2) (λhS=>?_)
   clear i K;simp only[sZ,sS];refine zX (by kernel_rfl) ?_ _
   go_wp2;go_meet;exact⟨b8,b9,d4,rfl,rfl,rfl,HC⟩
  case rest =>
  obtain⟨g8,g9,d4,rfl,rfl,rfl,HC⟩:=hcut;obtain⟨_,⟨n0,o2,c0,c9,b4,N',T',⟨rfl,rfl,rfl,rfl,rfl,rfl,rfl⟩,f1,h1,f2,h2,f3,h3,fr,hr,L3,C3,A3,m6,D3,E3,V8,V9,ho,d7⟩,f,_,_⟩:=HC.out;have z:=ze g6.out f;have j:=zb HX.out.1 f;have s:=zb HX.out.2 f;have SM:=a0.intro (e5.out.1.below f) (a0.intro (e5.out.2.1.below f) (e5.out.2.2.below f));have RM:=h5.out.below f;clear HC f HX e5 h5 g6 hA j5 HI HJ f8;obtain⟨i0,i1,i2⟩:=ce3 V8;obtain⟨j0,j1,j2⟩:=ce3 (zb h6.out z);go_wp2_with fail;refine(zbp [.slice f1 D.san h1,.slice f2 D.ldn h2,.slice f3 D.bkn h3] [.slice a1 D.san c1,.slice a2 D.ldn c2,.slice a3 D.bkn c3] D _ I.out.1.1 ho.is (d5.out.1.below z)).mono ?_;rintro e n8 ⟨rfl,f⟩;clear i0 i1 i2 j0 j1 j2;replace z:=ze z f;replace SM:=a0.intro (SM.1.below f) (a0.intro (SM.2.1.below f) (SM.2.2.below f));replace RM:=RM.below f;replace j:=zb j f;replace s:=zb s f;replace ho:=ho.below f;replace d7:=zo f d7;replace V8:=zb V8 f;replace V9:=zb V9 f;clear f;obtain⟨i0,i1,i2,i3⟩:=ce4 V9;obtain⟨j0,j1,j2,j3⟩:=ce4 (zb h7.out z);go_wp2_with fail;refine(zdH F name price fr N hr T ar cr _ I.out.2 (zbI d7) (d5.out.2.below z)).mono ?_;rintro e n9 ⟨rfl,f⟩;clear i0 i1 i2 i3 j0 j1 j2 j3;replace z:=ze z f;replace SM:=a0.intro (SM.1.below f) (a0.intro (SM.2.1.below f) (SM.2.2.below f));replace RM:=RM.below f;replace j:=zb j f;replace s:=zb s f;replace ho:=ho.below f;replace d7:=zo f d7;replace V8:=zb V8 f;replace V9:=zb V9 f;clear f;clear V8 V9 ho d7;obtain⟨i0,i1,i2⟩:=ce3 j;go_wp2_with fail;refine(zdF D d1 d2 d3 e1 e2 e3 _ I.out.1.2.1 I.out.1.2.2.1 I.out.1.2.2.2 I.out.1.1 SM).mono ?_;rintro e o0 ⟨rfl,f⟩;clear i0 i1 i2;replace z:=ze z f;replace SM:=a0.intro (SM.1.below f) (a0.intro (SM.2.1.below f) (SM.2.2.below f));replace RM:=RM.below f;replace j:=zb j f;replace s:=zb s f;clear f;obtain⟨i0,i1,i2,i3⟩:=ce4 s;go_wp2_with fail;refine(zei F name price dr N er (kO D) _ (by have:=I.out.2;omega) (by have:=h0.out;omega) RM).mono ?_
  rintro e o1 ⟨rfl,f⟩;clear i0 i1 i2 i3;replace z:=ze z f;replace SM:=a0.intro (SM.1.below f) (a0.intro (SM.2.1.below f) (SM.2.2.below f));replace RM:=RM.below f;replace j:=zb j f;replace s:=zb s f;clear f;go_wp2;go_ret;exact⟨rfl,ze b2.out z⟩
end
section
variable{H:Type}{W:World}{base m fuel:Nat}
open Go.ChangeShapes Go.WideShapes Go.ChangeAt Go.RowKit
theorem Tryz.gForms: Tryz.prog.globalNamed "loop.example/g00084/impl.opForms" = some 9 := by kernel_rfl
theorem Tryz.gFormsType:(Tryz.prog.globals[9]?).map (·.type)=some 264:=by kernel_rfl
theorem Tryz.cellsF10:Tryz.prog.cellsOf 264=70:=by kernel_rfl
theorem Tryz.cellsForm:Tryz.prog.cellsOf 263=7:=by kernel_rfl
theorem Tryz.cellsInt1:Tryz.prog.cellsOf 3=1:=by kernel_rfl
theorem Tryz.cellsBool1:Tryz.prog.cellsOf 4=1:=by kernel_rfl
/-- A form read as its seven fields is those seven cells. -/
theorem zoj {e:TypeId × Value->H}{b:Nat->Bool}{c:Bool}{l:List Value}{x:DataW H × List MemPlace}{f g:Bool}{i:Int}{j k o p:Bool}
  (h:DataW.trod e prog W base b c m 263 l=some x) (I:x.1=.agg [.lit (.bool f),.lit (.bool g),.lit (.int .i64 i),.lit (.bool j),.lit (.bool k),.lit (.bool o),.lit (.bool p)]) :
  l=[.bool f,.bool g,int i64 i,.bool j,.bool k,.bool o,.bool p]:=by
 obtain⟨Q,n,_,rfl,G,d,a⟩:=DataW.trod_struct underlying263 h;rw[Tryz.cellsForm] at G
 match Q,d,l,G with
 | [y0,y1,y2,y3,y4,y5,y6],_,[c0,c1,c2,c3,c4,c5,c6],_ =>
  have y:=a 0 _ rfl;have z:=a 1 _ rfl;have B:=a 2 _ rfl;have C:=a 3 _ rfl;have D:=a 4 _ rfl;have E:=a 5 _ rfl;have F:=a 6 _ rfl;simp[Tryz.cellsInt1,Tryz.cellsBool1] at y z B C D E F;obtain⟨k0,q,J⟩:=DataW.trod_bool underlying4 y;obtain⟨k1,r,K⟩:=DataW.trod_bool underlying4 z;obtain⟨k2,s,L,_⟩:=DataW.trod_int underlying3 B;obtain⟨k3,t,M⟩:=DataW.trod_bool underlying4 C;obtain⟨k4,u,N⟩:=DataW.trod_bool underlying4 D;obtain⟨k5,v,O⟩:=DataW.trod_bool underlying4 E;obtain⟨k6,w,P⟩:=DataW.trod_bool underlying4 F;simp[J,K,L,M,N,O,P] at I;simp at q r s t u v w;obtain⟨rfl,rfl,rfl,rfl,rfl,rfl,rfl⟩:=I;rw[q,r,s,t,u,v,w]
theorem row_cell {l:List Value}{k j:Nat}(a:j<7)(r:List Value)(h:(l.drop (k*7)).take 7=r):l[k*7+j]?=r[j]?:=by
 rw[← h,List.getElem?_take,Jf a,List.getElem?_drop]
theorem forms_of {i:TypeId × Value->H}{d:Nat->Bool}{e:Bool}{p:List MemPlace}{cs:Array Value}
  (hv : W.var? Tryz.prog "loop.example/g00084/impl.opForms" = some cs)
  (o:DataW.trod i prog W base d e fuel 264 cs.toList=some (Rows.laid_loop_example_g00084_impl_opForms,p)):Zm W:=by
 obtain⟨D,m,_,g,f,s,b⟩:=DataW.trod_array underlying264 o;rw[Tryz.cellsF10] at f;rw[Tryz.cellsForm] at b;have cell:=World.var?_cell Tryz.gForms hv;obtain⟨l⟩:=cs;simp only[Prod.mk.injEq] at g;have g:=g.1
 match D,s with
 | [x0,x1,x2,x3,x4,x5,x6,x7,x8,x9],_ =>
  simp[Rows.laid_loop_example_g00084_impl_opForms] at g;obtain⟨t,u,v,w,x,y,z,A,B,C⟩:=g;intro k hk;have c:∀ r,_->∀ j,_->W.cell? _=r[j]?:=λr h j q=>by
   have:=cell (k*7+j);simp at this;rw[this];exact row_cell q r h
  have n:k=0∨k=1∨k=2∨k=3∨k=4∨k=5∨k=6∨k=7∨k=8∨k=9:=by omega
  rcases n with rfl|rfl|rfl|rfl|rfl|rfl|rfl|rfl|rfl|rfl
  ·have hr:=zoj (b 0 (by decide)) t.symm
   have a:=c _ hr;exact⟨a 0 (by decide),a 1 (by decide),a 2 (by decide),a 3 (by decide),a 4 (by decide),a 5 (by decide),a 6 (by decide)⟩
  ·have hr:=zoj (b 1 (by decide)) u.symm
   have a:=c _ hr;exact⟨a 0 (by decide),a 1 (by decide),a 2 (by decide),a 3 (by decide),a 4 (by decide),a 5 (by decide),a 6 (by decide)⟩
  ·have hr:=zoj (b 2 (by decide)) v.symm
   have a:=c _ hr;exact⟨a 0 (by decide),a 1 (by decide),a 2 (by decide),a 3 (by decide),a 4 (by decide),a 5 (by decide),a 6 (by decide)⟩
  ·have hr:=zoj (b 3 (by decide)) w.symm
   have a:=c _ hr;exact⟨a 0 (by decide),a 1 (by decide),a 2 (by decide),a 3 (by decide),a 4 (by decide),a 5 (by decide),a 6 (by decide)⟩
  ·have hr:=zoj (b 4 (by decide)) x.symm
   have a:=c _ hr;exact⟨a 0 (by decide),a 1 (by decide),a 2 (by decide),a 3 (by decide),a 4 (by decide),a 5 (by decide),a 6 (by decide)⟩
  ·have hr:=zoj (b 5 (by decide)) y.symm
   have a:=c _ hr;exact⟨a 0 (by decide),a 1 (by decide),a 2 (by decide),a 3 (by decide),a 4 (by decide),a 5 (by decide),a 6 (by decide)⟩
  ·have hr:=zoj (b 6 (by decide)) z.symm
   have a:=c _ hr;exact⟨a 0 (by decide),a 1 (by decide),a 2 (by decide),a 3 (by decide),a 4 (by decide),a 5 (by decide),a 6 (by decide)⟩
  ·have hr:=zoj (b 7 (by decide)) A.symm
   have a:=c _ hr;exact⟨a 0 (by decide),a 1 (by decide),a 2 (by decide),a 3 (by decide),a 4 (by decide),a 5 (by decide),a 6 (by decide)⟩
  ·have hr:=zoj (b 8 (by decide)) B.symm
   have a:=c _ hr;exact⟨a 0 (by decide),a 1 (by decide),a 2 (by decide),a 3 (by decide),a 4 (by decide),a 5 (by decide),a 6 (by decide)⟩
  ·have hr:=zoj (b 9 (by decide)) C.symm
   have a:=c _ hr;exact⟨a 0 (by decide),a 1 (by decide),a 2 (by decide),a 3 (by decide),a 4 (by decide),a 5 (by decide),a 6 (by decide)⟩
end
section
variable{H:Type}{W:World}{base m fuel:Nat}
open Go.ChangeShapes Go.WideShapes Go.ChangeAt Go.RowKit
theorem Tryz.gBands: Tryz.prog.globalNamed "loop.example/g00084/impl.carBands" = some 11 := by kernel_rfl
theorem Tryz.gBandsType:(Tryz.prog.globals[11]?).map (·.type)=some 390:=by kernel_rfl
theorem Tryz.gFares: Tryz.prog.globalNamed "loop.example/g00084/impl.berthFares" = some 10 := by kernel_rfl
theorem Tryz.gFaresType:(Tryz.prog.globals[10]?).map (·.type)=some 386:=by kernel_rfl
theorem Tryz.cellsB3:Tryz.prog.cellsOf 390=6:=by kernel_rfl
theorem Tryz.cellsBand:Tryz.prog.cellsOf 389=2:=by kernel_rfl
theorem Tryz.cellsI3:Tryz.prog.cellsOf 386=3:=by kernel_rfl
theorem Tryz.cellsI1:Tryz.prog.cellsOf 3=1:=by kernel_rfl
/-- A band read as its two numbers is those two cells. -/
theorem zoD {e:TypeId × Value->H}{a:Nat->Bool}{b:Bool}{c d:Value}{x:DataW H × List MemPlace}{i j:Int}
  (h:DataW.trod e prog W base a b m 389 [c,d]=some x) (f:x.1=.agg [.lit (.int .i64 i),.lit (.int .i64 j)]):c=.int .i64 i/\d=.int .i64 j:=by
 obtain⟨y0,y1,n,rfl,hl,l,h1⟩:=trod_struct2 underlying389 h;simp only[Tryz.cellsI1] at l h1;obtain⟨k0,g,o,_⟩:=DataW.trod_int underlying3 l;obtain⟨k1,k,p,_⟩:=DataW.trod_int underlying3 h1;simp at g k;rw[o,p] at f;simp at f;obtain⟨rfl,rfl⟩:=f;exact⟨g,k⟩
theorem bands_of {f:TypeId × Value->H}{d:Nat->Bool}{e:Bool}{p:List MemPlace}{cs:Array Value}
  (hv : W.var? Tryz.prog "loop.example/g00084/impl.carBands" = some cs)
  (h:DataW.trod f prog W base d e fuel 390 cs.toList=some (Rows.laid_loop_example_g00084_impl_carBands,p)):Zq W:=by
 obtain⟨j,m,_,c,b,i,a⟩:=DataW.trod_array underlying390 h;rw[Tryz.cellsB3] at b;rw[Tryz.cellsBand] at a;have cell:=World.var?_cell Tryz.gBands hv;obtain⟨l⟩:=cs;simp only[Prod.mk.injEq] at c;have c:=c.1
 match j,i,l,b with
 | [x0,x1,x2],_,[c0,c1,c2,c3,c4,c5],_ =>
  have g:=a 0 (by decide)
  have h1:=a 1 (by decide)
  have h2:=a 2 (by decide)
  simp at g h1 h2;simp[Rows.laid_loop_example_g00084_impl_carBands] at c;obtain⟨rfl,rfl⟩:=zoD g c.1.symm;obtain⟨rfl,rfl⟩:=zoD h1 c.2.1.symm;obtain⟨rfl,rfl⟩:=zoD h2 c.2.2.symm;exact⟨by simpa using cell 0,by simpa using cell 1,by simpa using cell 2,by simpa using cell 3,by simpa using cell 4,by simpa using cell 5⟩
theorem fares_of {f:TypeId × Value->H}{c:Nat->Bool}{d:Bool}{p:List MemPlace}{cs:Array Value}
  (hv : W.var? Tryz.prog "loop.example/g00084/impl.berthFares" = some cs)
  (q:DataW.trod f prog W base c d fuel 386 cs.toList=some (Rows.laid_loop_example_g00084_impl_berthFares,p)):Zu W:=by
 obtain⟨s,m,_,e,b,r,a⟩:=DataW.trod_array underlying386 q;rw[Tryz.cellsI3] at b;rw[Tryz.cellsI1] at a;have cell:=World.var?_cell Tryz.gFares hv;obtain⟨l⟩:=cs;simp only[Prod.mk.injEq] at e;have e:=e.1
 match s,r,l,b with
 | [x0,x1,x2],_,[c0,c1,c2],_ =>
  have j:=a 0 (by decide)
  have h1:=a 1 (by decide)
  have h2:=a 2 (by decide)
  simp at j h1 h2;obtain⟨k0,g,k,_⟩:=DataW.trod_int underlying3 j;obtain⟨k1,h,n,_⟩:=DataW.trod_int underlying3 h1;obtain⟨k2,i,o,_⟩:=DataW.trod_int underlying3 h2;simp[Rows.laid_loop_example_g00084_impl_berthFares,k,n,o] at e;simp at g h i;obtain⟨rfl,rfl,rfl⟩:=e;subst g h i;exact⟨by simpa using cell 0,by simpa using cell 1,by simpa using cell 2⟩
end
section
variable{W:World}{g:Nat}
open Go.ChangeShapes Go.WideShapes Go.ChangeAt Go.RowKit
theorem Tryz.gE1: Tryz.prog.globalNamed "loop.example/g00084/impl.errForm" = some 1 := by kernel_rfl
theorem Tryz.tE1:(Tryz.prog.globals[1]?).map (·.type)=some 92:=by kernel_rfl
theorem Tryz.gE2: Tryz.prog.globalNamed "loop.example/g00084/impl.errRoute" = some 2 := by kernel_rfl
theorem Tryz.tE2:(Tryz.prog.globals[2]?).map (·.type)=some 92:=by kernel_rfl
theorem Tryz.gE3: Tryz.prog.globalNamed "loop.example/g00084/impl.errNone" = some 3 := by kernel_rfl
theorem Tryz.tE3:(Tryz.prog.globals[3]?).map (·.type)=some 92:=by kernel_rfl
theorem Tryz.gE4: Tryz.prog.globalNamed "loop.example/g00084/impl.errState" = some 4 := by kernel_rfl
theorem Tryz.tE4:(Tryz.prog.globals[4]?).map (·.type)=some 92:=by kernel_rfl
theorem Tryz.gE5: Tryz.prog.globalNamed "loop.example/g00084/impl.errDeck" = some 5 := by kernel_rfl
theorem Tryz.tE5:(Tryz.prog.globals[5]?).map (·.type)=some 92:=by kernel_rfl
theorem Tryz.gE6: Tryz.prog.globalNamed "loop.example/g00084/impl.errCabin" = some 6 := by kernel_rfl
theorem Tryz.tE6:(Tryz.prog.globals[6]?).map (·.type)=some 92:=by kernel_rfl
theorem Tryz.gE7: Tryz.prog.globalNamed "loop.example/g00084/impl.errPeople" = some 7 := by kernel_rfl
theorem Tryz.tE7:(Tryz.prog.globals[7]?).map (·.type)=some 92:=by kernel_rfl
theorem Tryz.gE8: Tryz.prog.globalNamed "loop.example/g00084/impl.errFull" = some 8 := by kernel_rfl
theorem Tryz.tE8:(Tryz.prog.globals[8]?).map (·.type)=some 92:=by kernel_rfl
theorem errStar: "*" ++ "errors.errorString" = "*errors.errorString" := by decide
theorem Tryz.errRow (u : TypeId) (h : Tryz.prog.typeName? 3 u = some "*errors.errorString") : u = 391 :=
 typeName_ptr_named (nm := "errors.errorString") (by rw [errStar]; kernel_rfl) (by kernel_rfl) (by decide) u (by rw [errStar]; exact h)
theorem Tryz.errCells:Tryz.prog.cellsOf 413=1:=by kernel_rfl
theorem Tryz.strCells:Tryz.prog.cellsOf 9=1:=by kernel_rfl
def txOf:DataW Unit->List UInt8
 | .iface _ (.ptr (.agg [.lit (.string s)]))=>s
 | _=>[]
def errD (k:Nat):DataW Unit:=match k with
 | 1=>Rows.laid_loop_example_g00084_impl_errForm
 | 2=>Rows.laid_loop_example_g00084_impl_errRoute
 | 3=>Rows.laid_loop_example_g00084_impl_errNone
 | 4=>Rows.laid_loop_example_g00084_impl_errState
 | 5=>Rows.laid_loop_example_g00084_impl_errDeck
 | 6=>Rows.laid_loop_example_g00084_impl_errCabin
 | 7=>Rows.laid_loop_example_g00084_impl_errPeople
 | 8=>Rows.laid_loop_example_g00084_impl_errFull
 | _=>.nil
theorem errTx_one:((List.range 9).all λi=>(List.range 9).all λj=>i == 0 || j == 0 || i == j || txOf (errD i) != txOf (errD j))=true:=by kernel_rfl
theorem zoz {P:Program}{n nm:String}{d:List UInt8}{r:List (String × DataW Unit)}{E C B D:TypeId}{Q:Array (String × TypeId)}{f:Field}
  (h:laidMet P ((n,.iface nm (.ptr (.agg [.lit (.string d)]))) :: r) W)
  (I:P.globalNamed n=some g) (N:(P.globals[g]?).map (·.type)=some E) (K:P.underlying E=some (.interface Q)) (j:∀ u,P.typeName? 3 u=some nm->u=C)
  (L:P.underlying C=some (.pointer B)) (H:P.underlying B=some (.struct #[f])) (x:f.type=D) (w:f.offset=0) (M:P.underlying D=some .string) (G:P.cellsOf B=1) (p:P.cellsOf D=1) :
  ∃ (a:Addr) (s:ByteArray),W.cell? (g,0)=some (.iface C (.pointer (some a)))/\W.cell? a=some (.string s)/\s.data.toList=d/\∃ cs t,W.heap[a.block]?=some (.cells cs t (0,0)):=by
 obtain⟨ps,⟨g0,t0,m,f0,p0,q0,i,z,k,q,_,F⟩,_,b⟩:=h;obtain rfl:=Option.some.inj (I.symm.trans i);obtain rfl:=Option.some.inj (N.symm.trans z);subst F;obtain⟨O⟩:=m;have A:∀ u v,O=[.iface u v]->Value.okWide P W _ 0 u v:=λu v e=>by
  subst e;exact(b g 0 (by simp[MemPlace.row])).2 u v (by simpa using World.var?_cell i k 0)
 obtain⟨l,R,rfl,o,y,_,rfl⟩:=errorString_of_trod K j L H x w M G p q A;obtain⟨⟨c,t,J⟩,_⟩:=b l.block l.off (by simp[MemPlace.row])
 exact⟨l,R,by simpa using World.var?_cell i k 0,o,y,c,t,J⟩
theorem sentinel_at {n : String}  {d : DataW Unit} {r : List (String × DataW Unit)}  (h : laidMet Tryz.prog ((n, d) :: r) W) (hd : d = .iface "*errors.errorString" (.ptr (.agg [.lit (.string (txOf d))]))) (hg : Tryz.prog.globalNamed n = some g) (ht : (Tryz.prog.globals[g]?).map (·.type) = some 92) :
  ∃ (a:Addr) (s:ByteArray),W.cell? ⟨g,0,none⟩=some (.iface 391 (.pointer (some a)))/\W.cell? a=some (.string s)/\s.data.toList=txOf d/\∃ cs t,W.heap[a.block]?=some (.cells cs t (0,0)):=by
 rw[hd] at h;exact zoz h hg ht underlying92 Tryz.errRow underlying391 underlying413 rfl rfl underlying9 Tryz.errCells Tryz.strCells
theorem Tryz.rtypeRow: (Tryz.prog.cutTypes.find? (·.1 == "internal/reflectlite.rtype")).map (·.2) = some 284 := by kernel_rfl
theorem Tryz.errTypeRow:((List.range Tryz.prog.types.size).filter λt=>Tryz.prog.rowNamed t [101,114,114,111,114])=[92]:=by kernel_rfl
theorem Tryz.errHandle:typeHandle prog 92=.pointer (some (12,92)):=by kernel_rfl
theorem Tryz.gErrType: Tryz.prog.globalNamed "errors.errorType" = some 0 := by kernel_rfl
theorem handle_at  {r : List (String × DataW Unit)} (h : handlesMet Tryz.prog (("errors.errorType", Rows.laid_errors_errorType) :: r) W) : W.cell? ⟨0, 0, none⟩ = some (.iface 284 (.agg #[.pointer (some ⟨12, 92, none⟩)])) := by
 obtain⟨name,u,i,c,d,e,f,a⟩:=h _ (List.mem_cons_self ..);have g:=(Option.some.inj c).symm;subst g;obtain rfl:=Option.some.inj (Tryz.rtypeRow.symm.trans d);have b:i ∈ (List.range _).filter λt=>Tryz.prog.rowNamed t _:=List.mem_filter.2 ⟨List.mem_range.2 e,f⟩
 rw[Tryz.errTypeRow] at b;obtain rfl:=List.mem_singleton.1 b;rw[Tryz.errHandle] at a
 simpa using World.var?_cell Tryz.gErrType a 0
def lVars : List (String × DataW Unit) := [("loop.example/g00084/impl.carBands", Rows.laid_loop_example_g00084_impl_carBands), ("loop.example/g00084/impl.berthFares", Rows.laid_loop_example_g00084_impl_berthFares), ("loop.example/g00084/impl.errForm", Rows.laid_loop_example_g00084_impl_errForm), ("loop.example/g00084/impl.errRoute", Rows.laid_loop_example_g00084_impl_errRoute), ("loop.example/g00084/impl.errNone", Rows.laid_loop_example_g00084_impl_errNone), ("loop.example/g00084/impl.errState", Rows.laid_loop_example_g00084_impl_errState), ("loop.example/g00084/impl.errDeck", Rows.laid_loop_example_g00084_impl_errDeck), ("loop.example/g00084/impl.errCabin", Rows.laid_loop_example_g00084_impl_errCabin), ("loop.example/g00084/impl.errPeople", Rows.laid_loop_example_g00084_impl_errPeople), ("loop.example/g00084/impl.errFull", Rows.laid_loop_example_g00084_impl_errFull), ("loop.example/g00084/impl.opForms", Rows.laid_loop_example_g00084_impl_opForms)]
theorem laid_dop (h:laidMet prog lVars W):∃ pe,Zm W/\(Zq W/\Zu W)/\qY W pe:=by
 unfold lVars at h;have K:=h;have L:=K.tail;have M:=L.tail;obtain⟨g,s1,c1,Z,t1,o1⟩:=sentinel_at M rfl Tryz.gE1 Tryz.tE1;have N:=M.tail;obtain⟨l,s2,c2,d2,t2,o2⟩:=sentinel_at N rfl Tryz.gE2 Tryz.tE2;have O:=N.tail;obtain⟨m,s3,c3,d3,t3,o3⟩:=sentinel_at O rfl Tryz.gE3 Tryz.tE3;have P:=O.tail;obtain⟨n,s4,c4,d4,t4,o4⟩:=sentinel_at P rfl Tryz.gE4 Tryz.tE4;have Q:=P.tail;obtain⟨p,s5,c5,d5,t5,o5⟩:=sentinel_at Q rfl Tryz.gE5 Tryz.tE5;have R:=Q.tail;obtain⟨q,s6,c6,d6,t6,o6⟩:=sentinel_at R rfl Tryz.gE6 Tryz.tE6;have S:=R.tail;obtain⟨r,s7,c7,d7,t7,o7⟩:=sentinel_at S rfl Tryz.gE7 Tryz.tE7;have T:=S.tail;obtain⟨u,s8,c8,d8,t8,o8⟩:=sentinel_at T rfl Tryz.gE8 Tryz.tE8;have J:=T.tail;obtain⟨_,⟨g0,u0,V,f0,p0,q0,z,D,G,w,_⟩,_⟩:=K;obtain rfl:=Option.some.inj (Tryz.gBands.symm.trans z);obtain rfl:=Option.some.inj (Tryz.gBandsType.symm.trans D);obtain⟨_,⟨g1,u1,X,f1,p1,q1,A,E,H,x,_⟩,_⟩:=L;obtain rfl:=Option.some.inj (Tryz.gFares.symm.trans A);obtain rfl:=Option.some.inj (Tryz.gFaresType.symm.trans E);obtain⟨_,⟨g2,u2,Y,f2,p2,q2,B,F,I,y,_⟩,_⟩:=J;obtain rfl:=Option.some.inj (Tryz.gForms.symm.trans B);obtain rfl:=Option.some.inj (Tryz.gFormsType.symm.trans F);have d:∀ k,1<=k->k<=8->k=1∨k=2∨k=3∨k=4∨k=5∨k=6∨k=7∨k=8:=λk h1 h2=>by omega
 have at_:∀ k,_->_->∃ a s,a=(match k with|1=>g|2=>l|3=>m|4=>n|5=>p|6=>q|7=>r|_=>u)/\W.cell? a=some (.string s)/\s.data.toList=txOf (errD k)/\∃ cs t,W.heap[a.block]?=some (.cells cs t _):=λk h1 h2=>by
  rcases d k h1 h2 with rfl|rfl|rfl|rfl|rfl|rfl|rfl|rfl
  ·exact⟨g,s1,rfl,Z,t1,o1⟩
  ·exact⟨l,s2,rfl,d2,t2,o2⟩
  ·exact⟨m,s3,rfl,d3,t3,o3⟩
  ·exact⟨n,s4,rfl,d4,t4,o4⟩
  ·exact⟨p,s5,rfl,d5,t5,o5⟩
  ·exact⟨q,s6,rfl,d6,t6,o6⟩
  ·exact⟨r,s7,rfl,d7,t7,o7⟩
  ·exact⟨u,s8,rfl,d8,t8,o8⟩
 refine⟨λk=>match k with|1=>g|2=>l|3=>m|4=>n|5=>p|6=>q|7=>r|_=>u,forms_of I y,⟨bands_of G w,fares_of H x⟩,c1,c2,c3,c4,c5,c6,c7,c8,λk h1 h2=>?_,λi j h1 h2 h3 h4 a0 e=>?_⟩
 ·obtain⟨a,s,rfl,_,_,o⟩:=at_ k h1 h2
  exact o
 ·obtain⟨a,s,ea,da,U,_⟩:=at_ i h1 h2
  obtain⟨b,s',eb,f,tb,_⟩:=at_ j h3 h4;have v:=ea.trans (Eq.trans e eb.symm);subst v;rw[da] at f;have es:s=s':=by injection f with f;injection f
  have c:=errTx_one;simp only[List.all_eq_true,List.mem_range] at c;have C:=c i (by omega) j (by omega)
  rw[es,tb] at U;simp[U] at C
  omega
end
section
open Go.ChangeShapes Go.WideShapes Go.ChangeAt Go.RowKit
theorem laid_dopr {W:World}(h:laidMetH prog Rows.fnExactDoOpRow.laid W):∃ pe,Zm W/\(Zq W/\Zu W)/\qY W pe/\W.cell? (0,0)=some (.iface 284 (.agg #[.pointer (some (12,92))])):=by
 have a:laidMet _ lVars W/\handlesMet _ [_] W:=h;obtain⟨pe,h1,h2,h3⟩:=laid_dop a.1;exact⟨pe,h1,h2,h3,handle_at a.2⟩
theorem lawDoOpR (cs:List Value)(x:Off)(a:Int)(os:List Value)(y:OpD)(w:World)(f:Off.Short x 1000000000000000)(c:Off.Is w cs x)(hr:OpD.Short y 1000000000000000)(d:OpD.Is w os y)
  (h:∃ pe,Zm w/\(Zq w/\Zu w)/\qY w pe/\w.cell? (0,0)=some (.iface 284 (.agg #[.pointer (some (12,92))]))) :
  Calls prog 3 #[.agg cs.toArray,a,.agg os.toArray] w λe w'=>e=.returned (.bool true)/\Below w.heap.size w w':=by
 obtain⟨pe,h1,h2,h3,b⟩:=h;exact lawDoOp cs os x y a pe w f c hr d h1 h2 h3 b
theorem zoI {H:Type}{b:TypeId × Value->H}{P:Program}{w:World}{a:Nat->Bool}:∀ {d:List String}{c:List (DataW H)}{f:List MemPlace},DataW.TrodVars b P w a d c f->c.length=d.length
 | [],[],_,_=>rfl
 | [],_ :: _,_,h=>by simp[DataW.TrodVars] at h
 | _ :: _,[],_,h=>by simp[DataW.TrodVars] at h
 | _ :: _,_ :: _,_,h=>by
  obtain⟨_,_,_,_,_,_,_,_,_,_,e,_⟩:=h;simp[zoI e]
end
theorem joinA:(Rows.fnExactDoOpRow.inPlace == Tryz.prog.inPlace 3)=true:=by kernel_rfl
theorem joinB:(Rows.fnExactDoOpRow.unfollowed == Tryz.prog.unfollowed 3)=true:=by kernel_rfl
theorem joinC:(Rows.fnExactDoOpRow.recurses == Tryz.prog.recurses 3)=true:=by kernel_rfl
theorem joinE:(Rows.fnExactDoOpRow.named == Tryz.prog.varsNamed 3)=true:=by kernel_rfl
theorem joinD:joinedFacts prog 3 Tryz.f3 Rows.fnExactDoOpSpec Rows.fnExactDoOpRow=true:=by
 unfold joinedFacts;rw[joinA,joinB,joinC,joinE]
 kernel_rfl
section
open Go.ChangeShapes Go.WideShapes Go.ChangeAt Go.RowKit Go.Deep
section
variable {H : Type} {enc : TypeId × Value -> H} {P : Program} {w : World} {base : Nat} {spare : Nat -> Bool} {held : Bool}
end
end
end Go.Proofs.YtmdnjgihooflfaaGreatDoor
