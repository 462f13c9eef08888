/-
  OWN TEXT: Dop1, FaultI, AsI, AsJ, BookI, JustI, DeckI.
-/
import Derived.Test.YtmdnjgihooflfaaGreatDoorChecked
import Derived.LaidEql
import Derived.Stop.Asserts
import Derived.RowKitTokens
import Derived.Shelf.Abstract
import Derived.Deep.LoopGhost
import Derived.Deep.DeepCutAuto
import Derived.Test.YtmdnjgihooflfaaGreatDoorB31
namespace Go.Proofs.YtmdnjgihooflfaaGreatDoor
open Go.RowKit
open Go.Value (int)
open Go.IntKind (i64)
open Tryz
set_option maxHeartbeats 64000000
set_option maxRecDepth 100000
structure DSit (u:World)(b c d:Nat)(e f g:Value)(a:Int)(os:Array Value):Prop where
 bo:u.heap[b]?=some (.cells #[e,f,g] 38 (0,0))
 bb:u.heap[c]?=some (.cells #[a] 3 (0,0))
 bp:u.heap[d]?=some (.cells os 47 (0,0))
theorem DSit.below {u j:World}{c d e:Nat}{f g i:Value}{a:Int}{os:Array Value}(h:DSit u c d e f g i a os)(b:Below u.heap.size u j):DSit j c d e f g i a os:=⟨zb h.bo b,zb h.bb b,zb h.bp b⟩
theorem DSit.box {u n:World}{c d f g:Nat}{k l m:Value}{a:Int}{os:Array Value}(h:DSit u c d f k l m a os)(j:zx u n (λb=>b=g))(i:g≠c/\g≠d/\g≠f):DSit n c d f k l m a os:=⟨j.blk h.bo (λe=>i.1 e.symm),j.blk h.bb (λe=>i.2.1 e.symm),j.blk h.bp (λe=>i.2.2 e.symm)⟩
def Dop1W (x:Off)(b:Int)(y:OpD)(m base k l:Nat)(w':World):Prop :=
 ∃ (a:Off) (c:Option Addr) (f:Nat) (d:Option Addr) (g:Nat) (e:Option Addr) (h:Nat) (name price:Int) (i:Option Addr) (N j:Nat) (T:Nat->zcB) (L C A B D E:Nat->Value),w'.heap[k]?=some (.cells #[(c,a.san,f),(d,a.ldn,g),(e,a.bkn,h)] 38 (0,0))/\w'.heap[l]?=some (.cells #[(),name,price,(i,N,j)] 41 (0,0)) /\
  zF w' base (c,a.san,f) (d,a.ldn,g) (e,a.bkn,h) a.san a.ldn a.bkn a L C A B D E/\zhG x b y m a 0 name price/\RowsN x y m 0 N T/\w'.ownsRow base 203 5 (i,N,j) N (qW T N)
theorem dop1_any (x:Off)(a1 a2 a3 o:Option Addr)(c1 c2 c3 I m g0 g1 g2 P g4:Nat)(l:Int)(y:OpD)(pe:Nat->Addr)(w:World)(hO:Zk x)(hs:Off.Short x 1048576)(b6:zbn x.bkn x.bk l)(hF:Zm w)(hT:Zq w/\Zu w)(he:qY w pe)
  (c9:Off.Is w [(a1,x.san,c1),(a2,x.ldn,c2),(a3,x.bkn,c3)] x) (b8:zT w o y.lgn y.lg) (d5:qj o y.lgn I) (ho:y.own.size<=1048576) (hl:y.lgn<=1048576) (hm:zac y->In y.kind 4 8->y.name=(m:Int)+1) (Q:DSit w g0 g1 g2 (a1,x.san,c1) (a2,x.ldn,c2) (a3,x.bkn,c3) l (y,o,I)) (h3:w.heap[P]?=some (.cells #[True,True,True] 38 (0,0))) (Z:w.heap[g4]?=some (.cells #[(),(),(),True] 41 (0,0))) (b9:P≠g0) :
  Calls prog 52 #[.pointer (some (g0,0)),.pointer (some (g1,0)),.pointer (some (g2,0)),.pointer (some (P,0)),.pointer (some (g4,0))] w λe w'=>((e=.returned (.tuple #[])/\Dop1W x l y m w.heap.size P g4 w')∨(∃ c:Nat,1<=c/\c<=8/\e=zmK pe c/\zhG x l y m x (c:Int) 0 0))/\zx w w' (λb=>b=P∨b=g4):=by
 have a6:=hI hO;have HS:=hI hs;have d6:=hI b6;have HT:Hid (_/\_/\_):=⟨hF,hT,he⟩;have d8:=hI c9;have a4:Hid (_/\_):=⟨b8,d5⟩;have d7:=hI hm;have HD:=hI Q;have H3:=hI h3;have H4:=hI Z;have X:∀ {p q:Nat} {A B} {s t},w.heap[p]?=some (.cells A s _)->w.heap[q]?=some (.cells B t (0,0))->s≠t->p≠q:=λhp hq J e=>by
  subst e;rw[hp] at hq
  cases hq
  exact J rfl
 have F:Hid ((_/\_/\_)/\(_/\_/\_)/\_):=⟨⟨b9,X h3 Q.bb (by decide),X h3 Q.bp (by decide)⟩,⟨X Z Q.bo (by decide),X Z Q.bb (by decide),X Z Q.bp (by decide)⟩,X Z h3 (by decide)⟩
 have g:Below w.heap.size w _:=(Ji _ w).drew;clear hO hs b6 hF hT he c9 b8 d5 hm Q h3 Z b9 X;go_enter func52,ntmps52;go_upto_region 0 with fail;have a:=HD.below g;refine qg 10 10 (λu=>u.cell? _=some (.slice a1 _ c1)/\u.cell? _=some (.slice a2 _ c2)/\u.cell? _=some (.slice a3 _ c3)/\u.cell? _=some (.int _ l)/\u.cell? _=some (.int _ _)/\u.cell? _=some (.string _)/\u.cell? _=some (.int _ _)/\u.cell? _=some (.slice o _ I)/\u.cell? _=some (.int _ _)/\u.cell? _=some (.int _ _)/\u.cell? _=some (.int _ _)/\u.cell? _=some (.int _ _)/\u.cell? _=some (.bool _)/\u.cell? _=some (.int _ _)/\u.cell? _=some (.int _ _)/\u.cell? _=some (.int _ _)) rfl (by kernel_rfl) (⟨za a.bo 0 _ rfl,za a.bo 1 _ rfl,za a.bo 2 _ rfl,za a.bb 0 _ rfl,za a.bp 0 _ rfl,za a.bp 1 _ rfl,za a.bp 2 _ rfl,za a.bp 3 _ rfl,za a.bp 4 _ rfl,za a.bp 5 _ rfl,za a.bp 6 _ rfl,za a.bp 7 _ rfl,za a.bp 8 _ rfl,za a.bp 9 _ rfl,za a.bp 10 _ rfl,za a.bp 11 _ rfl⟩) (λhS=>?_)
 clear a;simp only[List.replicate_succ,List.replicate_zero];generalize w.drew=u0 at g hS ⊢
 (refine tFN 0 (v:=?_) rfl (by kernel_rfl) (λ_ _ _ h=>h) rfl (by assumption) ?_ ?_;rotate_left;(focus(intro w' h;(try dsimp only at h);go_simp;try with_reducible rfl));simp only[Act.put,sB,sZ,sS])
 iterate 2 (refine tFN 2 (v:=?_) rfl (by kernel_rfl) (λ_ _ _ h=>h) rfl (by assumption) ?_ ?_;rotate_left;(focus(intro w' h;(try dsimp only at h);go_simp;try with_reducible rfl));simp only[Act.put,sB,sZ,sS])
 refine zj (rs:=[1]) (by kernel_rfl) (by simp) ?_
 refine zc.consL rfl (λK r=>?_) zc.nil
 go_simp;go_at_call 54;refine Jm (zeh x a1 a2 a3 c1 c2 c3 u0 HS (λi hi=>(a6.2.2.2.2.1 i hi).2.2.2.1.1) (d8.below g)) ?_
 rintro e u1 ⟨⟨n1,n2,n3,L,C,A,B,D,E,rfl,O⟩,b5⟩;have G:=hI (O.lower g.size);dsimp only;replace g:=ze g b5;have a:=HD.below g;refine r _ _ (⟨za a.bo 0 _ rfl,za a.bo 1 _ rfl,za a.bo 2 _ rfl,za a.bb 0 _ rfl,za a.bp 0 _ rfl,za a.bp 1 _ rfl,za a.bp 2 _ rfl,za a.bp 3 _ rfl,za a.bp 4 _ rfl,za a.bp 5 _ rfl,za a.bp 6 _ rfl,za a.bp 7 _ rfl,za a.bp 8 _ rfl,za a.bp 9 _ rfl,za a.bp 10 _ rfl,za a.bp 11 _ rfl⟩) (λhS=>?_)
 clear r K b5 O a;simp only[sZ,sS];refine zj (rs:=[4]) (by kernel_rfl) (by simp) ?_
 refine zc.consL rfl (λK r=>?_) zc.nil
 go_simp;go_at_call 53;refine Jm (zmj x _ _ _ _ _ _ _ L C A B D E l y o I m pe u1 a6 HS d6 (HT.1.below g) (λV hV=>⟨HT.2.1.1.below (g.trans hV),HT.2.1.2.below (g.trans hV)⟩) (HT.2.2.below g) (a4.1.below g) a4.2 ho hl d7 g.size G) ?_
 rintro e u2 ⟨hA|⟨c,h1,h8,rfl,z⟩,R⟩
 case inr =>
  have j:=zx.below g g.size R (λb e=>(G.bk.row.lt b e).1)
  unfold zmK;dsimp only;exact⟨rfl,.inr ⟨c,h1,h8,rfl,z⟩,zx.of_below j⟩
 have j:=zx.below g g.size R (λb e=>(G.bk.row.lt b e).1)
 obtain⟨Y,b1,d1,b2,d2,b3,d3,name,price,rv,L2,C2,A2,B2,D2,E2,M,rfl,c0,z,J,S⟩:=hA;have b7:=g.size;obtain⟨ra,N,rc,T,rfl,d0,d4⟩:∃ ra N rc T,rv=.slice ra N rc/\RowsN x y m 0 N T/\u2.ownsRow _ 203 5 (ra,N,rc) N (qW T N):=by
  by_cases h9:y.kind=9
  ·obtain rfl:=J.nine h9
   obtain⟨k,rfl,_,hw⟩:=S.1 h9;obtain⟨ar,cr,rfl,_⟩:=zp hw
   rcases z with⟨h0,_⟩|⟨_,h0,_⟩|⟨d9,_⟩
   ·exact absurd rfl h0
   ·exact absurd rfl h0
   ·exact⟨ar,_,cr,_,rfl,.inr ⟨h9,d9,rfl,rfl⟩,zu hw b7⟩
  ·exact⟨_,0,0,zeM [],S.2 h9,.inl ⟨rfl,λq=>absurd q h9⟩,zbS u2 _ _ _⟩
 have a5:=hI c0;have a9:Hid (_/\_):=⟨z,d0⟩;have n:Hid _:=d4;clear R g G c0 z J S d0 d4 b7;dsimp only;have a:=hI (HD.below j);have W:=zb H3 j;have q4:=zb H4 j;refine r _ _ (⟨za a.bo 0 _ rfl,za a.bo 1 _ rfl,za a.bo 2 _ rfl,za a.bb 0 _ rfl,za a.bp 0 _ rfl,za a.bp 1 _ rfl,za a.bp 2 _ rfl,za a.bp 3 _ rfl,za a.bp 4 _ rfl,za a.bp 5 _ rfl,za a.bp 6 _ rfl,za a.bp 7 _ rfl,za a.bp 8 _ rfl,za a.bp 9 _ rfl,za a.bp 10 _ rfl,za a.bp 11 _ rfl⟩) (λhS=>?_)
 clear r K;simp only[sZ,sS]
 iterate 3 (refine tFN 5 (v:=?_) rfl (by kernel_rfl) (λ_ _ _ h=>h) rfl (by assumption) ?_ ?_;rotate_left;(focus(intro w' h;(try dsimp only at h);go_simp;try with_reducible rfl));simp only[Act.put,sB,sZ,sS])
 have U:=QG u2 P (b1,Y.san,d1) (b2,Y.ldn,d2) (b3,Y.bkn,d3);have k4:=QH (qt u2 P (b1,Y.san,d1) (b2,Y.ldn,d2) (b3,Y.bkn,d3)) g4 () name price (ra,N,rc);have p4:=U.blk q4 F.2.2;have d:=hI (a.box U F.1);have f:=hI (d.box k4 F.2.1);have b0:=hI (k4.blk (zcq W _ _ _) (show _ from λe=>F.2.2 e.symm))
 have b4:=hI (zcJ p4 () name price (ra,N,rc));have a7:=hI ((a5.box U W (by decide)).box k4 p4 (by decide))
 have kk:=(U.mono (T:=λb=>_∨_) (λb e=>.inl e)).trans (k4.mono (λb e=>.inr e))
 have a0:=hI ((zx.of_below j).trans kk);have a8:Hid _:=(k4.own (U.own n (λb e=>zQ n W (by decide) b e)) (λb e=>zQ (U.own n (λb e=>zQ n W (by decide) b e)) p4 (by decide) b e))
 have H:=hI p4;unfold qt at H d;unfold ZK qt at b0 b4 a7 a0 a8 f;clear U k4 kk p4 q4 a a5 n j;obtain⟨r0,r1,r2⟩:=ce3 W;obtain⟨f0,f1,f2⟩:=fe3 W;clear W;refine zj (rs:=[8]) (by kernel_rfl) (by simp) ?_
 refine zc.consL rfl (λK r=>?_) zc.nil
 go_simp;refine r _ _ (⟨za d.bo 0 _ rfl,za d.bo 1 _ rfl,za d.bo 2 _ rfl,za d.bb 0 _ rfl,za d.bp 0 _ rfl,za d.bp 1 _ rfl,za d.bp 2 _ rfl,za d.bp 3 _ rfl,za d.bp 4 _ rfl,za d.bp 5 _ rfl,za d.bp 6 _ rfl,za d.bp 7 _ rfl,za d.bp 8 _ rfl,za d.bp 9 _ rfl,za d.bp 10 _ rfl,za d.bp 11 _ rfl⟩) (λhS=>?_)
 clear r K d r0 f0 r1 f1 r2 f2;simp only[sZ,sS];obtain⟨r0,r1,r2,r3⟩:=ce4 H;obtain⟨f0,f1,f2,f3⟩:=fe4 H;refine zj (rs:=[9]) (by kernel_rfl) (by simp) ?_
 refine zc.consL rfl (λK r=>?_) zc.nil
 go_simp;refine r _ _ (⟨za f.bo 0 _ rfl,za f.bo 1 _ rfl,za f.bo 2 _ rfl,za f.bb 0 _ rfl,za f.bp 0 _ rfl,za f.bp 1 _ rfl,za f.bp 2 _ rfl,za f.bp 3 _ rfl,za f.bp 4 _ rfl,za f.bp 5 _ rfl,za f.bp 6 _ rfl,za f.bp 7 _ rfl,za f.bp 8 _ rfl,za f.bp 9 _ rfl,za f.bp 10 _ rfl,za f.bp 11 _ rfl⟩) (λhS=>?_)
 clear r K f H r0 f0 r1 f1 r2 f2 r3 f3;simp only[sZ,sS];refine zX (by kernel_rfl) ?_ _
 clear hS;go_wp2;go_end0;exact⟨.inl ⟨rfl,Y,b1,d1,b2,d2,b3,d3,_,_,ra,N,rc,T,L2,C2,A2,B2,D2,E2,b0,b4,a7,a9.1,a9.2,a8⟩,a0⟩
theorem zmk (G:Nat)(a:Array Value)(w:World)(Q:World->Prop)(R:Value->World->Prop)(eg:∀ args w,(callFunc G args).run prog w=.ok (.enter G args) w)
  (h:Calls prog G a (w.alloc (.cells #[.nilIface] 92)) λe w'=>w'.heap[w.heap.size]?=some (.cells #[.nilIface] 92 (0,0))/\((e=.returned (.tuple #[])/\Q w')∨∃ u,e=.panicked [{ v:=.iface 96 u,recovered:=false }]/\R u w')) :
  Calls prog 51 #[.func (.func G) #[] a] w λe w'=>(e=.returned .nilIface/\∃ b,Q b/\w'=b.setCell (w.heap.size,0) .nilIface)∨∃ u,e=.returned (.iface 96 u)/\∃ b,R u b/\w'=b.setCell (w.heap.size,0) (.iface 96 u):=by
 have l:∀ (fn) (first cap) (w),(Instr.makeFunc fn _ cap).run prog w=.ok (.func fn first cap) w:=λ_ _ _ _=>rfl
 go_enter_defers func51,ntmps51;go_wp2_with (go_at_fn G;refine h.mono ?_;rintro e b ⟨g,⟨rfl,j⟩|⟨u,rfl,k⟩⟩ <;> (have c:=za g 0 _ rfl;have i:=zg g 0))
 ·refine leaves_cons (f:=105) (args:=#[.pointer (some (w.heap.size,0))]) (by simp) (by simp[go_sem]) ?_
  refine(znz _ _).mono ?_;rintro e m d ⟨rfl,rfl,rfl⟩;simp[Leaves,settle,results,results51,go_sem];exact⟨_,by rw[World.cell?_setCell_same _ _ _ c],.inl ⟨rfl,b,j,rfl⟩⟩
 ·refine leaves_cons (f:=105) (args:=#[.pointer (some (w.heap.size,0))]) (by simp) (by simp[go_sem]) ?_
  refine(ziV _ _ u [] _ c i).mono ?_;rintro e m d ⟨rfl,rfl,rfl⟩;simp[Leaves,settle,results,results51,go_sem];exact⟨_,by rw[World.cell?_setCell_same _ _ _ c],.inr ⟨u,rfl,b,k,rfl⟩⟩
section
open Go.RowKit Go.Extern.Stop Go.Stop Go.Extern
theorem Tryz.asValP (t:Addr)(w:World):(ReflectliteValue.unpack (.iface 98 (.pointer (some t)))).run prog w
  = .ok (.agg #[.pointer (some (12,98)),.pointer (some (w.heap.size,0)),.int .u64 150]) (w.alloc (.cells #[.pointer (some t)] 98)):=by kernel_rfl
theorem Tryz.asTypeP (a : Addr) (w : World) : (ReflectliteValue.methodAny (ReflectliteValue.valueError "reflectlite.Value.Type" 0) (fun t _ _ _ => ReflectliteType.toType t) #[.agg #[.pointer (some ⟨12, 98, none⟩), .pointer (some a), .int .u64 150]]).run Tryz.prog w
  = .ok (.iface 284 (.agg #[.pointer (some (12,98))])) w:=by kernel_rfl
theorem Tryz.asMKind (h : Value) (w : World) : (Go.method 525 284 (.agg #[h]) "Kind").run Tryz.prog w = .ok (314, h) w := by kernel_rfl
theorem Tryz.asKindP (w:World):((ReflectliteType.abiMethod λt=>(λa:Nat=>Value.int IntKind.u8 (a:Int)) <$> Rtype.kind t) #[.pointer (some (12,98))]).run prog w=.ok (.int .u8 22) w:=by kernel_rfl
theorem Tryz.asKindR (w:World):((ReflectliteType.abiMethod λt=>(λa:Nat=>Value.int IntKind.u8 (a:Int)) <$> Rtype.kind t) #[.pointer (some (12,96))]).run prog w=.ok (.int .u8 25) w:=by kernel_rfl
theorem Tryz.asParts (a:Addr)(w:World):(ReflectliteValue.parts (.agg #[.pointer (some (12,98)),.pointer (some a),.int .u64 150])).run prog w=.ok (some (98,a,150)) w:=by kernel_rfl
theorem rlm (z:Sem Value)(f:TypeId->Addr->Nat->Nat->Sem Value)(v:Value) :
  ReflectliteValue.method z f #[v]=(do match ← ReflectliteValue.parts v with|none=>z|some (t,a,fl)=>f t a fl (fl % 32)):=rfl
theorem Tryz.asIsNil (a p:Addr)(W:World)(b:W.cell? a=some (.pointer (some p))) :
  (ReflectliteValue.method (ReflectliteValue.valueError "reflectlite.Value.IsNil" 0) ReflectliteValue.isNil #[.agg #[.pointer (some ⟨12, 98, none⟩), .pointer (some a), .int .u64 150]]).run Tryz.prog W = .ok (.bool false) W := by
 rw[rlm];simp only[Sem.run_bind,Tryz.asParts,Result.andThen];simp[ReflectliteValue.isNil,loadVar,isAgg,underlying,underlying98,b,Result.andThen]
theorem Tryz.asMElem (h : Value) (w : World) : (Go.method 525 284 (.agg #[h]) "Elem").run Tryz.prog w = .ok (328, .agg #[h]) w := by kernel_rfl
theorem Tryz.asMImplements (h : Value) (w : World) : (Go.method 525 284 (.agg #[h]) "Implements").run Tryz.prog w = .ok (329, .agg #[h]) w := by kernel_rfl
theorem Tryz.asMAssignable (h : Value) (w : World) : (Go.method 525 284 (.agg #[h]) "AssignableTo").run Tryz.prog w = .ok (326, .agg #[h]) w := by kernel_rfl
theorem Tryz.asElemT (w:World):(ReflectliteType.method ReflectliteType.elem #[.agg #[.pointer (some (12,98))]]).run prog w=.ok (.iface 284 (.agg #[.pointer (some (12,96))])) w:=by kernel_rfl
theorem Tryz.asImplements (w : World) : (ReflectliteType.relation "Implements" ReflectliteType.implements_ #[.agg #[.pointer (some ⟨12, 96, none⟩)], .iface 284 (.agg #[.pointer (some ⟨12, 92, none⟩)])]).run Tryz.prog w = .ok (.bool true) w := by kernel_rfl
theorem Tryz.asTypeOf (v:Value)(w:World):(ReflectliteType.typeOf #[.iface 96 v]).run prog w=.ok (.iface 284 (.agg #[.pointer (some (12,96))])) w:=by kernel_rfl
theorem Tryz.asAssignable (w : World) : (ReflectliteType.relation "AssignableTo" ReflectliteType.assignableTo #[.agg #[.pointer (some ⟨12, 96, none⟩)], .iface 284 (.agg #[.pointer (some ⟨12, 96, none⟩)])]).run Tryz.prog w = .ok (.bool true) w := by kernel_rfl
theorem Tryz.asValR (a:Value)(w:World):(ReflectliteValue.unpack (.iface 96 (.agg #[a]))).run prog w
  = .ok (.agg #[.pointer (some (12,96)),.pointer (some (w.heap.size,0)),.int .u64 153]) (w.alloc (.cells #[a] 96)):=by kernel_rfl
theorem Tryz.asElemOf (w:World):(Rtype.elem? 98).run prog w=.ok (some 96) w:=by kernel_rfl
theorem Tryz.asMk (p:Addr)(w:World):(ReflectliteValue.mk 96 p ReflectliteValue.flagAddr).run prog w=.ok (.agg #[.pointer (some (12,96)),.pointer (some p),.int .u64 409]) w:=by kernel_rfl
theorem Tryz.asElemV (a p:Addr)(W:World)(b:W.cell? a=some (.pointer (some p))) :
  (ReflectliteValue.method (ReflectliteValue.valueError "reflectlite.Value.Elem" 0) ReflectliteValue.elem #[.agg #[.pointer (some ⟨12, 98, none⟩), .pointer (some a), .int .u64 150]]).run Tryz.prog W
   = .ok (.agg #[.pointer (some (12,96)),.pointer (some p),.int .u64 409]) W:=by
 rw[rlm];simp only[Sem.run_bind,Tryz.asParts,Result.andThen];simp[ReflectliteValue.elem,loadVar,isAgg,underlying,underlying98,b,Result.andThen,Tryz.asElemOf,Tryz.asMk]
end
section
open Go.RowKit Go.Extern.Stop Go.Stop Go.Extern
theorem rls (v x:Value):ReflectliteValue.set #[v,x]=(do
  let (some (dst,a,fl),some (src,b,_)):=(← ReflectliteValue.parts v,← ReflectliteValue.parts x)
   | unsupported (.noEntry "extern/(internal/reflectlite.Value).Set.zeroValue")
  if fl / ReflectliteValue.flagAddr % 2 == 0 then unsupported (.noEntry "extern/(internal/reflectlite.Value).Set.unaddressable")
  let val ← loadVar src b
  if ← Rtype.directlyAssignable dst src then storeVar dst a val
  else if ← Rtype.implements dst src then
   if (← Rtype.kind src) == 20 then
    match val with
    | .nilIface => unsupported (.noEntry "extern/reflectlite: a nil value of one interface type handed on as a value of another")
    | _=>storeVar dst a val
   else storeVar dst a (.iface src val)
  else panicString ("reflectlite.Set: value of type " ++ (← Rtype.spelt src) ++ " is not assignable to type " ++ (← Rtype.spelt dst))
  pure (.tuple #[])):=rfl
theorem Tryz.asPartsA (a:Addr)(w:World):(ReflectliteValue.parts (.agg #[.pointer (some (12,96)),.pointer (some a),.int .u64 409])).run prog w=.ok (some (96,a,409)) w:=by kernel_rfl
theorem Tryz.asPartsR (a:Addr)(w:World):(ReflectliteValue.parts (.agg #[.pointer (some (12,96)),.pointer (some a),.int .u64 153])).run prog w=.ok (some (96,a,153)) w:=by kernel_rfl
theorem Tryz.asDirect (w:World):(Rtype.directlyAssignable 96 96).run prog w=.ok true w:=by kernel_rfl
theorem Tryz.asSet (c b:Addr)(a d:Value)(W:World)(h1:a.oneCell'=true)(e:W.cell? b=some a)(g:W.cell? c=some d)(f:W.frozen? c=false) :
  (ReflectliteValue.set #[.agg #[.pointer (some (12,96)),.pointer (some c),.int .u64 409],.agg #[.pointer (some (12,96)),.pointer (some b),.int .u64 153]]).run prog W
   = .ok (.tuple #[]) (W.setCell c a):=by
 rw[rls];simp only[Sem.run_bind,Tryz.asPartsA,Tryz.asPartsR,Result.andThen];simp[ReflectliteValue.flagAddr,loadVar,loadCells,loadCellsFrom,e,Result.andThen,Tryz.asDirect,storeVar,Value.cells,storeCells,Addr.add];rw[run_store _ W c _ _ h1];simp[g,f]
theorem as_hit (a:Value)(t:Addr)(d:Value)(w:World)(h1:a.oneCell'=true)(g:w.cell? (0,0)=some (.iface 284 (.agg #[.pointer (some (12,92))])))(b:w.cell? t=some d)(e:w.frozen? t=false) :
  Calls prog 55 #[.iface 96 (.agg #[a]),.iface 98 (.pointer (some t))] w λi w'=>i=.returned (.bool true)/\w'=((((w.alloc (.cells #[.pointer (some t)] 98)).alloc (.cells #[.pointer (some (12,98)),.pointer (some (w.heap.size,0)),.int .u64 150] 186)).alloc (.cells #[.pointer (some (12,98)),.pointer (some (w.heap.size,0)),.int .u64 150] 186)).alloc (.cells #[a] 96)).setCell t a:=by
 have h6:=@run_callFunc_extern _ 118 _ (λargs=>ReflectliteValue.unpack (args.getD 0 (.tuple #[]))) func118 (by kernel_rfl) (by kernel_rfl) (by kernel_rfl) (by kernel_rfl)
 have h7 := @run_callFunc_extern _ 119 _ (ReflectliteValue.methodAny (ReflectliteValue.valueError "reflectlite.Value.Type" 0) (fun t _ _ _ => ReflectliteType.toType t)) Tryz.func119 (by kernel_rfl) (by kernel_rfl) (by kernel_rfl) (by kernel_rfl)
 have h8 := @run_callFunc_extern _ 120 _ (ReflectliteValue.method (ReflectliteValue.valueError "reflectlite.Value.IsNil" 0) ReflectliteValue.isNil) Tryz.func120 (by kernel_rfl) (by kernel_rfl) (by kernel_rfl) (by kernel_rfl)
 have m:=@run_callFunc_extern _ 314 _ (ReflectliteType.abiMethod λt=>do pure (.int .u8 (← Rtype.kind t))) func314 (by kernel_rfl) (by kernel_rfl) (by kernel_rfl) (by kernel_rfl)
 have n:=@run_callFunc_extern _ 328 _ (ReflectliteType.method ReflectliteType.elem) func328 (by kernel_rfl) (by kernel_rfl) (by kernel_rfl) (by kernel_rfl)
 have h38 := @run_callFunc_extern _ 329 _ (ReflectliteType.relation "Implements" ReflectliteType.implements_) Tryz.func329 (by kernel_rfl) (by kernel_rfl) (by kernel_rfl) (by kernel_rfl)
 have k:=@run_callFunc_extern _ 213 _ ReflectliteType.typeOf func213 (by kernel_rfl) (by kernel_rfl) (by kernel_rfl) (by kernel_rfl)
 have h35 := @run_callFunc_extern _ 326 _ (ReflectliteType.relation "AssignableTo" ReflectliteType.assignableTo) Tryz.func326 (by kernel_rfl) (by kernel_rfl) (by kernel_rfl) (by kernel_rfl)
 have h11 := @run_callFunc_extern _ 214 _ (ReflectliteValue.method (ReflectliteValue.valueError "reflectlite.Value.Elem" 0) ReflectliteValue.elem) Tryz.func214 (by kernel_rfl) (by kernel_rfl) (by kernel_rfl) (by kernel_rfl)
 have l:=@run_callFunc_extern _ 215 _ ReflectliteValue.set func215 (by kernel_rfl) (by kernel_rfl) (by kernel_rfl) (by kernel_rfl)
 have tO:=Tryz.asTypeOf;have mA:=Tryz.asMAssignable;have aR:=Tryz.asAssignable;have vR:=Tryz.asValR;have f6:=Tryz.asValP;have f7:=Tryz.asTypeP;have mK:=Tryz.asMKind;have mE:=Tryz.asMElem;have mI:=Tryz.asMImplements;have kP:=Tryz.asKindP;have kR:=Tryz.asKindR;have eP:=Tryz.asElemT;have iR:=Tryz.asImplements;have n8:=Tryz.asIsNil (w.heap.size,0) t ((w.alloc (.cells #[.pointer (some t)] 98)).alloc (.cells #[.pointer (some (12,98)),.pointer (some (w.heap.size,0)),.int .u64 150] 186)) (by simp)
 have f:0<w.heap.size:=by
  rcases Nat.eq_zero_or_pos w.heap.size with j|h
  ·simp[World.cell?,j] at g
  ·exact h
 have o:((w.alloc (.cells #[.pointer (some t)] 98)).alloc (.cells #[.pointer (some (12,98)),.pointer (some (w.heap.size,0)),.int .u64 150] 186)).cell? (0,0)=some (.iface 284 (.agg #[.pointer (some (12,92))])):=by
  rw[World.cell?_alloc_lt _ _ _ (by simp),World.cell?_alloc_lt _ _ _ f];exact g
 have c:t.block<w.heap.size:=by
  rcases Nat.lt_or_ge t.block w.heap.size with h|h
  ·exact h
  ·simp[World.cell?,Array.getElem?_eq_none h] at b
 have el:=Tryz.asElemV (w.heap.size,0) t (((w.alloc (.cells #[.pointer (some t)] 98)).alloc (.cells #[.pointer (some (12,98)),.pointer (some (w.heap.size,0)),.int .u64 150] 186)).alloc (.cells #[.pointer (some (12,98)),.pointer (some (w.heap.size,0)),.int .u64 150] 186)) (by rw[World.cell?_alloc_lt _ _ _ (by simp;omega)];simp)
 have st:=Tryz.asSet t ⟨w.heap.size+1+1+1,0,_⟩ a d ((((w.alloc (.cells #[.pointer (some t)] 98)).alloc (.cells #[.pointer (some (12,98)),.pointer (some (w.heap.size,0)),.int .u64 150] 186)).alloc (.cells #[.pointer (some (12,98)),.pointer (some (w.heap.size,0)),.int .u64 150] 186)).alloc (.cells #[a] 96)) h1
  (by rw[World.cell?_alloc_at _ _ _ _ (by simp)];rfl)
  (by rw[World.cell?_alloc_lt _ _ t (by simp;omega),World.cell?_alloc_lt _ _ t (by simp;omega),World.cell?_alloc_lt _ _ t (by simp;omega),World.cell?_alloc_lt _ _ t c];exact b)
  (by rw[World.frozen?_alloc_old _ _ t (by simp;omega),World.frozen?_alloc_old _ _ t (by simp;omega),World.frozen?_alloc_old _ _ t (by simp;omega),World.frozen?_alloc_old _ _ t (Nat.ne_of_lt c)];exact e)
 go_enter func55,ntmps55;go_wp2;refine wp_loop_rounds 1 ?_;rw[rounds_succ];go_wp2;go_ret;exact⟨rfl,rfl⟩
end
theorem Qo (x:Int)(w:World) :
  Calls prog 242 #[x] w λe w'=>e=.returned (.bool (decide (In x 0 10000)))/\w'=w:=by
 go_enter func242,ntmps242;go_wp2_with (first|(go_at_call 191;refine(zz _ _ _ _).mono ?_;rintro e w' ⟨rfl,rfl⟩))
 go_ret;exact⟨rfl,rfl⟩
theorem zN (a b c:Bool)(w:World) :
  Calls prog 241 #[a,b,c] w λe w'=>e=.returned (.bool (if a then b else c))/\w'=w:=by
 cases a with
 | true =>
  go_enter func241,ntmps241;go_wp2;go_ret;exact⟨rfl,rfl⟩
 | false =>
  go_enter func241,ntmps241;go_wp2;go_ret;exact⟨rfl,rfl⟩
def zlk (S:Nat->ql)(j:Nat):Int:=(S j).who
theorem zfK (b:ql)(c:Option Addr)(d:Nat)(x:Int)(a:Nat)(w:World)(h:w.cell? (a,0)=some (int i64 x)) :
  Calls prog 104 #[.agg (b,c,d),.pointer (some (a,0))] w λe w'=>e=.returned (.bool (b.who == x))/\Below w.heap.size w w':=by
 have f:=Ja w _ h;have g:¬ a=w.heap.size:=by have:a<w.heap.size:=f;omega
 go_enter func104,ntmps104;go_wp2;go_ret;exact⟨rfl,zk bZ _⟩
theorem zjk (B:Option Addr)(n c:Nat)(S:Nat->ql)(x:Int)(r:Nat)(w:World)(hn:n<=1048576)(M:qO w B n S)(y:w.cell? (r,0)=some (int i64 x)) :
  Calls prog 192 #[(B,n,c),.func (.func 104) #[] #[.pointer (some (r,0))]] w λe w'=>e=.returned (Zv (zlk S) x n)/\Below w.heap.size w w':=by
 have v:=Ja w _ y;obtain⟨C,D,hI⟩:=M;have E:=hI D;have G:Hid _:=hI;clear D hI;go_enter func192,ntmps192;go_wp2;go_loopw [5,8] (λ_ i wr=>∃ k,k<=n/\i=int i64 k/\(∀ j,j<k->zlk S j≠x)/\Below w.heap.size w wr) (λ_ i _=>n - (intOf i).toNat)
 case atStart=>exact⟨0,Jq _,rfl,λj L=>by omega,bZ⟩
 case round =>
  obtain⟨k,hk,rfl,l,a⟩:=hrel;have s:=hI l;clear l
  by_cases hlt2:k<n
  ·obtain⟨bb,bo,rfl,g⟩:=E k hlt2
   obtain⟨m,o,f,_,_⟩:=G k hlt2;obtain⟨b,u⟩:∃ b,b=S k:=⟨_,rfl⟩;rw[← u] at f;have z:=hI u;have d:bb<w.heap.size:=Ja w _ (g 0 (by decide))
   have c0:wr.cell? _=some (.int _ _):=(a.cell (p:=⟨bb,bo+_,_⟩) d).trans (by have:=g 0 (by decide);rw[f] at this;exact this)
   have c1:wr.cell? _=some (.int _ _):=(a.cell d).trans (by have:=g 1 (by decide);rw[f] at this;exact this)
   have c2:wr.cell? _=some (.string _):=(a.cell d).trans (by have:=g 2 (by decide);rw[f] at this;exact this)
   have c3:wr.cell? _=some (.slice m _ o):=(a.cell d).trans (by have:=g 3 (by decide);rw[f] at this;exact this)
   have c4:wr.cell? _=some (.int _ _):=(a.cell d).trans (by have:=g 4 (by decide);rw[f] at this;exact this)
   have c5:wr.cell? _=some (.int _ _):=(a.cell d).trans (by have:=g 5 (by decide);rw[f] at this;exact this)
   have c6:wr.cell? _=some (.int _ _):=(a.cell d).trans (by have:=g 6 (by decide);rw[f] at this;exact this)
   have c7:wr.cell? _=some (.int _ _):=(a.cell d).trans (by have:=g 7 (by decide);rw[f] at this;exact this)
   have c8:wr.cell? _=some (.bool _):=(a.cell d).trans (by have:=g 8 (by decide);rw[f] at this;exact this)
   have c9:wr.cell? _=some (.int _ _):=(a.cell d).trans (by have:=g 9 (by decide);rw[f] at this;exact this)
   have H:wr.cell? _=some (.int _ _):=(a.cell d).trans (by have:=g 10 (by decide);rw[f] at this;exact this)
   have I:wr.cell? _=some (.int _ _):=(a.cell d).trans (by have:=g 11 (by decide);rw[f] at this;exact this)
   have J:wr.cell? _=some (.int _ _):=(a.cell d).trans (by have:=g 12 (by decide);rw[f] at this;exact this)
   have A:=hI ((a.cell v).trans y);clear g f u y
   by_cases h:zlk S k=x
   ·have K:(b.who == x)=true:=by have h:=h;unfold zlk at h;rw[← z.out] at h;simpa using h
    have t:Hid (Zv (zlk S) x n=k):=by
     have:=zfe hlt2 h s;unfold Zv Hid;rw[this,Jf hlt2]
    clear h;go_wp2_with (first|(go_at_call 104;refine(zfK b m o x r _ A).mono ?_;rintro e N ⟨rfl,q⟩))
    go_ret;exact⟨by rw[t.out];rfl,ze a q⟩
   ·have K:(b.who == x)=false:=by have h:=h;unfold zlk at h;rw[← z.out] at h;simpa using h
    have F:=hI h;clear h;go_wp2_with (first|(go_at_call 104;refine(zfK b m o x r _ A).mono ?_;rintro e N ⟨rfl,q⟩))
    go_roundw
    case rel=>exact⟨k+1,by omega,by go_num,λj L=>by
     by_cases e:j=k
     ·subst e;exact F
     ·exact s j (by omega),ze a q⟩
    case measure=>simp[intOf];omega
  ·obtain rfl:k=n:=by omega
   have t:=hI (zbM (zdp s));go_wp2;go_ret;exact⟨by rw[t.out];rfl,a⟩
theorem zml (f:Option Addr)(n c:Nat)(S:Nat->ql)(x:Int)(g:Nat)(w:World)(j:n<=1048576)(l:qO w f n S)(k:w.cell? (g,0)=some (int i64 x)) :
  Calls prog 103 #[(f,n,c),.func (.func 104) #[] #[.pointer (some (g,0))]] w λe w'=>qX (Has (zlk S) n x) e/\Below w.heap.size w w':=by
 obtain⟨r,hr⟩:∃ r,r=Zv (zlk S) x n:=⟨_,rfl⟩;have d:=hI hr;clear hr;go_enter func103,ntmps103;go_wp2_with fail;refine(zjk f n c S x g _ j l k).mono ?_;rw[← d.out];rintro e w1 ⟨rfl,a⟩
 by_cases h:Has (zlk S) n x
 ·have i:decide (0<=r)=true:=by rw[d.out];unfold Zv;rw[Jf ((zdo _ _ _).1 h)];simp
  have b:=hI h;clear h;go_wp2;go_ret;exact⟨zR b,a⟩
 ·have i:decide (0<=r)=false:=by rw[d.out,zbM h];rfl
  have b:=hI h;clear h;go_wp2;go_ret;exact⟨zl b,a⟩
theorem zcZ (g:Option Addr)(n c:Nat)(S:Nat->ql)(x:Int)(w:World)(q:n<=1048576)(s:qO w g n S) :
  Calls prog 50 #[(g,n,c),x] w λe w'=>qX (In x 1 9999/\¬ Has (zlk S) n x) e/\Below w.heap.size w w':=by
 have a:Below _ w (w.alloc (.cells #[x] 3)):=zk bZ _;have o:=hI (s.below a);have r:=za (Jb w (.cells #[x] 3)) 0 _ rfl;have p:∀ (fn) (first cap) (w),(Instr.makeFunc fn _ cap).run prog w=.ok (.func fn first cap) w:=λ_ _ _ _=>rfl
 go_enter func50,ntmps50;go_wp2_with fail;obtain⟨t,i⟩:∃ t,t=decide (In x 1 9999):=⟨_,rfl⟩;refine(Qg _ _).mono ?_;rw[← i];have f:Hid (t=true↔In x 1 9999):=by show _↔_;rw[i,decide_eq_true_eq]
 clear i;rintro e v ⟨rfl,j⟩;have j:=j.symm;subst j
 cases t with
 | false =>
  have b:Hid (¬ (_/\¬ Has (zlk S) n x)):=λh=>by have:=f.2 h.1;cases this
  go_wp2;go_ret;exact⟨zl b,a⟩
 | true =>
  have m:=hI (f.1 rfl);clear f;go_wp2_with fail;refine(zml g n c S x _ _ q o r).mono ?_;rintro e w1 ⟨⟨u,rfl,l⟩,d⟩;have k:=hI l;clear l
  cases u with
  | true =>
   have b:Hid (¬ (In x 1 9999/\¬ _)):=λh=>h.2 (k.1 rfl)
   go_wp2;go_ret;exact⟨zl b,ze a d⟩
  | false =>
   have b:Hid (_/\¬ _):=⟨m,λh=>by have:=k.2 h;cases this⟩
   go_wp2;go_ret;exact⟨zR b,ze a d⟩
def zhH (N:Nat)(S:Nat->Zj)(b:ql):Prop:=Zg b.own/\zad N S b.lgn b.lg/\qI b.p/\In b.state 1 4/\zaA b/\In b.price 0 1000000
theorem zdB (N:Nat)(S:Nat->Zj)(o:Option Addr)(q:Nat)(b:ql)(k:Option Addr)(l:Nat)(w:World)(B:N<=1048576)(U:QL N S 1048576)(F:ql.Short b 1048576)(C:QJ N S)(V:qB w o N S)(X:zT w k b.lgn b.lg) :
  Calls prog 181 #[(o,N,q),.agg (b,k,l)] w λe w'=>qX (zhH N S b) e/\Below w.heap.size w w':=by
 have s:=hI V;have r:=hI X;have t:=hI U;have i:=hI F;have E:=hI C;clear V X U F C;obtain⟨K,I⟩:∃ K,K=decide (b.state=1∨b.state=4):=⟨_,rfl⟩;obtain⟨T,C⟩:∃ T,T=decide (In b.unt 0 10000):=⟨_,rfl⟩;obtain⟨Z,hZ⟩:∃ Z,(b.unt == 0)=Z:=⟨_,rfl⟩;have H:=hI I;have p:=hI C;have R:Hid ((if K then T else Z)=true↔zaA b):=by
  show _↔_
  unfold zaA
  by_cases c:b.state=1∨b.state=4
  ·rw[I,Jd c,Jf rfl,Jf c,C,decide_eq_true_eq]
  ·rw[I,Jc c,Je (by decide),Je c,← hZ,beq_iff_eq]
 clear I C;have d:Below _ w (w.alloc (.cells (b,k,l) 150)):=zk bZ _;have n:=Jb w (.cells (b,k,l) 150);go_enter func181,ntmps181;go_upto_region 1 with fail;generalize hBx:w.heap.size=Bx at n ⊢;generalize w.alloc _=W at d n ⊢;have Q:=za n 10 _ rfl;go_cut [5] (λv wx=>v=.bool K/\wx=W)
 case first =>
  by_cases s1:b.state=1
  ·have Y:(b.state == 1)=true:=by simpa using s1
   have u:Hid (K=true):=by show K=true;rw[H.out];exact Jd (.inl s1)
   clear s1;go_wp2;go_meet;exact⟨by rw[u.out],rfl⟩
  ·have Y:(b.state == 1)=false:=by simpa using s1
   by_cases s4:b.state=4
   ·have e4:(b.state == 4)=true:=by simpa using s4
    have u:Hid (K=true):=by show K=true;rw[H.out];exact Jd (.inr s4)
    clear s1 s4;go_wp2;go_meet;exact⟨by rw[u.out],rfl⟩
   ·have e4:(b.state == 4)=false:=by simpa using s4
    have u:Hid (K=false):=by show K=false;rw[H.out];exact Jc (by intro h;rcases h with h|h;exact s1 h;exact s4 h)
    clear s1 s4;go_wp2;go_meet;exact⟨by rw[u.out],rfl⟩
 case rest =>
 obtain⟨rfl,A⟩:=hcut;have A:=A.symm;subst A;clear Q H;have j:=zM n;have z0:∀ g:zn W,g.val.cell? _=some (.int _ _):=λg=>(g.bel.cell j).trans (za n 0 _ rfl)
 have z1:∀ g:zn W,g.val.cell? _=some (.int _ _):=λg=>(g.bel.cell j).trans (za n 1 _ rfl)
 have z2:∀ g:zn W,g.val.cell? _=some (.string _):=λg=>(g.bel.cell j).trans (za n 2 _ rfl)
 have z3:∀ g:zn W,g.val.cell? _=some (.slice k _ l):=λg=>(g.bel.cell j).trans (za n 3 _ rfl)
 have z4:∀ g:zn W,g.val.cell? _=some (.int _ _):=λg=>(g.bel.cell j).trans (za n 4 _ rfl)
 have z5:∀ g:zn W,g.val.cell? _=some (.int _ _):=λg=>(g.bel.cell j).trans (za n 5 _ rfl)
 have z6:∀ g:zn W,g.val.cell? _=some (.int _ _):=λg=>(g.bel.cell j).trans (za n 6 _ rfl)
 have z7:∀ g:zn W,g.val.cell? _=some (.int _ _):=λg=>(g.bel.cell j).trans (za n 7 _ rfl)
 have z8:∀ g:zn W,g.val.cell? _=some (.bool _):=λg=>(g.bel.cell j).trans (za n 8 _ rfl)
 have z9:∀ g:zn W,g.val.cell? _=some (.int _ _):=λg=>(g.bel.cell j).trans (za n 9 _ rfl)
 have a0:∀ g:zn W,g.val.cell? _=some (.int _ _):=λg=>(g.bel.cell j).trans (za n 10 _ rfl)
 have a1:∀ g:zn W,g.val.cell? _=some (.int _ _):=λg=>(g.bel.cell j).trans (za n 11 _ rfl)
 have a2:∀ g:zn W,g.val.cell? _=some (.int _ _):=λg=>(g.bel.cell j).trans (za n 12 _ rfl)
 clear n hBx;go_upto_region 2 with fail
 by_cases p1:Zg b.own
 case neg =>
  have L:=hI p1;have y:=hI (Jc p1);clear p1;refine zh (by kernel_rfl) (by kernel_rfl) ?_
  repeat(first|go_big_quiet_skip|(go_big_quiet_want;go_big_quiet_op;first|go_big_quiet_on|(apply Jg;refine⟨λg=>?_,?_⟩;(focus(go_at_call 239;refine zf (v:=.bool false) ((Zi _ _ (by have:=i.1;omega)).mono ?_);rintro e f ⟨rfl,rfl⟩;exact⟨by rw[y.out],bZ⟩));go_big_quiet_on)|(apply Jg;refine⟨λg=>?_,?_⟩;(focus(go_at_call 242;refine zf (v:=.bool T) ((Qo b.unt _).mono ?_);rintro e f ⟨rfl,rfl⟩;exact⟨by rw[p.out],bZ⟩));go_big_quiet_on)))
  refine Jl ?_;rintro _ ⟨g,rfl⟩;go_wp2;go_ret;exact⟨zl (λh=>L (by unfold zhH at h;exact h.1)),ze d g.bel⟩
 have L:=hI p1;have y:=hI (Jd p1);clear p1
 by_cases p2:zad N S b.lgn b.lg
 case neg =>
  have x:=hI p2;clear p2;refine zh (by kernel_rfl) (by kernel_rfl) ?_
  repeat(first|go_big_quiet_skip|(go_big_quiet_want;go_big_quiet_op;first|go_big_quiet_on|(apply Jg;refine⟨λg=>?_,?_⟩;(focus(go_at_call 239;refine zf (v:=.bool true) ((Zi _ _ (by have:=i.1;omega)).mono ?_);rintro e f ⟨rfl,rfl⟩;exact⟨by rw[y.out],bZ⟩));go_big_quiet_on)|(apply Jg;refine⟨λg=>?_,?_⟩;(focus(go_at_call 195;refine zf (v:=.bool false) ((Q0 o k N _ q l S _ _ B i.2 t (s.below (ze d g.bel)) (r.below (ze d g.bel))).mono ?_);rintro e f ⟨⟨bb,rfl,m⟩,a⟩;obtain rfl:=Bool.eq_false_iff.2 (λe=>x (m.1 e).2);exact⟨rfl,a⟩));go_big_quiet_on)|(apply Jg;refine⟨λg=>?_,?_⟩;(focus(go_at_call 242;refine zf (v:=.bool T) ((Qo b.unt _).mono ?_);rintro e f ⟨rfl,rfl⟩;exact⟨by rw[p.out],bZ⟩));go_big_quiet_on)))
  refine Jl ?_;rintro _ ⟨g,rfl⟩;go_wp2;go_ret;exact⟨zl (λh=>x (by unfold zhH at h;exact h.2.1)),ze d g.bel⟩
 have x:=hI p2;clear p2
 by_cases p3:qI b.p
 case neg =>
  have z:=hI p3;clear p3;refine zh (by kernel_rfl) (by kernel_rfl) ?_
  repeat(first|go_big_quiet_skip|(go_big_quiet_want;go_big_quiet_op;first|go_big_quiet_on|(apply Jg;refine⟨λg=>?_,?_⟩;(focus(go_at_call 239;refine zf (v:=.bool true) ((Zi _ _ (by have:=i.1;omega)).mono ?_);rintro e f ⟨rfl,rfl⟩;exact⟨by rw[y.out],bZ⟩));go_big_quiet_on)|(apply Jg;refine⟨λg=>?_,?_⟩;(focus(go_at_call 195;refine zf (v:=.bool true) ((Q0 o k N b.lgn q l S b.lg _ B i.2 t (s.below (ze d g.bel)) (r.below (ze d g.bel))).mono ?_);rintro e f ⟨⟨bb,rfl,m⟩,a⟩;obtain rfl:=m.2 ⟨E,x⟩;exact⟨rfl,a⟩));go_big_quiet_on)|(apply Jg;refine⟨λg=>?_,?_⟩;(focus(go_at_call 240;refine zf (v:=.bool false) ((Qw b.pe b.len b.hei b.cl b.all b.be _).mono ?_);rintro e f ⟨⟨bb,rfl,m⟩,a⟩;obtain rfl:=Bool.eq_false_iff.2 (λe=>z (m.1 e));exact⟨rfl,a⟩));go_big_quiet_on)|(apply Jg;refine⟨λg=>?_,?_⟩;(focus(go_at_call 242;refine zf (v:=.bool T) ((Qo b.unt _).mono ?_);rintro e f ⟨rfl,rfl⟩;exact⟨by rw[p.out],bZ⟩));go_big_quiet_on)))
  refine Jl ?_;rintro _ ⟨g,rfl⟩;go_wp2;go_ret;exact⟨zl (λh=>z (by unfold zhH at h;exact h.2.2.1)),ze d g.bel⟩
 have z:=hI p3;clear p3
 by_cases p4:In b.state 1 4
 case neg =>
  have M:=hI p4;have D:Hid (decide (In b.state 1 4)=false):=Jc p4;clear p4;refine zh (by kernel_rfl) (by kernel_rfl) ?_
  repeat(first|go_big_quiet_skip|(go_big_quiet_want;go_big_quiet_op;first|go_big_quiet_on|(apply Jg;refine⟨λg=>?_,?_⟩;(focus(go_at_call 239;refine zf (v:=.bool true) ((Zi _ _ (by have:=i.1;omega)).mono ?_);rintro e f ⟨rfl,rfl⟩;exact⟨by rw[y.out],bZ⟩));go_big_quiet_on)|(apply Jg;refine⟨λg=>?_,?_⟩;(focus(go_at_call 195;refine zf (v:=.bool true) ((Q0 o k N b.lgn q l S b.lg _ B i.2 t (s.below (ze d g.bel)) (r.below (ze d g.bel))).mono ?_);rintro e f ⟨⟨bb,rfl,m⟩,a⟩;obtain rfl:=m.2 ⟨E,x⟩;exact⟨rfl,a⟩));go_big_quiet_on)|(apply Jg;refine⟨λg=>?_,?_⟩;(focus(go_at_call 240;refine zf (v:=.bool true) ((Qw b.pe b.len b.hei b.cl b.all b.be _).mono ?_);rintro e f ⟨⟨bb,rfl,m⟩,a⟩;obtain rfl:=m.2 z;exact⟨rfl,a⟩));go_big_quiet_on)|(apply Jg;refine⟨λg=>?_,?_⟩;(focus(go_at_call 191;with_reducible refine zf (v:=.bool false) (Jm (zz b.state 1 4 _) ?_);rintro e f ⟨rfl,rfl⟩;exact⟨by rw[D.out],bZ⟩));go_big_quiet_on)|(apply Jg;refine⟨λg=>?_,?_⟩;(focus(go_at_call 242;refine zf (v:=.bool T) ((Qo b.unt _).mono ?_);rintro e f ⟨rfl,rfl⟩;exact⟨by rw[p.out],bZ⟩));go_big_quiet_on)))
  refine Jl ?_;rintro _ ⟨g,rfl⟩;go_wp2;go_ret;exact⟨zl (λh=>M (by unfold zhH at h;exact h.2.2.2.1)),ze d g.bel⟩
 have M:=hI p4;have D:Hid (decide (In b.state 1 4)=true):=Jd p4;clear p4
 by_cases p5:zaA b
 case neg =>
  have O:=hI p5;have G:Hid ((if K then T else Z)=false):=Bool.eq_false_iff.2 (λh=>p5 (R.1 h))
  clear p5;refine zh (by kernel_rfl) (by kernel_rfl) ?_
  repeat(first|go_big_quiet_skip|(go_big_quiet_want;go_big_quiet_op;first|go_big_quiet_on|(apply Jg;refine⟨λg=>?_,?_⟩;(focus(go_at_call 239;refine zf (v:=.bool true) ((Zi _ _ (by have:=i.1;omega)).mono ?_);rintro e f ⟨rfl,rfl⟩;exact⟨by rw[y.out],bZ⟩));go_big_quiet_on)|(apply Jg;refine⟨λg=>?_,?_⟩;(focus(go_at_call 195;refine zf (v:=.bool true) ((Q0 o k N b.lgn q l S b.lg _ B i.2 t (s.below (ze d g.bel)) (r.below (ze d g.bel))).mono ?_);rintro e f ⟨⟨bb,rfl,m⟩,a⟩;obtain rfl:=m.2 ⟨E,x⟩;exact⟨rfl,a⟩));go_big_quiet_on)|(apply Jg;refine⟨λg=>?_,?_⟩;(focus(go_at_call 240;refine zf (v:=.bool true) ((Qw b.pe b.len b.hei b.cl b.all b.be _).mono ?_);rintro e f ⟨⟨bb,rfl,m⟩,a⟩;obtain rfl:=m.2 z;exact⟨rfl,a⟩));go_big_quiet_on)|(apply Jg;refine⟨λg=>?_,?_⟩;(focus(go_at_call 191;with_reducible refine zf (v:=.bool true) (Jm (zz b.state 1 4 _) ?_);rintro e f ⟨rfl,rfl⟩;exact⟨by rw[D.out],bZ⟩));go_big_quiet_on)|(apply Jg;refine⟨λg=>?_,?_⟩;(focus(go_at_call 241;refine zf (v:=.bool false) ((zN K T Z _).mono ?_);rintro e f ⟨rfl,rfl⟩;exact⟨by rw[G.out],bZ⟩));go_big_quiet_on)|(apply Jg;refine⟨λg=>?_,?_⟩;(focus(go_at_call 242;refine zf (v:=.bool T) ((Qo b.unt _).mono ?_);rintro e f ⟨rfl,rfl⟩;exact⟨by rw[p.out],bZ⟩));go_big_quiet_on)))
  refine Jl ?_;rintro _ ⟨g,rfl⟩;go_wp2;go_ret;exact⟨zl (λh=>O (by unfold zhH at h;exact h.2.2.2.2.1)),ze d g.bel⟩
 have O:=hI p5;have G:=hI (R.2 p5);clear p5
 by_cases p6:In b.price 0 1000000
 case neg =>
  have P:=hI p6;have J:Hid (decide (In b.price 0 1000000)=false):=Jc p6;clear p6;refine zh (by kernel_rfl) (by kernel_rfl) ?_
  repeat(first|go_big_quiet_skip|(go_big_quiet_want;go_big_quiet_op;first|go_big_quiet_on|(apply Jg;refine⟨λg=>?_,?_⟩;(focus(go_at_call 239;refine zf (v:=.bool true) ((Zi _ _ (by have:=i.1;omega)).mono ?_);rintro e f ⟨rfl,rfl⟩;exact⟨by rw[y.out],bZ⟩));go_big_quiet_on)|(apply Jg;refine⟨λg=>?_,?_⟩;(focus(go_at_call 195;refine zf (v:=.bool true) ((Q0 o k N b.lgn q l S b.lg _ B i.2 t (s.below (ze d g.bel)) (r.below (ze d g.bel))).mono ?_);rintro e f ⟨⟨bb,rfl,m⟩,a⟩;obtain rfl:=m.2 ⟨E,x⟩;exact⟨rfl,a⟩));go_big_quiet_on)|(apply Jg;refine⟨λg=>?_,?_⟩;(focus(go_at_call 240;refine zf (v:=.bool true) ((Qw b.pe b.len b.hei b.cl b.all b.be _).mono ?_);rintro e f ⟨⟨bb,rfl,m⟩,a⟩;obtain rfl:=m.2 z;exact⟨rfl,a⟩));go_big_quiet_on)|(apply Jg;refine⟨λg=>?_,?_⟩;(focus(go_at_call 191;with_reducible refine zf (v:=.bool true) (Jm (zz b.state 1 4 _) ?_);rintro e f ⟨rfl,rfl⟩;exact⟨by rw[D.out],bZ⟩));go_big_quiet_on)|(apply Jg;refine⟨λg=>?_,?_⟩;(focus(go_at_call 241;refine zf (v:=.bool true) ((zN K T Z _).mono ?_);rintro e f ⟨rfl,rfl⟩;exact⟨by rw[G.out],bZ⟩));go_big_quiet_on)|(apply Jg;refine⟨λg=>?_,?_⟩;(focus(go_at_call 191;with_reducible refine zf (v:=.bool false) (Jm (zz b.price 0 1000000 _) ?_);rintro e f ⟨rfl,rfl⟩;exact⟨by rw[J.out],bZ⟩));go_big_quiet_on)|(apply Jg;refine⟨λg=>?_,?_⟩;(focus(go_at_call 242;refine zf (v:=.bool T) ((Qo b.unt _).mono ?_);rintro e f ⟨rfl,rfl⟩;exact⟨by rw[p.out],bZ⟩));go_big_quiet_on)))
  refine Jl ?_;rintro _ ⟨g,rfl⟩;go_wp2;go_ret;exact⟨zl (λh=>P (by unfold zhH at h;exact h.2.2.2.2.2)),ze d g.bel⟩
 have P:=hI p6;have J:Hid (decide (In b.price 0 1000000)=true):=Jd p6;clear p6;refine zh (by kernel_rfl) (by kernel_rfl) ?_
 repeat(first|go_big_quiet_skip|(go_big_quiet_want;go_big_quiet_op;first|go_big_quiet_on|(apply Jg;refine⟨λg=>?_,?_⟩;(focus(go_at_call 239;refine zf (v:=.bool true) ((Zi _ _ (by have:=i.1;omega)).mono ?_);rintro e f ⟨rfl,rfl⟩;exact⟨by rw[y.out],bZ⟩));go_big_quiet_on)|(apply Jg;refine⟨λg=>?_,?_⟩;(focus(go_at_call 195;refine zf (v:=.bool true) ((Q0 o k N b.lgn q l S b.lg _ B i.2 t (s.below (ze d g.bel)) (r.below (ze d g.bel))).mono ?_);rintro e f ⟨⟨bb,rfl,m⟩,a⟩;obtain rfl:=m.2 ⟨E,x⟩;exact⟨rfl,a⟩));go_big_quiet_on)|(apply Jg;refine⟨λg=>?_,?_⟩;(focus(go_at_call 240;refine zf (v:=.bool true) ((Qw b.pe b.len b.hei b.cl b.all b.be _).mono ?_);rintro e f ⟨⟨bb,rfl,m⟩,a⟩;obtain rfl:=m.2 z;exact⟨rfl,a⟩));go_big_quiet_on)|(apply Jg;refine⟨λg=>?_,?_⟩;(focus(go_at_call 191;with_reducible refine zf (v:=.bool true) (Jm (zz b.state 1 4 _) ?_);rintro e f ⟨rfl,rfl⟩;exact⟨by rw[D.out],bZ⟩));go_big_quiet_on)|(apply Jg;refine⟨λg=>?_,?_⟩;(focus(go_at_call 241;refine zf (v:=.bool true) ((zN K T Z _).mono ?_);rintro e f ⟨rfl,rfl⟩;exact⟨by rw[G.out],bZ⟩));go_big_quiet_on)|(apply Jg;refine⟨λg=>?_,?_⟩;(focus(go_at_call 191;with_reducible refine zf (v:=.bool true) (Jm (zz b.price 0 1000000 _) ?_);rintro e f ⟨rfl,rfl⟩;exact⟨by rw[J.out],bZ⟩));go_big_quiet_on)|(apply Jg;refine⟨λg=>?_,?_⟩;(focus(go_at_call 242;refine zf (v:=.bool T) ((Qo b.unt _).mono ?_);rintro e f ⟨rfl,rfl⟩;exact⟨by rw[p.out],bZ⟩));go_big_quiet_on)))
 refine Jl ?_;rintro _ ⟨g,rfl⟩;go_wp2;go_ret;exact⟨zR ⟨L,x,z,M,O,P⟩,ze d g.bel⟩
theorem zjl (s:Zj)(l:zY)(m:Nat)(B:Nat->ql)(C:Nat->List Value)(f0 a8 b1 a9 b0 e9:Option Addr)(f1 b7 d0 b8 b9 g0:Nat)(w:World)(hm:m<=1048576)(hl:zY.Short l 1048576)
  (e5:∀ j,j<l.ron->0<=(l.ro j).cab/\(l.ro j).cab<s.ca.n) (f2:zG w a8 s.ca) (f6:qw w b1 l.stn l.st) (f4:qp w a9 l.ron l.ro) (f5:qE w b0 l.sen l.se) (hC:QT w e9 m 13 C) (hI:∀ k,k<m->ql.Is w (C k) (B k)) :
  Calls prog 100 #[.agg (s,f0,f1,a8,b7),.agg #[(b1,l.stn,d0),(a9,l.ron,b8),(b0,l.sen,b9)],(e9,m,g0)] w λe w'=>qX (zgV s l m B) e/\Below w.heap.size w w':=by
 have d2:=hI f2;have d6:=hI f6;have d4:=hI f4;have d5:=hI f5;have HC:=hI hC;have HI:Hid _:=hI;have d3:Hid _:=e5;have Y:=hI hl;clear f2 f6 f4 f5 hC hI e5 hl;have g:Below _ w ((w.alloc (.cells (s,f0,f1,a8,b7) 140)).alloc (.cells #[(b1,l.stn,d0),(a9,l.ron,b8),(b0,l.sen,b9)] 145)):=zk (zk bZ _) _;have bS:=zoQ g;have bL:=zoR g;go_enter func100,ntmps100;go_wp2;generalize (w.alloc _).alloc _=V at g bS bL ⊢;have U:=hI bS;have N:=hI bL;clear bS bL;go_loopw [7,8,10,13] (λn1 n2 _ i wr=>∃ k,k<=m/\i=int i64 k/\n1=int i64 (cnt (λj=>¬ zcR (B j)) k:Nat)/\n2=int i64 (cnt (λj=>¬ zca (B j)) k:Nat)/\(∀ j,j<k->Holds s l (B j))/\Below V.heap.size V wr) (λ_ _ _ i _=>m - (intOf i).toNat)
 case atStart=>exact⟨0,Jq _,rfl,rfl,rfl,λj hj=>by omega,bZ⟩
 case round =>
  obtain⟨k,hk,rfl,rfl,rfl,e4,a3⟩:=hrel;have HA:=hI e4;clear e4;obtain⟨m1,d9⟩:∃ x,x=cnt (λj=>¬ zcR (B j)) k:=⟨_,rfl⟩
  obtain⟨m2,e0⟩:∃ x,x=cnt (λj=>¬ zca (B j)) k:=⟨_,rfl⟩
  have l1:m1<=k:=by rw[d9];exact zhT _ _
  have l2:m2<=k:=by rw[e0];exact zhT _ _
  rw[← d9,← e0];have b5:=hI d9;have b6:=hI e0;clear d9 e0
  by_cases hlt2:k<m
  ·have M:=ze g a3
   obtain⟨bb,bo,rfl,hc⟩:=HC k hlt2;obtain⟨K,L,eC,_,_⟩:=HI k hlt2;obtain⟨b,hb⟩:∃ b,b=B k:=⟨_,rfl⟩;rw[← hb] at eC;have Z:=hI hb;have E:bb<w.heap.size:=Ja w _ (hc 0 (by decide))
   have c0:wr.cell? _=some (.int _ _):=(M.cell (p:=⟨bb,bo+_,_⟩) E).trans (by have:=hc 0 (by decide);rw[eC] at this;exact this)
   have c1:wr.cell? _=some (.int _ _):=(M.cell E).trans (by have:=hc 1 (by decide);rw[eC] at this;exact this)
   have c2:wr.cell? _=some (.string _):=(M.cell E).trans (by have:=hc 2 (by decide);rw[eC] at this;exact this)
   have c3:wr.cell? _=some (.slice K _ L):=(M.cell E).trans (by have:=hc 3 (by decide);rw[eC] at this;exact this)
   have c4:wr.cell? _=some (.int _ _):=(M.cell E).trans (by have:=hc 4 (by decide);rw[eC] at this;exact this)
   have c5:wr.cell? _=some (.int _ _):=(M.cell E).trans (by have:=hc 5 (by decide);rw[eC] at this;exact this)
   have c6:wr.cell? _=some (.int _ _):=(M.cell E).trans (by have:=hc 6 (by decide);rw[eC] at this;exact this)
   have c7:wr.cell? _=some (.int _ _):=(M.cell E).trans (by have:=hc 7 (by decide);rw[eC] at this;exact this)
   have c8:wr.cell? _=some (.bool _):=(M.cell E).trans (by have:=hc 8 (by decide);rw[eC] at this;exact this)
   have c9:wr.cell? _=some (.int _ _):=(M.cell E).trans (by have:=hc 9 (by decide);rw[eC] at this;exact this)
   have f7:wr.cell? _=some (.int _ _):=(M.cell E).trans (by have:=hc 10 (by decide);rw[eC] at this;exact this)
   have f8:wr.cell? _=some (.int _ _):=(M.cell E).trans (by have:=hc 11 (by decide);rw[eC] at this;exact this)
   have f9:wr.cell? _=some (.int _ _):=(M.cell E).trans (by have:=hc 12 (by decide);rw[eC] at this;exact this)
   clear hc eC hb;have e6:=zk a3 (.cells (b,K,L) 150);have b3:=Jb wr (.cells (b,K,L) 150);go_wp2_with fail;generalize hBx:wr.heap.size=Bx at b3 ⊢;generalize wr.alloc _=W at e6 b3 ⊢;clear hBx c0 c1 c2 c3 c4 c5 c6 c7 c8 c9 f7 f8 f9 a3 M;obtain⟨t1,e7⟩:∃ c,c=decide (¬ (b.len=0/\b.hei=0)):=⟨_,rfl⟩;have H1:Hid (t1=true↔¬ zcR b):=by show _↔_;rw[e7,decide_eq_true_eq];exact Iff.rfl
   refine(zcE _ _ _ _ _ _ _).mono ?_;rw[← e7];clear e7;rintro e W1 ⟨rfl,a⟩;have b4:=ze e6 a;have n:=zb b3 a;clear e6 b3 a W;obtain⟨t2,e8⟩:∃ c,c=decide (¬ (b.cl=0/\b.all=false/\b.be=0)):=⟨_,rfl⟩;have H2:Hid (t2=true↔¬ zca b):=by show _↔_;rw[e8,decide_eq_true_eq];exact Iff.rfl
   have d7:=hI e8;clear e8;have g1:IntKind.i64.wrap ((m1:Int)+1)=(m1:Int)+1:=by rw[Jk];omega
   have g2:IntKind.i64.wrap ((m2:Int)+1)=(m2:Int)+1:=by rw[Jk];omega
   have X:=hI hlt2
   cases t1 with
   | true =>
    have d1:=hI (H1.1 rfl);clear H1;have O:=za n 4 _ rfl;have P:=za n 5 _ rfl;have Q:=za n 6 _ rfl;have R:=za n 7 _ rfl;have S:=za n 8 _ rfl;have T:=za n 9 _ rfl;go_wp2_with fail;refine(Q7 _ _ _ _ _ _ _).mono ?_;rw[← d7.out];rintro e W2 ⟨rfl,a⟩;have o:=ze b4 a;have t:=zb n a;clear O P Q R S T b4 n a W1 d7
    cases t2 with
    | true =>
     have a7:=hI (H2.1 rfl);clear H2;obtain⟨y0,y1,y2,y3,O,P,Q,R,S,T,z,A,D⟩:=zeX t;have s6:=za (zb U o) 6 _ rfl;obtain⟨u,v,y⟩:=ce3 (zb N o);go_wp2_with fail;refine(zbP b K L l b1 d0 _ Y.1 (d6.below (ze g o))).mono ?_;rintro e W3 ⟨⟨u0,rfl,a0⟩,a⟩;have H:=hI a0;have d:=ze o a;have q:=zb t a;clear y0 y1 y2 y3 O P Q R S T z A D s6 u v y o t a a0 W2
     cases u0 with
     | false =>
      have G:Hid (¬ zgV s l m B):=λh=>by have h1:=(h.1 k X).1;rw[← Z.out] at h1;have:=H.2 h1;cases this
      go_wp2;go_ret;exact⟨zl G,ze g d⟩
     | true =>
     have a4:=hI (H.1 rfl);clear H;obtain⟨y0,y1,y2,y3,O,P,Q,R,S,T,z,A,D⟩:=zeX q;have s6:=za (zb U d) 6 _ rfl;obtain⟨u,v,y⟩:=ce3 (zb N d);go_wp2_with fail;refine(zaX b K L s l a8 a9 b7 b8 _ Y.2.1 d3 (d2.below (ze g d)) (d4.below (ze g d))).mono ?_;rintro e W4 ⟨⟨u1,rfl,a1⟩,a⟩;have I:=hI a1;have f:=ze d a;have r:=zb q a;clear y0 y1 y2 y3 O P Q R S T z A D s6 u v y d q a a1 W3
     cases u1 with
     | false =>
      have G:Hid (¬ zgV s l m B):=λh=>by have h1:=(h.1 k X).2.1;rw[← Z.out] at h1;have:=I.2 h1;cases this
      go_wp2;go_ret;exact⟨zl G,ze g f⟩
     | true =>
     have a5:=hI (I.1 rfl);clear I;obtain⟨y0,y1,y2,y3,O,P,Q,R,S,T,z,A,D⟩:=zeX r;have s6:=za (zb U f) 6 _ rfl;obtain⟨u,v,y⟩:=ce3 (zb N f);go_wp2_with fail;refine(zaW b K L l b0 b9 _ Y.2.2 (d5.below (ze g f))).mono ?_;rintro e W5 ⟨⟨u2,rfl,a2⟩,a⟩;have J:=hI a2;have F:=ze f a;have b2:=zb r a;clear y0 y1 y2 y3 O P Q R S T z A D s6 u v y f r a a2 W4
     cases u2 with
     | false =>
      have G:Hid (¬ zgV s l m B):=λh=>by have h1:=(h.1 k X).2.2;rw[← Z.out] at h1;have:=J.2 h1;cases this
      go_wp2;go_ret;exact⟨zl G,ze g F⟩
     | true =>
     have a6:=hI (J.1 rfl);clear J;go_wp2;go_roundw
     case rel=>exact⟨k+1,by omega,by go_num,by rw[Qy (by rw[← Z.out];exact d1.out),← b5.out];simp,by rw[Qy (by rw[← Z.out];exact a7.out),← b6.out];simp,λj hj=>by
      by_cases e:j=k
      ·subst e;rw[← Z.out];exact⟨a4,a5,a6⟩
      ·exact HA j (by omega),F⟩
     case measure=>simp[intOf];omega
    | false =>
     have a7:Hid (¬ _):=λh=>by have:=H2.2 h;cases this
     clear H2;obtain⟨y0,y1,y2,y3,O,P,Q,R,S,T,z,A,D⟩:=zeX t;have s6:=za (zb U o) 6 _ rfl;obtain⟨u,v,y⟩:=ce3 (zb N o);go_wp2_with fail;refine(zbP b K L l b1 d0 _ Y.1 (d6.below (ze g o))).mono ?_;rintro e W3 ⟨⟨u0,rfl,a0⟩,a⟩;have H:=hI a0;have d:=ze o a;have q:=zb t a;clear y0 y1 y2 y3 O P Q R S T z A D s6 u v y o t a a0 W2
     cases u0 with
     | false =>
      have G:Hid (¬ zgV s l m B):=λh=>by have h1:=(h.1 k X).1;rw[← Z.out] at h1;have:=H.2 h1;cases this
      go_wp2;go_ret;exact⟨zl G,ze g d⟩
     | true =>
     have a4:=hI (H.1 rfl);clear H;obtain⟨y0,y1,y2,y3,O,P,Q,R,S,T,z,A,D⟩:=zeX q;have s6:=za (zb U d) 6 _ rfl;obtain⟨u,v,y⟩:=ce3 (zb N d);go_wp2_with fail;refine(zaX b K L s l a8 a9 b7 b8 _ Y.2.1 d3 (d2.below (ze g d)) (d4.below (ze g d))).mono ?_;rintro e W4 ⟨⟨u1,rfl,a1⟩,a⟩;have I:=hI a1;have f:=ze d a;have r:=zb q a;clear y0 y1 y2 y3 O P Q R S T z A D s6 u v y d q a a1 W3
     cases u1 with
     | false =>
      have G:Hid (¬ zgV s l m B):=λh=>by have h1:=(h.1 k X).2.1;rw[← Z.out] at h1;have:=I.2 h1;cases this
      go_wp2;go_ret;exact⟨zl G,ze g f⟩
     | true =>
     have a5:=hI (I.1 rfl);clear I;obtain⟨y0,y1,y2,y3,O,P,Q,R,S,T,z,A,D⟩:=zeX r;have s6:=za (zb U f) 6 _ rfl;obtain⟨u,v,y⟩:=ce3 (zb N f);go_wp2_with fail;refine(zaW b K L l b0 b9 _ Y.2.2 (d5.below (ze g f))).mono ?_;rintro e W5 ⟨⟨u2,rfl,a2⟩,a⟩;have J:=hI a2;have F:=ze f a;have b2:=zb r a;clear y0 y1 y2 y3 O P Q R S T z A D s6 u v y f r a a2 W4
     cases u2 with
     | false =>
      have G:Hid (¬ zgV s l m B):=λh=>by have h1:=(h.1 k X).2.2;rw[← Z.out] at h1;have:=J.2 h1;cases this
      go_wp2;go_ret;exact⟨zl G,ze g F⟩
     | true =>
     have a6:=hI (J.1 rfl);clear J;go_wp2;go_roundw
     case rel=>exact⟨k+1,by omega,by go_num,by rw[Qy (by rw[← Z.out];exact d1.out),← b5.out];simp,by rw[zae (by rw[← Z.out];exact a7.out),← b6.out],λj hj=>by
      by_cases e:j=k
      ·subst e;rw[← Z.out];exact⟨a4,a5,a6⟩
      ·exact HA j (by omega),F⟩
     case measure=>simp[intOf];omega
   | false =>
    have d1:Hid (¬ _):=λh=>by have:=H1.2 h;cases this
    clear H1;have O:=za n 4 _ rfl;have P:=za n 5 _ rfl;have Q:=za n 6 _ rfl;have R:=za n 7 _ rfl;have S:=za n 8 _ rfl;have T:=za n 9 _ rfl;go_wp2_with fail;refine(Q7 _ _ _ _ _ _ _).mono ?_;rw[← d7.out];rintro e W2 ⟨rfl,a⟩;have o:=ze b4 a;have t:=zb n a;clear O P Q R S T b4 n a W1 d7
    cases t2 with
    | true =>
     have a7:=hI (H2.1 rfl);clear H2;obtain⟨y0,y1,y2,y3,O,P,Q,R,S,T,z,A,D⟩:=zeX t;have s6:=za (zb U o) 6 _ rfl;obtain⟨u,v,y⟩:=ce3 (zb N o);go_wp2_with fail;refine(zbP b K L l b1 d0 _ Y.1 (d6.below (ze g o))).mono ?_;rintro e W3 ⟨⟨u0,rfl,a0⟩,a⟩;have H:=hI a0;have d:=ze o a;have q:=zb t a;clear y0 y1 y2 y3 O P Q R S T z A D s6 u v y o t a a0 W2
     cases u0 with
     | false =>
      have G:Hid (¬ zgV s l m B):=λh=>by have h1:=(h.1 k X).1;rw[← Z.out] at h1;have:=H.2 h1;cases this
      go_wp2;go_ret;exact⟨zl G,ze g d⟩
     | true =>
     have a4:=hI (H.1 rfl);clear H;obtain⟨y0,y1,y2,y3,O,P,Q,R,S,T,z,A,D⟩:=zeX q;have s6:=za (zb U d) 6 _ rfl;obtain⟨u,v,y⟩:=ce3 (zb N d);go_wp2_with fail;refine(zaX b K L s l a8 a9 b7 b8 _ Y.2.1 d3 (d2.below (ze g d)) (d4.below (ze g d))).mono ?_;rintro e W4 ⟨⟨u1,rfl,a1⟩,a⟩;have I:=hI a1;have f:=ze d a;have r:=zb q a;clear y0 y1 y2 y3 O P Q R S T z A D s6 u v y d q a a1 W3
     cases u1 with
     | false =>
      have G:Hid (¬ zgV s l m B):=λh=>by have h1:=(h.1 k X).2.1;rw[← Z.out] at h1;have:=I.2 h1;cases this
      go_wp2;go_ret;exact⟨zl G,ze g f⟩
     | true =>
     have a5:=hI (I.1 rfl);clear I;obtain⟨y0,y1,y2,y3,O,P,Q,R,S,T,z,A,D⟩:=zeX r;have s6:=za (zb U f) 6 _ rfl;obtain⟨u,v,y⟩:=ce3 (zb N f);go_wp2_with fail;refine(zaW b K L l b0 b9 _ Y.2.2 (d5.below (ze g f))).mono ?_;rintro e W5 ⟨⟨u2,rfl,a2⟩,a⟩;have J:=hI a2;have F:=ze f a;have b2:=zb r a;clear y0 y1 y2 y3 O P Q R S T z A D s6 u v y f r a a2 W4
     cases u2 with
     | false =>
      have G:Hid (¬ zgV s l m B):=λh=>by have h1:=(h.1 k X).2.2;rw[← Z.out] at h1;have:=J.2 h1;cases this
      go_wp2;go_ret;exact⟨zl G,ze g F⟩
     | true =>
     have a6:=hI (J.1 rfl);clear J;go_wp2;go_roundw
     case rel=>exact⟨k+1,by omega,by go_num,by rw[zae (by rw[← Z.out];exact d1.out),← b5.out],by rw[Qy (by rw[← Z.out];exact a7.out),← b6.out];simp,λj hj=>by
      by_cases e:j=k
      ·subst e;rw[← Z.out];exact⟨a4,a5,a6⟩
      ·exact HA j (by omega),F⟩
     case measure=>simp[intOf];omega
    | false =>
     have a7:Hid (¬ _):=λh=>by have:=H2.2 h;cases this
     clear H2;obtain⟨y0,y1,y2,y3,O,P,Q,R,S,T,z,A,D⟩:=zeX t;have s6:=za (zb U o) 6 _ rfl;obtain⟨u,v,y⟩:=ce3 (zb N o);go_wp2_with fail;refine(zbP b K L l b1 d0 _ Y.1 (d6.below (ze g o))).mono ?_;rintro e W3 ⟨⟨u0,rfl,a0⟩,a⟩;have H:=hI a0;have d:=ze o a;have q:=zb t a;clear y0 y1 y2 y3 O P Q R S T z A D s6 u v y o t a a0 W2
     cases u0 with
     | false =>
      have G:Hid (¬ zgV s l m B):=λh=>by have h1:=(h.1 k X).1;rw[← Z.out] at h1;have:=H.2 h1;cases this
      go_wp2;go_ret;exact⟨zl G,ze g d⟩
     | true =>
     have a4:=hI (H.1 rfl);clear H;obtain⟨y0,y1,y2,y3,O,P,Q,R,S,T,z,A,D⟩:=zeX q;have s6:=za (zb U d) 6 _ rfl;obtain⟨u,v,y⟩:=ce3 (zb N d);go_wp2_with fail;refine(zaX b K L s l a8 a9 b7 b8 _ Y.2.1 d3 (d2.below (ze g d)) (d4.below (ze g d))).mono ?_;rintro e W4 ⟨⟨u1,rfl,a1⟩,a⟩;have I:=hI a1;have f:=ze d a;have r:=zb q a;clear y0 y1 y2 y3 O P Q R S T z A D s6 u v y d q a a1 W3
     cases u1 with
     | false =>
      have G:Hid (¬ zgV s l m B):=λh=>by have h1:=(h.1 k X).2.1;rw[← Z.out] at h1;have:=I.2 h1;cases this
      go_wp2;go_ret;exact⟨zl G,ze g f⟩
     | true =>
     have a5:=hI (I.1 rfl);clear I;obtain⟨y0,y1,y2,y3,O,P,Q,R,S,T,z,A,D⟩:=zeX r;have s6:=za (zb U f) 6 _ rfl;obtain⟨u,v,y⟩:=ce3 (zb N f);go_wp2_with fail;refine(zaW b K L l b0 b9 _ Y.2.2 (d5.below (ze g f))).mono ?_;rintro e W5 ⟨⟨u2,rfl,a2⟩,a⟩;have J:=hI a2;have F:=ze f a;have b2:=zb r a;clear y0 y1 y2 y3 O P Q R S T z A D s6 u v y f r a a2 W4
     cases u2 with
     | false =>
      have G:Hid (¬ zgV s l m B):=λh=>by have h1:=(h.1 k X).2.2;rw[← Z.out] at h1;have:=J.2 h1;cases this
      go_wp2;go_ret;exact⟨zl G,ze g F⟩
     | true =>
     have a6:=hI (J.1 rfl);clear J;go_wp2;go_roundw
     case rel=>exact⟨k+1,by omega,by go_num,by rw[zae (by rw[← Z.out];exact d1.out),← b5.out],by rw[zae (by rw[← Z.out];exact a7.out),← b6.out],λj hj=>by
      by_cases e:j=k
      ·subst e;rw[← Z.out];exact⟨a4,a5,a6⟩
      ·exact HA j (by omega),F⟩
     case measure=>simp[intOf];omega
  ·obtain rfl:k=m:=by omega
   obtain⟨u,v,y⟩:=ce3 (zb N a3);have HJ:Hid (zgV s l k B↔l.stn=m1/\l.ron=m2/\l.sen=k):=by
    show _↔_
    unfold zgV;rw[← b5.out,← b6.out];exact⟨λh=>h.2,λh=>⟨HA,h⟩⟩
   have d8:=ze g a3;clear a3 b5 b6 HA
   by_cases v1:l.stn=m1
   case neg =>
    have e1:((l.stn:Int) == (m1:Int))=false:=by simp;omega
    have G:Hid (¬ _):=λh=>v1 (HJ.1 h).1
    clear v1;go_wp2;go_ret;exact⟨zl G,d8⟩
   have e1:((l.stn:Int) == (m1:Int))=true:=by simp;omega
   by_cases v2:l.ron=m2
   case neg =>
    have e2:((l.ron:Int) == (m2:Int))=false:=by simp;omega
    have G:Hid (¬ _):=λh=>v2 (HJ.1 h).2.1
    clear v1 v2;go_wp2;go_ret;exact⟨zl G,d8⟩
   have e2:((l.ron:Int) == (m2:Int))=true:=by simp;omega
   by_cases v3:l.sen=k
   case neg =>
    have e3:((l.sen:Int) == (k:Int))=false:=by simp;omega
    have G:Hid (¬ _):=λh=>v3 (HJ.1 h).2.2
    clear v1 v2 v3;go_wp2;go_ret;exact⟨zl G,d8⟩
   have e3:((l.sen:Int) == (k:Int))=true:=by simp;omega
   have G:=hI (HJ.2 ⟨v1,v2,v3⟩);clear v1 v2 v3;go_wp2;go_ret;exact⟨zR G,d8⟩
theorem zkZ (g bo:Option Addr)(m k n c:Nat)(p:zH)(S:Nat->Zp)(w:World)(h:p.n=m)(s:m<=1048576)(t:n<=1048576)(r:n<=c)(i:zG w g p)(j:qw w bo n S) :
  Calls prog 178 #[.slice g m k,.slice bo n c] w λe w'=>qX (zfj p n S) e/\Below w.heap.size w w':=by
 have o:=hI i;have q:=hI j;have l:=hI h;clear i j h;go_enter func178,ntmps178;go_wp2_with fail;refine(zee g bo m k n c p S _ l.out s t r o.out q.out).mono ?_;rintro e w1 ⟨a,b⟩;unfold zlX zmH at a
 rcases a with⟨d,rfl⟩|⟨d,rfl⟩
 ·have f:=hI d
  clear d;go_wp2;go_ret;exact⟨zR f.out,zk b _⟩
 ·have f:=hI d
  clear d;go_wp2;go_ret;exact⟨zl f.out,zk b _⟩
end Go.Proofs.YtmdnjgihooflfaaGreatDoor
