/-
  OWN TEXT: CloneR, CopyLd, CloneP, CopyS, CopyOf, ConcatW, WorksI.
-/
import Derived.Deep.LoopGhost
import Derived.Lib.SliceRun
import Derived.Deep.DeepCutAuto
import Derived.Deep.RegionWith
import Derived.Deep.RegionHeld3
import Derived.Lib.AppendZeros
import Derived.Test.YtmdnjgihooflfaaGreatDoorB23
namespace Go.Proofs.YtmdnjgihooflfaaGreatDoor
open Go.RowKit
open Go.Value (int)
open Go.IntKind (i64)
open Tryz
set_option maxHeartbeats 64000000
set_option maxRecDepth 100000
def zcb (w:World)(a:Option Addr)(b:List Value):Prop:=∀ ad,a=some ad->∀ j u,b[j]?=some u->w.cell? (ad.add j)=some u
theorem zcb.below {w w':World}{b:Option Addr}{d:List Value}(h:zcb w b d)(f:Below w.heap.size w w'):zcb w' b d:=λa e j u c=>(f.cell (Ja w _ (h a e j u c))).trans (h a e j u c)
theorem cloneStay (i:Option Addr)(n c:Nat)(d:List Value)(w:World)(y:n<=1048576)(x:d.length=n*4)(h1:∀ u ∈ d,u.oneCell'=true)(l:zcb w i d)(b:i=none->n=0/\c=0) :
  Calls prog 209 #[(i,n,c)] w λe w'=>(∃ v,e=.returned v/\w'.ownsRow w.heap.size 220 4 v n d)/\Below w.heap.size w w':=by
 have qT:∀ (w) (a) (n c r c'),(binOp _ 141 (.slice a n c) _).run _ w=_:=λw a n c r c'=>Lib.run_eql_slice_nil w _ _ a n c r c' underlying141
 cases i with
 | none =>
  obtain⟨rfl,rfl⟩:=b rfl;obtain rfl:d=[]:=List.length_eq_zero_iff.1 (by omega)
  clear b l y;go_enter func209,ntmps209;go_wp2;go_ret;exact⟨⟨_,rfl,World.ownsRow_nil _ _ _ _⟩,bZ⟩
 | some ad =>
  obtain⟨z,A,m,o,p⟩:=info_parts Tryz.infoStay;have f:Below _ w (w.alloc (.cells #[] 220)):=zk bZ _;have q:(w.alloc _).ownsRow _ 220 4 _ 0 []:=⟨rfl,.inr ⟨_,0,#[],rfl,Jr _,Jb w _,Jr _,Jq _,rfl,rfl⟩⟩;have s:=hI (l.below f);clear b l;go_enter func209,ntmps209;go_wp2_with (first|(at_builtin;refine zv _ rfl _ _ 141 rfl _ 220 z _ 4 32 underlying141 A m o p rfl (by decide) _ 0 [] (by rfl) q _ n c d rfl (λh=>(by cases h)) x s h1 (by unfold maxLen;omega) (by omega) (by simp) ?_;intro v' w3 g k))
  go_ret;rw[Nat.zero_add,List.nil_append] at g;exact⟨⟨_,rfl,g⟩,f.grown k (by simp) (λj t=>(q.lt j t).1)⟩
theorem cloneRoom (i:Option Addr)(n c:Nat)(d:List Value)(w:World)(y:n<=1048576)(x:d.length=n*4)(h1:∀ u ∈ d,u.oneCell'=true)(l:zcb w i d)(b:i=none->n=0/\c=0) :
  Calls prog 210 #[(i,n,c)] w λe w'=>(∃ v,e=.returned v/\w'.ownsRow w.heap.size 228 4 v n d)/\Below w.heap.size w w':=by
 have qT:∀ (w) (a) (n c r c'),(binOp _ 142 (.slice a n c) _).run _ w=_:=λw a n c r c'=>Lib.run_eql_slice_nil w _ _ a n c r c' underlying142
 cases i with
 | none =>
  obtain⟨rfl,rfl⟩:=b rfl;obtain rfl:d=[]:=List.length_eq_zero_iff.1 (by omega)
  clear b l y;go_enter func210,ntmps210;go_wp2;go_ret;exact⟨⟨_,rfl,World.ownsRow_nil _ _ _ _⟩,bZ⟩
 | some ad =>
  obtain⟨z,A,m,o,p⟩:=info_parts Tryz.infoRoom;have f:Below _ w (w.alloc (.cells #[] 228)):=zk bZ _;have q:(w.alloc _).ownsRow _ 228 4 _ 0 []:=⟨rfl,.inr ⟨_,0,#[],rfl,Jr _,Jb w _,Jr _,Jq _,rfl,rfl⟩⟩;have s:=hI (l.below f);clear b l;go_enter func210,ntmps210;go_wp2_with (first|(at_builtin;refine zv _ rfl _ _ 142 rfl _ 228 z _ 4 32 underlying142 A m o p rfl (by decide) _ 0 [] (by rfl) q _ n c d rfl (λh=>(by cases h)) x s h1 (by unfold maxLen;omega) (by omega) (by simp) ?_;intro v' w3 g k))
  go_ret;rw[Nat.zero_add,List.nil_append] at g;exact⟨⟨_,rfl,g⟩,f.grown k (by simp) (λj t=>(q.lt j t).1)⟩
theorem cloneSeat (i:Option Addr)(n c:Nat)(d:List Value)(w:World)(y:n<=1048576)(x:d.length=n*2)(h1:∀ u ∈ d,u.oneCell'=true)(l:zcb w i d)(b:i=none->n=0/\c=0) :
  Calls prog 211 #[(i,n,c)] w λe w'=>(∃ v,e=.returned v/\w'.ownsRow w.heap.size 234 2 v n d)/\Below w.heap.size w w':=by
 have qT:∀ (w) (a) (n c r c'),(binOp _ 143 (.slice a n c) _).run _ w=_:=λw a n c r c'=>Lib.run_eql_slice_nil w _ _ a n c r c' underlying143
 cases i with
 | none =>
  obtain⟨rfl,rfl⟩:=b rfl;obtain rfl:d=[]:=List.length_eq_zero_iff.1 (by omega)
  clear b l y;go_enter func211,ntmps211;go_wp2;go_ret;exact⟨⟨_,rfl,World.ownsRow_nil _ _ _ _⟩,bZ⟩
 | some ad =>
  obtain⟨z,A,m,o,p⟩:=info_parts Tryz.infoSeat;have f:Below _ w (w.alloc (.cells #[] 234)):=zk bZ _;have q:(w.alloc _).ownsRow _ 234 2 _ 0 []:=⟨rfl,.inr ⟨_,0,#[],rfl,Jr _,Jb w _,Jr _,Jq _,rfl,rfl⟩⟩;have s:=hI (l.below f);clear b l;go_enter func211,ntmps211;go_wp2_with (first|(at_builtin;refine zv _ rfl _ _ 143 rfl _ 234 z _ 2 16 underlying143 A m o p rfl (by decide) _ 0 [] (by rfl) q _ n c d rfl (λh=>(by cases h)) x s h1 (by unfold maxLen;omega) (by omega) (by simp) ?_;intro v' w3 g k))
  go_ret;rw[Nat.zero_add,List.nil_append] at g;exact⟨⟨_,rfl,g⟩,f.grown k (by simp) (λj t=>(q.lt j t).1)⟩
theorem cloneLoad (i:Option Addr)(n c:Nat)(d:List Value)(w:World)(y:n<=1048576)(x:d.length=n*3)(h1:∀ u ∈ d,u.oneCell'=true)(l:zcb w i d)(b:i=none->n=0/\c=0) :
  Calls prog 197 #[(i,n,c)] w λe w'=>(∃ v,e=.returned v/\w'.ownsRow w.heap.size 145 3 v n d)/\Below w.heap.size w w':=by
 have qT:∀ (w) (a) (n c r c'),(binOp _ 35 (.slice a n c) _).run _ w=_:=λw a n c r c'=>Lib.run_eql_slice_nil w _ _ a n c r c' underlying35
 cases i with
 | none =>
  obtain⟨rfl,rfl⟩:=b rfl;obtain rfl:d=[]:=List.length_eq_zero_iff.1 (by omega)
  clear b l y;go_enter func197,ntmps197;go_wp2;go_ret;exact⟨⟨_,rfl,World.ownsRow_nil _ _ _ _⟩,bZ⟩
 | some ad =>
  obtain⟨z,A,m,o,p⟩:=info_parts Tryz.infoLoadO;have f:Below _ w (w.alloc (.cells #[] 145)):=zk bZ _;have q:(w.alloc _).ownsRow _ 145 3 _ 0 []:=⟨rfl,.inr ⟨_,0,#[],rfl,Jr _,Jb w _,Jr _,Jq _,rfl,rfl⟩⟩;have s:=hI (l.below f);clear b l;go_enter func197,ntmps197;go_wp2_with (first|(at_builtin;refine zv _ rfl _ _ 35 rfl _ 145 z _ 3 72 underlying35 A m o p rfl (by decide) _ 0 [] (by rfl) q _ n c d rfl (λh=>(by cases h)) x s h1 (by unfold maxLen;omega) (by omega) (by simp) ?_;intro v' w3 g k))
  go_ret;rw[Nat.zero_add,List.nil_append] at g;exact⟨⟨_,rfl,g⟩,f.grown k (by simp) (λj t=>(q.lt j t).1)⟩
section
open Go.RowKit
structure CLd (w u:World)(k g:Nat)(l:zY)(c a b:Option Addr)(f d e:Nat)(h i j:Option Value):Prop where
 bel:Below w.heap.size w u
 rl:w.heap.size<=g
 src:zY.Is w [(c,l.stn,f),(a,l.ron,d),(b,l.sen,e)] l
 sh:zY.Short l 1048576
 box:u.heap[k]?=some (.cells #[(c,l.stn,f),(a,l.ron,d),(b,l.sen,e)] 145 (0,0))
 res:u.heap[g]?=some (.cells #[True,True,True] 145 (0,0))
 h1:∀ v,h=some v->u.ownsRow w.heap.size 220 4 v l.stn (zy l.st l.stn)
 h2:∀ v,i=some v->u.ownsRow w.heap.size 228 4 v l.ron (zw l.ro l.ron)
 h3:∀ v,j=some v->u.ownsRow w.heap.size 234 2 v l.sen (zB l.se l.sen)
section
variable {w u : World} {xb rb : Nat} {l : zY} {ast aro ase : Option Addr} {cst cro cse : Nat} {p1 p2 p3 : Option Value}
theorem CLd.s (h:CLd w u xb rb l ast aro ase cst cro cse p1 p2 p3):u.cell? (xb,0)=some (ast,l.stn,cst)/\u.cell? (xb,1)=some (aro,l.ron,cro)/\u.cell? (xb,2)=some (ase,l.sen,cse):=⟨za h.box 0 _ rfl,za h.box 1 _ rfl,za h.box 2 _ rfl⟩
theorem CLd.below {b:World}(h:CLd w u xb rb l ast aro ase cst cro cse p1 p2 p3)(a:Below u.heap.size u b):CLd w b xb rb l ast aro ase cst cro cse p1 p2 p3:=⟨ze h.bel a,h.rl,h.src,h.sh,zb h.box a,zb h.res a,λv e=>zo a (h.h1 v e),λv e=>zo a (h.h2 v e),λv e=>zo a (h.h3 v e)⟩
theorem CLd.c1 (h:CLd w u xb rb l ast aro ase cst cro cse none p2 p3):Calls prog 209 #[.slice ast l.stn cst] u λe i=>∃ b c,e=.returned (.slice b l.stn c)/\Hid (CLd w i xb rb l ast aro ase cst cro cse (some (.slice b l.stn c)) p2 p3):=by
 obtain⟨_,_,_,_,_,_,a,d,f,m,o,n,p⟩:=h.src;simp only[List.cons.injEq,Value.slice.injEq,true_and,and_true] at a;obtain⟨⟨rfl,rfl⟩,⟨rfl,rfl⟩,rfl,rfl⟩:=a;refine(cloneStay ast _ cst _ u h.sh.1 (ZR _ _) (QQ _ _) (zal (d.below h.bel)) f.2.2).mono ?_;rintro e i ⟨⟨v,rfl,g⟩,j⟩;obtain⟨b,c,rfl,_⟩:=zp g;have k:=h.below j;exact⟨b,c,rfl,k.bel,k.rl,k.src,k.sh,k.box,k.res,λv' e=>(by cases e;exact zu g h.bel.size),k.h2,k.h3⟩
theorem CLd.c2 (h:CLd w u xb rb l ast aro ase cst cro cse p1 none p3):Calls prog 210 #[.slice aro l.ron cro] u λe i=>∃ b c,e=.returned (.slice b l.ron c)/\Hid (CLd w i xb rb l ast aro ase cst cro cse p1 (some (.slice b l.ron c)) p3):=by
 obtain⟨_,_,_,_,_,_,a,n,p,d,f,m,o⟩:=h.src;simp only[List.cons.injEq,Value.slice.injEq,true_and,and_true] at a;obtain⟨⟨rfl,rfl⟩,⟨rfl,rfl⟩,rfl,rfl⟩:=a;refine(cloneRoom aro _ cro _ u h.sh.2.1 (qK _ _) (Z5 _ _) (Qv (d.below h.bel)) f.2.2).mono ?_;rintro e i ⟨⟨v,rfl,g⟩,j⟩;obtain⟨b,c,rfl,_⟩:=zp g;have k:=h.below j;exact⟨b,c,rfl,k.bel,k.rl,k.src,k.sh,k.box,k.res,k.h1,λv' e=>(by cases e;exact zu g h.bel.size),k.h3⟩
theorem CLd.c3 (h:CLd w u xb rb l ast aro ase cst cro cse p1 p2 none):Calls prog 211 #[.slice ase l.sen cse] u λe i=>∃ b c,e=.returned (.slice b l.sen c)/\Hid (CLd w i xb rb l ast aro ase cst cro cse p1 p2 (some (.slice b l.sen c))):=by
 obtain⟨_,_,_,_,_,_,a,n,p,m,o,d,f⟩:=h.src;simp only[List.cons.injEq,Value.slice.injEq,true_and,and_true] at a;obtain⟨⟨rfl,rfl⟩,⟨rfl,rfl⟩,rfl,rfl⟩:=a;refine(cloneSeat ase _ cse _ u h.sh.2.2 (Zo _ _) (zar _ _) (zaP (d.below h.bel)) f.2.2).mono ?_;rintro e i ⟨⟨v,rfl,g⟩,j⟩;obtain⟨b,c,rfl,_⟩:=zp g;have k:=h.below j;exact⟨b,c,rfl,k.bel,k.rl,k.src,k.sh,k.box,k.res,k.h1,k.h2,λv' e=>(by cases e;exact zu g h.bel.size)⟩
structure CLe (w u:World)(g h:Nat)(l:zY)(c a b:Option Addr)(f d e:Nat)(v1 v2 v3:Value):Prop where
 bel:Below w.heap.size w u
 s:u.cell? (g,0)=some (c,l.stn,f)/\u.cell? (g,1)=some (a,l.ron,d)/\u.cell? (g,2)=some (b,l.sen,e)
 res:u.heap[h]?=some (.cells #[v1,v2,v3] 145 (0,0))
 h1:u.ownsRow w.heap.size 220 4 v1 l.stn (zy l.st l.stn)
 h2:u.ownsRow w.heap.size 228 4 v2 l.ron (zw l.ro l.ron)
 h3:u.ownsRow w.heap.size 234 2 v3 l.sen (zB l.se l.sen)
theorem CLd.fin {v1 v2 v3:Value}(h:CLd w u xb rb l ast aro ase cst cro cse (some v1) (some v2) (some v3))(i:xb≠rb):CLe w (((u.setCell (rb,0) v1).setCell (rb,1) v2).setCell (rb,2) v3) xb rb l ast aro ase cst cro cse v1 v2 v3:=by
 have d:zx u (((u.setCell _ v1).setCell _ v2).setCell _ v3) _:=(((zx.refl u (λb=>b=rb)).set (a:=(rb,0)) rfl _).set (a:=(rb,1)) rfl _).set (a:=(rb,2)) rfl _
 have f:=d.blk h.box i;exact⟨((h.bel.setCell h.rl _).setCell h.rl _).setCell h.rl _,⟨za f 0 _ rfl,za f 1 _ rfl,za f 2 _ rfl⟩,by simpa using zm (zm (zm h.res 0 v1) 1 v2) 2 v3,d.own (h.h1 _ rfl) (λg c e=>zQ (h.h1 _ rfl) h.res (by decide) g c e),d.own (h.h2 _ rfl) (λg c e=>zQ (h.h2 _ rfl) h.res (by decide) g c e),d.own (h.h3 _ rfl) (λg c e=>zQ (h.h3 _ rfl) h.res (by decide) g c e)⟩
end
theorem zkS (l:zY)(f c d:Option Addr)(j g i:Nat)(w:World)(A:zY.Short l 1048576)(h:zY.Is w [(f,l.stn,j),(c,l.ron,g),(d,l.sen,i)] l) :
  Calls prog 115 #[.agg #[.slice f l.stn j,.slice c l.ron g,.slice d l.sen i]] w λe w'=>(∃ n q o r p s,e=.returned (.agg #[.slice n l.stn q,.slice o l.ron r,.slice p l.sen s])/\w'.ownsRow w.heap.size 220 4 (.slice n l.stn q) l.stn (zy l.st l.stn)/\w'.ownsRow w.heap.size 228 4 (.slice o l.ron r) l.ron (zw l.ro l.ron)/\w'.ownsRow w.heap.size 234 2 (.slice p l.sen s) l.sen (zB l.se l.sen))/\Below w.heap.size w w':=by
 have a:Hid (CLd w _ _ (w.heap.size+1) l f c d j g i none none none) :=
  ⟨(zk (zk bZ _) _).drew,by omega,h,A,zK (zd (Jb w _) _),zK (by simpa using Jb (w.alloc _) _),λ_ e=>(by cases e),λ_ e=>(by cases e),λ_ e=>(by cases e)⟩
 have t:w.heap.size≠w.heap.size+1:=by omega
 go_enter func115,ntmps115;go_upto_region 1 with fail;refine qg 11 11 (λu=>u.cell? _=_/\u.cell? _=_/\u.cell? _=_) rfl (by kernel_rfl) a.s (λm=>?_)
 simp only[List.replicate_succ,List.replicate_zero];generalize ((w.alloc _).alloc _).drew=u0 at a m ⊢
 iterate 2 (refine tFN 0 (v:=?_) rfl (by kernel_rfl) (λ_ _ _ h=>h) rfl (by assumption) ?_ ?_;rotate_left;(focus(intro w' h;(try dsimp only at h);go_simp;try with_reducible rfl));simp only[Act.put,sB,sZ,sS])
 iterate 2 (refine tFN 3 (v:=?_) rfl (by kernel_rfl) (λ_ _ _ h=>h) rfl (by assumption) ?_ ?_;rotate_left;(focus(intro w' h;(try dsimp only at h);go_simp;try with_reducible rfl));simp only[Act.put,sB,sZ,sS])
 iterate 2 (refine tFN 6 (v:=?_) rfl (by kernel_rfl) (λ_ _ _ h=>h) rfl (by assumption) ?_ ?_;rotate_left;(focus(intro w' h;(try dsimp only at h);go_simp;try with_reducible rfl));simp only[Act.put,sB,sZ,sS])
 refine zj (rs:=[2]) (by kernel_rfl) (by simp) ?_
 refine zc.consL rfl (λK b=>?_) zc.nil
 focus
  go_simp;go_at_call 209;refine Jm (a.c1) ?_;rintro e u1 ⟨n,q,rfl,a⟩;dsimp only;refine b _ _ a.s (λm=>?_)
  clear b K;simp only[sZ,sS];refine zj (rs:=[5]) (by kernel_rfl) (by simp) ?_
  refine zc.consL rfl (λK b=>?_) zc.nil
  focus
   go_simp;go_at_call 210;refine Jm (a.c2) ?_;rintro e u2 ⟨o,r,rfl,a⟩;dsimp only;refine b _ _ a.s (λm=>?_)
   clear b K;simp only[sZ,sS];refine zj (rs:=[8]) (by kernel_rfl) (by simp) ?_
   refine zc.consL rfl (λK b=>?_) zc.nil
   focus
    go_simp;go_at_call 211;refine Jm (a.c3) ?_;rintro e u3 ⟨p,s,rfl,a⟩;dsimp only;refine b _ _ a.s (λm=>?_)
    clear b K;simp only[sZ,sS]
 all_goals
  (refine tFN 9 (v:=?_) rfl (by kernel_rfl) (λ_ _ _ h=>h) rfl (by assumption) ?_ ?_;rotate_left;(focus(intro w' h;(try dsimp only at h);go_simp;try with_reducible rfl));simp only[Act.put,sB,sZ,sS])
  obtain⟨B,C,D⟩:=ce3 a.res;obtain⟨x,y,z⟩:=fe3 a.res;refine zj (rs:=[10]) (by kernel_rfl) (by simp) ?_
  refine zc.consL rfl (λK b=>?_) zc.nil
  go_simp;have k:=hI (a.fin t);refine b _ _ k.s (λm=>?_)
  clear b K B C D x y z;simp only[sZ,sS];refine zX (by kernel_rfl) ?_ _
  go_wp2;obtain⟨E,F,G⟩:=ce3 k.res;exact Jj (by simp[results,results115,go_sem,E,F,G]) rfl ⟨⟨n,q,o,r,p,s,rfl,k.h1,k.h2,k.h3⟩,k.bel⟩
structure zjb (w:World)(base g k N:Nat)(S:Nat->zY)(A B D:Nat->Value):Prop where
 row:w.ownsRow base 145 3 (some (g,0),N,N) N ((List.range (N*3)).map (zZ 3 (zbJ k (ldC A B D) [True,True,True])))
 st:∀ i,i<k->w.ownsRow base 220 4 (A i) (S i).stn (zy (S i).st (S i).stn)
 ro:∀ i,i<k->w.ownsRow base 228 4 (B i) (S i).ron (zw (S i).ro (S i).ron)
 se:∀ i,i<k->w.ownsRow base 234 2 (D i) (S i).sen (zB (S i).se (S i).sen)
 far:zog k A/\zog k B/\zog k D
theorem zjb.below {w w':World}{base g k N:Nat}{S:Nat->zY}{A B D:Nat->Value}(h:zjb w base g k N S A B D)(b:Below w.heap.size w w'):zjb w' base g k N S A B D:=⟨zo b h.row,λi a=>zo b (h.st i a),λi a=>zo b (h.ro i a),λi a=>zo b (h.se i a),h.far⟩
theorem zjb.own {w:World}{base g N:Nat}{S:Nat->zY}{A B D:Nat->Value}(h:zjb w base g N N S A B D):qC w base (some (g,0),N,N) N S A B D :=
 ⟨zbs h.row (by decide) (λi a=>qr _ _ a),h.st,h.ro,h.se,h.far⟩
theorem zmM {w:World}{base e g c N t:Nat}{C:Nat->List Value}(v1 v2 v3:Value)(h:w.ownsRow base e 3 (some (g,0),N,c) N ((List.range (N*3)).map (zZ 3 C)))(d:(C t).length=3) :
  (((w.setCell (g,t*3) v1).setCell (g,t*3+1) v2).setCell (g,t*3+2) v3).ownsRow base e 3 (some (g,0),N,c) N ((List.range (N*3)).map (zZ 3 (λi=>if i=t then [v1,v2,v3] else C i))):=by
 have f:=Zr h t 0 v1 d (by decide)
 rw[Nat.add_zero] at f;have h1:=Zr f t 1 v2 (by simp only[Zb,List.length_set];exact d) (by decide)
 have h2:=Zr h1 t 2 v3 (by simp only[Zb,List.length_set];exact d) (by decide)
 refine zbs h2 (by decide) (λi hi=>?_)
 by_cases e:i=t
 ·subst e
  rw[Jf rfl];simp only[Zb]
  match hC:C i,d with
  | [a,b,c],_=>rfl
 ·rw[Je e]
  simp only[ziy _ _ _ e]
theorem zjb.step {w d:World}{base g k N:Nat}{S:Nat->zY}{A B D:Nat->Value}{v1 v2 v3:Value}(h:zjb w base g k N S A B D)(p:Below w.heap.size w d)(hk:k<N)(f:base<=w.heap.size)
  (h1:d.ownsRow w.heap.size 220 4 v1 (S k).stn (zy (S k).st (S k).stn)) (h2:d.ownsRow w.heap.size 228 4 v2 (S k).ron (zw (S k).ro (S k).ron)) (h3:d.ownsRow w.heap.size 234 2 v3 (S k).sen (zB (S k).se (S k).sen)) :
  zjb (((d.setCell (g,k*3) v1).setCell (g,k*3+1) v2).setCell (g,k*3+2) v3) base g (k+1) N S (atV A k v1) (atV B k v2) (atV D k v3):=by
 have hr:=h.below p;have j:zx d (((d.setCell _ v1).setCell _ v2).setCell _ v3) _:=(((zx.refl d (λb=>b=g)).set (a:=(g,k*3)) rfl _).set (a:=(g,k*3+1)) rfl _).set (a:=(g,k*3+2)) rfl _
 have far:∀ {t sz n:Nat} {v} {xs},_->145≠t->(((d.setCell _ v1).setCell _ v2).setCell _ v3).ownsRow base t sz v n xs:=λl r=>j.own l (λq m o=>zI hr.row l r q (by rw[show _ from o];rfl) m)
 refine⟨zbs (zmM v1 v2 v3 hr.row (by rw[zbT _ _ (by omega)];rfl)) (by decide) (λi c=>?_),λi c=>?_,λi c=>?_,λi c=>?_,h.far.1.snoc (λi c b e=>((h.st i c).lt b e).2) (λb e=>(h1.lt b e).1),h.far.2.1.snoc (λi c b e=>((h.ro i c).lt b e).2) (λb e=>(h2.lt b e).1),h.far.2.2.snoc (λi c b e=>((h.se i c).lt b e).2) (λb e=>(h3.lt b e).1)⟩
 ·by_cases e:i=k
  ·subst e;rw[Jf rfl,qr _ _ (by omega)];unfold ldC;rw[qu,qu,qu]
  ·rw[Je e]
   by_cases h:i<k
   ·rw[qr _ _ h,qr _ _ (by omega)];unfold ldC;rw[qf _ _ _ _ e,qf _ _ _ _ e,qf _ _ _ _ e]
   ·rw[zbT _ _ h,zbT _ _ (by omega)]
 ·by_cases e:i=k
  ·subst e;rw[qu];exact far (zu h1 f) (by decide)
  ·rw[qf _ _ _ _ e];exact far (hr.st i (by omega)) (by decide)
 ·by_cases e:i=k
  ·subst e;rw[qu];exact far (zu h2 f) (by decide)
  ·rw[qf _ _ _ _ e];exact far (hr.ro i (by omega)) (by decide)
 ·by_cases e:i=k
  ·subst e;rw[qu];exact far (zu h3 f) (by decide)
  ·rw[qf _ _ _ _ e];exact far (hr.se i (by omega)) (by decide)
theorem zjc (X:Option Addr)(N c:Nat)(S:Nat->zY)(w:World)(hN:N<=1048576)(Z:ZA N S 1048576)(hz:ZG w X N S) :
  Calls prog 114 #[.slice X N c,.func (.func 115) #[] #[]] w λe w'=>(∃ g A B D,e=.returned (.slice (some ⟨g,0,none⟩) N N)/\qC w' w.heap.size (.slice (some ⟨g,0,none⟩) N N) N S A B D)/\Below w.heap.size w w':=by
 obtain⟨i0,E,T,U,V⟩:=info_parts Tryz.infoLoadO;have HS:=hI Z;have HX:=hI hz;clear Z hz;go_enter func114,ntmps114;go_wp2_with (first|(at_make;refine wpList_make_full _ rfl _ _ 35 rfl _ 145 i0 _ 3 underlying35 E T U _ _ _ _ N rfl rfl rfl rfl (by rw[V];omega) (by unfold maxLen;omega) (Jr _) ?_;intro w1 t f))
 go_loopw [6,7,13] (λ_ _ i wr=>∃ (k:Nat) (A B D:_),k<=N/\i=int i64 k/\zjb wr w.heap.size w.heap.size k N S A B D/\Below w.heap.size w wr) (λ_ _ i _=>N - (intOf i).toNat)
 case atStart=>exact⟨0,λ_=>.slice none 0 0,λ_=>.slice none 0 0,λ_=>.slice none 0 0,Jq _,rfl,⟨Zz ((ZP t).congr (λj hj=>(zes (z:=#[_,_,_]) (sz:=3) rfl N j hj).trans (by unfold zZ;rw[zbT _ _ (by omega)]))) (Jr _) (by unfold maxLen;omega),λi E=>by omega,λi E=>by omega,λi E=>by omega,λi j E=>by omega,λi j E=>by omega,λi j E=>by omega⟩,bZ.grown f (Jr _) (by simp)⟩
 case round =>
  obtain⟨k,A,B,D,hk,rfl,u,a⟩:=hrel;clear t f
  by_cases hlt:k<N
  ·obtain⟨C,Y,hI⟩:=HX
   obtain⟨b,off,rfl,G⟩:=Y k hlt;obtain⟨m,q,h,n,l,o,O,J,M,H,K,I,L⟩:=hI k hlt;have s:b<w.heap.size:=Ja w _ (G 0 (by decide))
   have i1:(k:Int)<(N:Int):=by omega
   have F:Hid (zY.Is w _ _):=⟨m,q,h,n,l,o,rfl,J,M,H,K,I,L⟩;have c0:wr.cell? _=some (.slice m _ q):=(a.cell (p:=⟨b,off+_,_⟩) s).trans (by have:=G 0 (by decide);rw[O] at this;exact this)
   have c1:wr.cell? _=some (.slice h _ n):=(a.cell s).trans (by have:=G 1 (by decide);rw[O] at this;exact this)
   have c2:wr.cell? _=some (.slice l _ o):=(a.cell s).trans (by have:=G 2 (by decide);rw[O] at this;exact this)
   have r:=zk a (.cells #[(m,(S k).stn,q),(h,(S k).ron,n),(l,(S k).sen,o)] 145);have y:=u.below (zk (Ji _ wr) (.cells #[(m,(S k).stn,q),(h,(S k).ron,n),(l,(S k).sen,o)] 145));clear Y hI G O J M H K I L u;go_wp2_with fail;generalize wr.alloc _=W at r y ⊢;clear c0 c1 c2;refine(zkS _ m h l q n o W (HS k hlt) (F.below r)).mono ?_;rintro e P ⟨⟨a1,d1,a2,d2,a3,d3,rfl,h1,h2,h3⟩,x⟩;have R:=hI (y.step x hlt r.size h1 h2 h3);have Q:Hid (Below _ w (((P.setCell _ (a1,(S k).stn,d1)).setCell _ (a2,(S k).ron,d2)).setCell _ (a3,(S k).sen,d3))):=(((ze r x).setCell (p:=(w.heap.size,k*3)) (Jr _) _).setCell (p:=(w.heap.size,k*3+1)) (Jr _) _).setCell (p:=(w.heap.size,k*3+2)) (Jr _) _;have d:=y.below x;obtain⟨u0,o0⟩:∃ v,P.cell? ⟨_,_+0,_⟩=some v:=⟨_,zU d.row hlt (by decide)⟩
   obtain⟨u1,o1⟩:∃ v,P.cell? ⟨_,_+1,_⟩=some v:=⟨_,zU d.row hlt (by decide)⟩
   obtain⟨u2,o2⟩:∃ v,P.cell? ⟨_,_+2,_⟩=some v:=⟨_,zU d.row hlt (by decide)⟩
   have f0:=d.row.frozenAt (k*3);have f1:=d.row.frozenAt (k*3+1);have f2:=d.row.frozenAt (k*3+2);rw[Nat.add_zero] at o0;clear y d h1 h2 h3 r x a F;go_wp2;go_roundw
   case rel=>exact⟨_,_,_,_,by omega,by go_num,R,Q⟩
   case measure=>simp[intOf];omega
  ·obtain rfl:k=N:=by omega
   have HO:=hI u.own;go_wp2;go_ret;exact⟨⟨_,A,B,D,rfl,HO⟩,a⟩
end
theorem Tryz.infoLane':(Tryz.prog.info? 223).map (λi=>(i.zero,i.size,i.bytes))=some (some (.agg #[(),()]),2,16):=by kernel_rfl
theorem cloneLane (g:Option Addr)(c:Nat)(p:zH)(w:World)(y:p.n<=1048576)(l:zG w g p)(b:g=none->p.n=0/\c=0) :
  Calls prog 207 #[(g,p.n,c)] w λe w'=>(∃ v,e=.returned v/\w'.ownsRow w.heap.size 223 2 v p.n (qd p))/\Below w.heap.size w w':=by
 have qT:∀ (w) (a) (n c s c'),(binOp _ 137 (.slice a n c) _).run _ w=_:=λw a n c s c'=>Lib.run_eql_slice_nil w _ _ a n c s c' underlying137
 cases g with
 | none =>
  obtain⟨i,rfl⟩:=b rfl;have u:=hI i;rw[i];clear i b l y;go_enter func207,ntmps207;go_wp2;go_ret;refine⟨⟨_,rfl,?_⟩,bZ⟩;have:qd p=[]:=by unfold qd;rw[u.out];rfl
  rw[this];exact World.ownsRow_nil _ _ _ _
 | some ad =>
  obtain⟨z,A,m,o,q⟩:=info_parts Tryz.infoLane';have d:Below _ w (w.alloc (.cells #[] 223)):=zk bZ _;have r:(w.alloc _).ownsRow _ 223 2 _ 0 []:=⟨rfl,.inr ⟨_,0,#[],rfl,Jr _,Jb w _,Jr _,Jq _,rfl,rfl⟩⟩;have t:=hI (zcI (l.below d));clear b l;go_enter func207,ntmps207;go_wp2_with (first|(at_builtin;refine zv _ rfl _ _ 137 rfl _ 223 z _ 2 16 underlying137 A m o q rfl (by decide) _ 0 [] (by rfl) r _ p.n c _ rfl (λh=>(by cases h)) (zaT p) t (zcH _) (by unfold maxLen;omega) (by omega) (by simp) ?_;intro v' w3 f k))
  go_ret;rw[Nat.zero_add,List.nil_append] at f;exact⟨⟨_,rfl,f⟩,d.grown k (by simp) (λj x=>(r.lt j x).1)⟩
theorem Tryz.infoCabin':(Tryz.prog.info? 231).map (λi=>(i.zero,i.size,i.bytes))=some (some (.agg #[(),()]),2,16):=by kernel_rfl
theorem znS (g:Option Addr)(c:Nat)(p:zH)(w:World)(y:p.n<=1048576)(l:zG w g p)(b:g=none->p.n=0/\c=0) :
  Calls prog 208 #[(g,p.n,c)] w λe w'=>(∃ v,e=.returned v/\w'.ownsRow w.heap.size 231 2 v p.n (qd p))/\Below w.heap.size w w':=by
 have qT:∀ (w) (a) (n c s c'),(binOp _ 138 (.slice a n c) _).run _ w=_:=λw a n c s c'=>Lib.run_eql_slice_nil w _ _ a n c s c' underlying138
 cases g with
 | none =>
  obtain⟨i,rfl⟩:=b rfl;have u:=hI i;rw[i];clear i b l y;go_enter func208,ntmps208;go_wp2;go_ret;refine⟨⟨_,rfl,?_⟩,bZ⟩;have:qd p=[]:=by unfold qd;rw[u.out];rfl
  rw[this];exact World.ownsRow_nil _ _ _ _
 | some ad =>
  obtain⟨z,A,m,o,q⟩:=info_parts Tryz.infoCabin';have d:Below _ w (w.alloc (.cells #[] 231)):=zk bZ _;have r:(w.alloc _).ownsRow _ 231 2 _ 0 []:=⟨rfl,.inr ⟨_,0,#[],rfl,Jr _,Jb w _,Jr _,Jq _,rfl,rfl⟩⟩;have t:=hI (zcI (l.below d));clear b l;go_enter func208,ntmps208;go_wp2_with (first|(at_builtin;refine zv _ rfl _ _ 138 rfl _ 231 z _ 2 16 underlying138 A m o q rfl (by decide) _ 0 [] (by rfl) r _ p.n c _ rfl (λh=>(by cases h)) (zaT p) t (zcH _) (by unfold maxLen;omega) (by omega) (by simp) ?_;intro v' w3 f k))
  go_ret;rw[Nat.zero_add,List.nil_append] at f;exact⟨⟨_,rfl,f⟩,d.grown k (by simp) (λj x=>(r.lt j x).1)⟩
section
open Go.RowKit
variable{w w':World}{g t base e k N:Nat}{v1 v2 v3:Value}{L C:Nat->Value}
theorem box_5 {u0 u1 u2 u3 u4 u5 u6 u7:Value}(h:w.heap[g]?=some (.cells #[u0,u1,u2,u3,u4,u5,u6,u7] t (0,0)))(v:Value):(w.setCell (g,5) v).heap[g]?=some (.cells #[u0,u1,u2,u3,u4,v,u6,u7] t (0,0)):=by simpa using zm h 5 v
theorem box_6 {u0 u1 u2 u3 u4 u5 u6 u7:Value}(h:w.heap[g]?=some (.cells #[u0,u1,u2,u3,u4,u5,u6,u7] t (0,0)))(v:Value):(w.setCell (g,6) v).heap[g]?=some (.cells #[u0,u1,u2,u3,u4,u5,v,u7] t (0,0)):=by simpa using zm h 6 v
theorem zdY {size n o:Nat}{v v0 v4 v5 v6 v7:Value}{b:List Value}(h:w.ownsRow base e size v n b)(a:g<base):(zjz w g o v0 v1 v2 v3 v4 v5 v6 v7).ownsRow base e size v n b:=by
 unfold zjz;exact ZW (ZW (ZW (ZW (ZW (ZW (ZW (ZW h a _) a _) a _) a _) a _) a _) a _) a _
theorem zhk (s:Zj)(la ca:Option Addr)(I H:Nat)(w:World)(h1:s.la.n<=1048576)(h2:s.ca.n<=1048576)(A:zG w la s.la)(z:zG w ca s.ca)(C:qj la s.la.n I)(B:qj ca s.ca.n H) :
  Calls prog 113 #[.agg (s,la,I,ca,H)] w λe w' =>
   (∃ q n,e=.returned (.agg #[s.id,s.fr,s.dst,s.dep,s.arr,q,n,s.most])/\w'.ownsRow w.heap.size 223 2 q s.la.n (qd s.la)/\w'.ownsRow w.heap.size 231 2 n s.ca.n (qd s.ca))/\Below w.heap.size w w':=by
 have x:Hid (_/\_):=⟨A,C⟩;have u:Hid (_/\_):=⟨z,B⟩;clear A z C B;have d:Below _ w ((w.alloc (.cells (s,la,I,ca,H) 140)).alloc (.cells #[(),False,False,(),(),True,True,()] 140)):=zk (zk bZ _) _;have m:=zoQ d;have G:=zoR d;go_enter func113,ntmps113;go_upto_region 1 with fail;generalize (w.alloc _).alloc _=X at d m G ⊢;have L:Hid (∀ w',Below _ X w'->_):=λw' h=>zb m h
 have t:Hid (∀ w',_->Calls _ 207 _ w' λe w2=>(∃ a c,_/\_)/\_):=λw' h=>(cloneLane la I _ w' h1 (x.1.below (ze d h)) x.2.2.2).mono λ_ _ ⟨⟨v,e,ho⟩,hb⟩=>by
  obtain⟨a,c,rfl,_⟩:=zp ho;exact⟨⟨a,c,e,zu ho h.size⟩,hb⟩
 have i:Hid (∀ w',_->Calls _ 208 _ w' λe w2=>(∃ a c,_/\_)/\_):=λw' h=>(znS ca H _ w' h2 (u.1.below (ze d h)) u.2.2.2).mono λ_ _ ⟨⟨v,e,ho⟩,hb⟩=>by
  obtain⟨a,c,rfl,_⟩:=zp ho;exact⟨⟨a,c,e,zu ho h.size⟩,hb⟩
 have s5:=za m 5 _ rfl;have s6:=za m 6 _ rfl;have T:=zM m;have j:=T;go_cut [1] (λp J=>p=.pointer (some (w.heap.size,0))/\∃ q n,J.heap[w.heap.size]?=some (.cells #[s.id,s.fr,s.dst,s.dep,s.arr,q,n,s.most] 140 (0,0))/\J.ownsRow X.heap.size 223 2 q s.la.n (qd s.la)/\J.ownsRow X.heap.size 231 2 n s.ca.n (qd s.ca)/\zx X J (λb=>b=w.heap.size))
 case first =>
  go_region_with (first
   | (go_at_call 207;refine Jm (t _ (by repeat(first | exact bZ | refine Jh ?_ | refine ze ?_ g | refine ze ?_ f))) ?_;rintro e w4 ⟨⟨D,c4,rfl,U⟩,g⟩;have r:=L w4 (by repeat(first | exact bZ | refine Jh ?_ | refine ze ?_ g | refine ze ?_ f));have o5:=za r 5 _ rfl;have o6:=za r 6 _ rfl;have f5:=zg r 5;have f6:=zg r 6)
   | (go_at_call 208;refine Jm (i _ (by repeat(first | exact bZ | refine Jh ?_ | refine ze ?_ g | refine ze ?_ f))) ?_;rintro e w5 ⟨⟨E,c5,rfl,V⟩,f⟩;have l:=L w5 (by repeat(first | exact bZ | refine Jh ?_ | refine ze ?_ g | refine ze ?_ f));have p5:=za l 5 _ rfl;have p6:=za l 6 _ rfl;have g5:=zg l 5;have g6:=zg l 6))
  all_goals
   go_wp2;go_meet;exact⟨rfl,_,_,box_6 (box_5 l _) _,ZW (ZW (zo (by repeat(first|exact bZ|refine Jh ?_|refine ze ?_ f)) U) j _) j _,ZW (ZW V j _) j _,
    ((zx.of_below (S:=λb=>b=w.heap.size) (by repeat(first|exact bZ|refine Jh ?_|refine ze ?_ g|refine ze ?_ f))).set rfl _).set rfl _⟩
 case rest =>
  obtain⟨rfl,q,n,M,R,P,Q⟩:=hcut;obtain⟨D,c4,rfl,_⟩:=zp R;obtain⟨E,c5,rfl,_⟩:=zp P;have k:=Q.blk G (by show _;omega)
  have O:=zx.below d d.size Q (λb e=>by have e:=e;omega)
  have W:=zM G;have Z:=hI R;have Y:=hI P;clear R P Q L t i s5 s6 m G;obtain⟨y0,y1,y2,y3,y4,y5,y6,y7⟩:=ce8 M;obtain⟨r0,r1,r2,r3,r4,r5,r6,r7⟩:=ce8 k;obtain⟨f0,f1,f2,f3,f4,f5,f6,f7⟩:=fe8 k;go_wp2;obtain⟨F,o⟩:∃ F,F=zjz wc (w.heap.size+1) 0 s.id s.fr s.dst s.dep s.arr (D,s.la.n,c4) (E,s.ca.n,c5) s.most:=⟨_,rfl⟩;have rF:F.heap[w.heap.size+1]?=some (.cells (s,D,c4,E,c5) 140 (0,0)):=by rw[o];exact zmy k
  have K:F.ownsRow w.heap.size 223 2 (D,s.la.n,c4) s.la.n (qd s.la):=by rw[o];exact zu (zdY Z W) d.size
  have i:F.ownsRow w.heap.size 231 2 (E,s.ca.n,c5) s.ca.n (qd s.ca):=by rw[o];exact zu (zdY Y W) d.size
  have N:Below w.heap.size w F:=by rw[o];exact zfa O (by omega)
  have y:F=((((((((wc.setCell _ _).setCell ⟨_,1,_⟩ _).setCell ⟨_,2,_⟩ _).setCell ⟨_,3,_⟩ _).setCell ⟨_,4,_⟩ _).setCell ⟨_,5,_⟩ _).setCell ⟨_,6,_⟩ _).setCell ⟨_,7,_⟩ _):=o;rw[← y];clear o y;obtain⟨z0,z1,z2,z3,r,l,z6,z7⟩:=ce8 rF;exact Jj (by simp[results,results113,go_sem,z0,z1,z2,z3,r,l,z6,z7]) rfl ⟨⟨_,_,rfl,K,i⟩,N⟩
structure zeP (w:World)(base g k N:Nat)(S:Nat->Zj)(L C:Nat->Value):Prop where
 row:w.rowIs g 140 (N*8) (qz (zbJ k S Zj.zero) (zbJ k L True) (zbJ k C True))
 gb:base<=g
 la:∀ i,i<k->w.ownsRow (g+1) 223 2 (L i) (S i).la.n (qd (S i).la)
 ca:∀ i,i<k->w.ownsRow (g+1) 231 2 (C i) (S i).ca.n (qd (S i).ca)
 apart:∀ i j,i<j->j<k->(∀ b,(L i).ownBlock=some b->(L j).ownBlock≠some b)/\(∀ b,(C i).ownBlock=some b->(C j).ownBlock≠some b)
theorem zeP.below {S:Nat->Zj}(h:zeP w base g k N S L C)(a:Below w.heap.size w w'):zeP w' base g k N S L C :=
 ⟨qo h.row a,h.gb,λi b=>zo a (h.la i b),λi b=>zo a (h.ca i b),h.apart⟩
theorem zeP.own {S:Nat->Zj}(h:zeP w base g N N S L C)(c:N<=maxLen):qM w base (some (g,0),N,N) N S L C:=by
 refine⟨?_,λi b=>zu (h.la i b) (Nat.le_succ_of_le h.gb),λi b=>zu (h.ca i b) (Nat.le_succ_of_le h.gb),h.apart⟩
 refine qR (Zz h.row h.gb c) (λj hj=>?_)
 have a:j / 8<N:=by omega
 unfold qz;rw[qr _ _ a,qr _ _ a,qr _ _ a]
theorem zeP.step {o:World}{S:Nat->Zj}{n m:Value}(h:zeP w base g k N S L C)(r:Below w.heap.size w o)(hk:k<N)
  (q:o.ownsRow w.heap.size 223 2 n (S k).la.n (qd (S k).la)) (p:o.ownsRow w.heap.size 231 2 m (S k).ca.n (qd (S k).ca)) :
  zeP (zjz o g (k*8) (S k).id (S k).fr (S k).dst (S k).dep (S k).arr n m (S k).most) base g (k+1) N S (atV L k n) (atV C k m):=by
 have hg:=h.row.lt;have h2:=h.below r;refine⟨?_,h.gb,λi f=>?_,λi f=>?_,λi j d hj=>?_⟩
 ·have l:=zmz (k:=k) (S':=zbJ (k+1) S Zj.zero) (ls':=zbJ (k+1) (atV L k n) True) (cs':=zbJ (k+1) (atV C k m) True) h2.row (λi f=>?_) (λi f=>?_) (λi f=>?_)
  ·rw[qr _ _ (by omega),qr _ _ (by omega),qr _ _ (by omega),qu,qu] at l
   exact l
  all_goals
   unfold zbJ
   by_cases c:i<k
   ·rw[Jf c,Jf (by omega)]
    try rw[qf _ _ _ _ f]
   ·rw[Je c,Je (by omega)]
 ·by_cases e:i=k
  ·subst e;rw[qu];exact zdY (zu q (by omega)) (by omega)
  ·rw[qf _ _ _ _ e];exact zdY (h2.la i (by omega)) (by omega)
 ·by_cases e:i=k
  ·subst e;rw[qu];exact zdY (zu p (by omega)) (by omega)
  ·rw[qf _ _ _ _ e];exact zdY (h2.ca i (by omega)) (by omega)
 ·by_cases e:j=k
  ·subst e
   rw[qu,qu,qf _ _ _ _ (by omega),qf _ _ _ _ (by omega)]
   refine⟨λb h1 h3=>?_,λb h1 h3=>?_⟩
   ·have a:=((h.la i d).lt b h1).2
    have c:=(q.lt b h3).1
    omega
   ·have a:=((h.ca i d).lt b h1).2
    have c:=(p.lt b h3).1
    omega
  ·rw[qf _ _ _ _ e,qf _ _ _ _ e,qf _ _ _ _ (by omega),qf _ _ _ _ (by omega)]
   exact h.apart i j d (by omega)
theorem zkT (O:Option Addr)(N c:Nat)(S:Nat->Zj)(w:World)(hN:N<=1048576)(X:QL N S 1048576)(Y:qB w O N S) :
  Calls prog 112 #[.slice O N c,.func (.func 113) #[] #[]] w λe w'=>(∃ g L C,e=.returned (.slice (some ⟨g,0,none⟩) N N)/\qM w' w.heap.size (.slice (some ⟨g,0,none⟩) N N) N S L C)/\Below w.heap.size w w':=by
 obtain⟨i0,H,J,K,M⟩:=info_parts Tryz.infoSailing;have HS:=hI X;have HZ:=hI Y;clear X Y;go_enter func112,ntmps112;go_wp2_with (first|(at_make;refine wpList_make_full _ rfl _ _ 34 rfl _ 140 i0 _ 8 underlying34 H J K _ _ _ _ N rfl rfl rfl rfl (by rw[M];omega) (by unfold maxLen;omega) (Jr _) ?_;intro w1 l f))
 go_loopw [6,7,13] (λ_ _ i wr=>∃ (k:Nat) (L C:_),k<=N/\i=int i64 k/\zeP wr w.heap.size w.heap.size k N S L C/\Below w.heap.size w wr) (λ_ _ i _=>N - (intOf i).toNat)
 case atStart=>exact⟨0,λ_=>.slice none 0 0,λ_=>.slice none 0 0,Jq _,rfl,⟨(ZP l).congr (λj V=>zhL N j V),Jr _,λi H=>by omega,λi H=>by omega,λi j _ V=>by omega⟩,bZ.grown f (Jr _) (by simp)⟩
 case round =>
  obtain⟨k,L,C,hk,rfl,m,a⟩:=hrel;clear l f
  by_cases hlt:k<N
  ·obtain⟨b,off,la,B,ca,A,rfl,P,h1,h2,h3,Q,R,T,U,h8,h9,v,x⟩:=HZ k hlt
   have q:=Ja w _ h1;have c0:=(a.cell (p:=⟨b,off+_,_⟩) q).trans P;have c1:=(a.cell q).trans h1;have c2:=(a.cell (p:=⟨b,_+2,_⟩) q).trans h2;have c3:=(a.cell (p:=⟨b,_+3,_⟩) q).trans h3;have c4:=(a.cell (p:=⟨b,_+4,_⟩) q).trans Q;have c5:=(a.cell (p:=⟨b,_+5,_⟩) q).trans R;have c6:=(a.cell (p:=⟨b,_+6,_⟩) q).trans T;have c7:=(a.cell (p:=⟨b,_+7,_⟩) q).trans U;obtain⟨_,_,s3,s4⟩:=HS k hlt;have u:Hid (_/\_):=⟨h8,v⟩;have t:Hid (_/\_):=⟨h9,x⟩;have h:=zk a (.cells (S k,la,B,ca,A) 140);have o:=m.below (zk (Ji _ wr) (.cells (S k,la,B,ca,A) 140));have r:=Jb wr (.cells (S k,la,B,ca,A) 140);clear P h1 h2 h3 Q R T U h8 h9 v x m;go_wp2_with fail;generalize wr.alloc _=W at h o r ⊢;clear c0 c1 c2 c3 c4 c5 c6 c7 a r;refine(zhk _ la ca B A _ s3 s4 (u.1.below h) (t.1.below h) u.2 t.2).mono ?_;rintro e w2 ⟨⟨lv,cv,rfl,I,G⟩,n⟩;have y:=o.step n hlt I G;have d:=o.below n;obtain⟨al,cl,rfl,_⟩:=zp I;obtain⟨ac,F,rfl,_⟩:=zp G;have o0:=d.row.cell (i:=k*8) (by omega)
   have f0:=d.row.frozen (k*8);have o1:=d.row.cell (i:=k*8+1) (by omega)
   have f1:=d.row.frozen (k*8+1);have o2:=d.row.cell (i:=k*8+2) (by omega)
   have f2:=d.row.frozen (k*8+2);have o3:=d.row.cell (i:=k*8+3) (by omega)
   have f3:=d.row.frozen (k*8+3);have o4:=d.row.cell (i:=k*8+4) (by omega)
   have f4:=d.row.frozen (k*8+4);have o5:=d.row.cell (i:=k*8+5) (by omega)
   have f5:=d.row.frozen (k*8+5);have o6:=d.row.cell (i:=k*8+6) (by omega)
   have f6:=d.row.frozen (k*8+6);have o7:=d.row.cell (i:=k*8+7) (by omega)
   have f7:=d.row.frozen (k*8+7);have E:=hI y;have D:Hid (Below _ w (zjz w2 _ (k*8) (S k).id (S k).fr (S k).dst (S k).dep (S k).arr (al,(S k).la.n,cl) (ac,(S k).ca.n,F) (S k).most)):=zfa (ze h n) (Jr _);clear y o d I G h n;go_wp2;go_roundw
   case rel =>
    have z:=E;have s:=D;unfold zjz at z s;exact⟨_,_,_,by omega,by go_num,z,s⟩
   case measure=>simp[intOf];omega
  ·obtain rfl:k=N:=by omega
   have Z:=hI (m.own (by unfold maxLen;omega))
   go_wp2;go_ret;exact⟨⟨_,L,C,rfl,Z⟩,a⟩
end
section
open Go.RowKit
structure COf (w u:World)(m h:Nat)(x:Off)(c b a:Option Addr)(f e d:Nat)(j k l:Option Nat):Prop where
 bel:Below w.heap.size w u
 rl:w.heap.size<=h
 src:Off.Is w [(c,x.san,f),(b,x.ldn,e),(a,x.bkn,d)] x
 sh:Off.Short x 1048576
 lg:∀ i,i<x.bkn->0<(x.bk i).lgn
 box:u.heap[m]?=some (.cells #[(c,x.san,f),(b,x.ldn,e),(a,x.bkn,d)] 38 (0,0))
 res:u.heap[h]?=some (.cells #[True,True,True] 38 (0,0))
 h1:∀ g,j=some g->∃ L C,qM u w.heap.size (some (g,0),x.san,x.san) x.san x.sa L C
 h2:∀ g,k=some g->∃ A B D,qC u w.heap.size (some (g,0),x.ldn,x.ldn) x.ldn x.ld A B D
 h3:∀ g,l=some g->∃ E,ZC u w.heap.size (some (g,0),x.bkn,x.bkn) x.bkn x.bk E
section
variable {w u : World} {xb rb : Nat} {x : Off} {asa ald abk : Option Addr} {csa cld cbk : Nat} {p1 p2 p3 : Option Nat}
theorem COf.s (h:COf w u xb rb x asa ald abk csa cld cbk p1 p2 p3):u.cell? (xb,0)=some (asa,x.san,csa)/\u.cell? (xb,1)=some (ald,x.ldn,cld)/\u.cell? (xb,2)=some (abk,x.bkn,cbk):=⟨za h.box 0 _ rfl,za h.box 1 _ rfl,za h.box 2 _ rfl⟩
theorem COf.below {b:World}(h:COf w u xb rb x asa ald abk csa cld cbk p1 p2 p3)(a:Below u.heap.size u b):COf w b xb rb x asa ald abk csa cld cbk p1 p2 p3:=⟨ze h.bel a,h.rl,h.src,h.sh,h.lg,zb h.box a,zb h.res a,λg e=>(by obtain⟨L,C,k⟩:=h.h1 g e;exact⟨L,C,k.below a⟩),λg e=>(by obtain⟨A,B,D,k⟩:=h.h2 g e;exact⟨A,B,D,k.below a⟩),λg e=>(by obtain⟨E,k⟩:=h.h3 g e;exact⟨E,k.below a⟩)⟩
theorem COf.c1 (h:COf w u xb rb x asa ald abk csa cld cbk none p2 p3):Calls prog 112 #[(asa,x.san,csa),.func (.func 113) #[] #[]] u λe c=>∃ g,e=.returned (some (g,0),x.san,x.san)/\Hid (COf w c xb rb x asa ald abk csa cld cbk (some g) p2 p3):=by
 obtain⟨_,_,_,_,_,_,a,b,_,i,_,f,_⟩:=h.src;simp only[List.cons.injEq,Value.slice.injEq,true_and,and_true] at a;obtain⟨⟨rfl,rfl⟩,⟨rfl,rfl⟩,rfl,rfl⟩:=a;refine(zkT asa _ csa _ u h.sh.1.1 h.sh.1.2 (b.below h.bel)).mono ?_;rintro e c ⟨⟨g,L,C,rfl,j⟩,d⟩;have k:=h.below d;exact⟨g,rfl,k.bel,k.rl,k.src,k.sh,k.lg,k.box,k.res,λg' e=>(by cases e;exact⟨L,C,j.base h.bel.size⟩),k.h2,k.h3⟩
theorem COf.c2 (h:COf w u xb rb x asa ald abk csa cld cbk p1 none p3):Calls prog 114 #[(ald,x.ldn,cld),.func (.func 115) #[] #[]] u λe c=>∃ g,e=.returned (some (g,0),x.ldn,x.ldn)/\Hid (COf w c xb rb x asa ald abk csa cld cbk p1 (some g) p3):=by
 obtain⟨_,_,_,_,_,_,a,j,_,b,_,f,_⟩:=h.src;simp only[List.cons.injEq,Value.slice.injEq,true_and,and_true] at a;obtain⟨⟨rfl,rfl⟩,⟨rfl,rfl⟩,rfl,rfl⟩:=a;refine(zjc ald _ cld _ u h.sh.2.1.1 h.sh.2.1.2 (b.below h.bel)).mono ?_;rintro e c ⟨⟨g,A,B,D,rfl,i⟩,d⟩;have k:=h.below d;exact⟨g,rfl,k.bel,k.rl,k.src,k.sh,k.lg,k.box,k.res,k.h1,λg' e=>(by cases e;exact⟨A,B,D,i.lower h.bel.size⟩),k.h3⟩
theorem COf.c3 (h:COf w u xb rb x asa ald abk csa cld cbk p1 p2 none):Calls prog 116 #[(abk,x.bkn,cbk),.func (.func 117) #[] #[]] u λe d=>∃ g,e=.returned (some (g,0),x.bkn,x.bkn)/\Hid (COf w d xb rb x asa ald abk csa cld cbk p1 p2 (some g)):=by
 obtain⟨_,_,_,_,_,_,a,m,_,j,_,b,_⟩:=h.src;simp only[List.cons.injEq,Value.slice.injEq,true_and,and_true] at a;obtain⟨⟨rfl,rfl⟩,⟨rfl,rfl⟩,rfl,rfl⟩:=a;refine(ziA abk _ cbk _ u h.sh.2.2.1 (λi c=>⟨h.lg i c,(h.sh.2.2.2 i c).2⟩) (b.below h.bel)).mono ?_
 rintro e d ⟨⟨g,E,rfl,l⟩,f⟩;have k:=h.below f;exact⟨g,rfl,k.bel,k.rl,k.src,k.sh,k.lg,k.box,k.res,k.h1,k.h2,λg' e=>(by cases e;exact⟨E,l.lower h.bel.size⟩)⟩
structure COe (w u:World)(g k:Nat)(x:Off)(c b a:Option Addr)(f e d h i j:Nat):Prop where
 bel:Below w.heap.size w u
 s:u.cell? (g,0)=some (c,x.san,f)/\u.cell? (g,1)=some (b,x.ldn,e)/\u.cell? (g,2)=some (a,x.bkn,d)
 res:u.heap[k]?=some (.cells #[(some (h,0),x.san,x.san),(some (i,0),x.ldn,x.ldn),(some (j,0),x.bkn,x.bkn)] 38 (0,0))
 own:∃ L C A B D E,zF u w.heap.size (some (h,0),x.san,x.san) (some (i,0),x.ldn,x.ldn) (some (j,0),x.bkn,x.bkn) x.san x.ldn x.bkn x L C A B D E
theorem COf.fin {c d e:Nat}(h:COf w u xb rb x asa ald abk csa cld cbk (some c) (some d) (some e))(g:xb≠rb):COe w (((u.setCell (rb,0) (some (c,0),x.san,x.san)).setCell (rb,1) (some (d,0),x.ldn,x.ldn)).setCell (rb,2) (some (e,0),x.bkn,x.bkn)) xb rb x asa ald abk csa cld cbk c d e:=by
 have i:zx u (((u.setCell _ (some (c,0),x.san,x.san)).setCell _ (some (d,0),x.ldn,x.ldn)).setCell _ (some (e,0),x.bkn,x.bkn)) _:=(((zx.refl u (λb=>b=rb)).set (a:=(rb,0)) rfl _).set (a:=(rb,1)) rfl _).set (a:=(rb,2)) rfl _
 have f:=i.blk h.box g;obtain⟨L,C,j⟩:=h.h1 _ rfl;obtain⟨A,B,D,k⟩:=h.h2 _ rfl;obtain⟨E,l⟩:=h.h3 _ rfl;exact⟨((h.bel.setCell h.rl _).setCell h.rl _).setCell h.rl _,⟨za f 0 _ rfl,za f 1 _ rfl,za f 2 _ rfl⟩,by simpa using zm (zm (zm h.res 0 _) 1 _) 2 _,L,C,A,B,D,E,zF.box ⟨j,k,l⟩ i h.res (by decide)⟩
end
theorem zeh (x:Off)(f d c:Option Addr)(k j g:Nat)(w:World)(F:Off.Short x 1048576)(y:∀ i,i<x.bkn->0<(x.bk i).lgn)(h:Off.Is w [.slice f x.san k,.slice d x.ldn j,.slice c x.bkn g] x) :
  Calls prog 54 #[.agg #[.slice f x.san k,.slice d x.ldn j,.slice c x.bkn g]] w λe w'=>(∃ n o p L C A B D E,e=.returned (.agg #[.slice (some ⟨n,0,none⟩) x.san x.san,.slice (some ⟨o,0,none⟩) x.ldn x.ldn,.slice (some ⟨p,0,none⟩) x.bkn x.bkn])/\zF w' w.heap.size (.slice (some ⟨n,0,none⟩) x.san x.san) (.slice (some ⟨o,0,none⟩) x.ldn x.ldn) (.slice (some ⟨p,0,none⟩) x.bkn x.bkn) x.san x.ldn x.bkn x L C A B D E)/\Below w.heap.size w w':=by
 have a:Hid (COf w _ _ (w.heap.size+1) x f d c k j g none none none) :=
  ⟨(zk (zk bZ _) _).drew,by omega,h,F,y,zK (zd (Jb w _) _),zK (by simpa using Jb (w.alloc _) _),λ_ e=>(by cases e),λ_ e=>(by cases e),λ_ e=>(by cases e)⟩
 have q:w.heap.size≠w.heap.size+1:=by omega
 go_enter func54,ntmps54;go_upto_region 1 with fail;refine qg 11 11 (λu=>u.cell? _=_/\u.cell? _=_/\u.cell? _=_) rfl (by kernel_rfl) a.out.s (λl=>?_)
 simp only[List.replicate_succ,List.replicate_zero];generalize ((w.alloc _).alloc _).drew=u0 at a l ⊢
 (refine tkN 0 (v:=?_) rfl (by kernel_rfl) (λ_ _ _ h=>h) rfl (by assumption) ?_ ?_;rotate_left;(focus(intro w' h;(try dsimp only at h);go_simp;try with_reducible rfl));simp only[Act.put,sB,sZ,sS])
 (refine tkN 1 (v:=?_) rfl (by kernel_rfl) (λ_ _ _ h=>h) rfl (by assumption) ?_ ?_;rotate_left;(focus(intro w' h;(try dsimp only at h);go_simp;try with_reducible rfl));simp only[Act.put,sB,sZ,sS])
 (refine tkN 3 (v:=?_) rfl (by kernel_rfl) (λ_ _ _ h=>h) rfl (by assumption) ?_ ?_;rotate_left;(focus(intro w' h;(try dsimp only at h);go_simp;try with_reducible rfl));simp only[Act.put,sB,sZ,sS])
 (refine tkN 4 (v:=?_) rfl (by kernel_rfl) (λ_ _ _ h=>h) rfl (by assumption) ?_ ?_;rotate_left;(focus(intro w' h;(try dsimp only at h);go_simp;try with_reducible rfl));simp only[Act.put,sB,sZ,sS])
 (refine tkN 6 (v:=?_) rfl (by kernel_rfl) (λ_ _ _ h=>h) rfl (by assumption) ?_ ?_;rotate_left;(focus(intro w' h;(try dsimp only at h);go_simp;try with_reducible rfl));simp only[Act.put,sB,sZ,sS])
 (refine tkN 7 (v:=?_) rfl (by kernel_rfl) (λ_ _ _ h=>h) rfl (by assumption) ?_ ?_;rotate_left;(focus(intro w' h;(try dsimp only at h);go_simp;try with_reducible rfl));simp only[Act.put,sB,sZ,sS])
 refine zj (rs:=[2]) (by kernel_rfl) (by simp) ?_
 refine zc.consL rfl (λK b=>?_) zc.nil
 focus
  go_simp;go_at_call 112;refine Jm (a.out.c1) ?_;rintro e u1 ⟨n,rfl,a⟩;dsimp only;refine b.out _ _ a.out.s (λl=>?_)
  clear b K;simp only[sZ,sS];refine zj (rs:=[5]) (by kernel_rfl) (by simp) ?_
  refine zc.consL rfl (λK b=>?_) zc.nil
  focus
   go_simp;go_at_call 114;refine Jm (a.out.c2) ?_;rintro e u2 ⟨o,rfl,a⟩;dsimp only;refine b.out _ _ a.out.s (λl=>?_)
   clear b K;simp only[sZ,sS];refine zj (rs:=[8]) (by kernel_rfl) (by simp) ?_
   refine zc.consL rfl (λK b=>?_) zc.nil
   focus
    go_simp;go_at_call 116;refine Jm (a.out.c3) ?_;rintro e u3 ⟨p,rfl,a⟩;dsimp only;refine b.out _ _ a.out.s (λl=>?_)
    clear b K;simp only[sZ,sS]
 all_goals
  (refine tkN 9 (v:=?_) rfl (by kernel_rfl) (λ_ _ _ h=>h) rfl (by assumption) ?_ ?_;rotate_left;(focus(intro w' h;(try dsimp only at h);go_simp;try with_reducible rfl));simp only[Act.put,sB,sZ,sS])
  obtain⟨G,H,I⟩:=ce3 a.out.res;obtain⟨r,s,t⟩:=fe3 a.out.res;refine zj (rs:=[10]) (by kernel_rfl) (by simp) ?_
  refine zc.consL rfl (λK b=>?_) zc.nil
  go_simp;have m:=hI (a.out.fin q);refine b.out _ _ m.out.s (λl=>?_)
  clear b K G H I r s t;simp only[sZ,sS];refine zX (by kernel_rfl) ?_ _
  go_wp2;obtain⟨J,M,N⟩:=ce3 m.out.res;obtain⟨L,C,A,B,D,E,z⟩:=m.out.own;exact Jj (by simp[results,results54,go_sem,J,M,N]) rfl ⟨⟨n,o,p,L,C,A,B,D,E,rfl,z⟩,m.out.bel⟩
end
theorem zkU (k:Nat)(w:World)(hk:k<=4194304) :
  Calls prog 252 #[.slice none 0 0,int i64 k] w λe w'=>(∃ v,e=.returned v/\w'.ownsRow w.heap.size 268 10 v 0 [])/\Below w.heap.size w w':=by
 have d0:decide ((k:Int)<0)=false:=by simp
 by_cases h0:0<k
 ·obtain⟨f,g,b,h,c⟩:=info_parts Tryz.infoWorkI
  have a:=Lib.run_append_nil_zeros w 175 3 175 268 f _ .i64 _ underlying175 underlying3 g b k h0 (by omega) (by omega) (by rw[c];omega)
  have d1:decide (0<k)=true:=by simpa using h0
  go_enter func252,ntmps252;go_wp2_with (first|(at_builtin;refine Lib.wpList_append_run _ rfl _ _ _ _ rfl _ _ rfl rfl _ _ a ?_))
  go_ret;have d:=grownCap_ge w k 0 268;refine⟨⟨_,rfl,rfl,.inr ⟨_,_,_,rfl,Jr _,Jb w _,Jq _,grownCap_le_maxLen w k 0 _ (by unfold maxLen;omega),?_,rfl⟩⟩,(zk (Ji _ w) _).drew⟩
  rw[Array.size_append,size_zeroCells,size_zeroCells]
  show k*10+_*10=_
  omega
 ·obtain rfl:k=0:=by omega
  go_enter func252,ntmps252;go_wp2;go_ret;exact⟨⟨_,rfl,rfl,.inl ⟨rfl,rfl⟩⟩,bZ⟩
def zhl (n j r:Nat):Nat:=if r=0 then 0 else if r=1 then n else n+j
def cumL (a b:List Value)(r:Nat):List Value:=if r=0 then [] else if r=1 then a else a++b
theorem znT (R:Nat)(p q:Option Addr)(n j t D:Nat)(b c:List Value)(w:World)(hn:n<=1048576)(E:j<=1048576)(X:b.length=n*10)(Y:c.length=j*10)(Z:∀ u ∈ b,u.oneCell'=true)(oy:∀ u ∈ c,u.oneCell'=true)
  (m:w.heap[R]?=some (.cells #[.slice p n t,.slice q j D] 175 (0,0))) (N:zcb w p b) (O:zcb w q c) (I:p=none->n=0/\t=0) (J:q=none->j=0/\D=0) :
  Calls prog 201 #[.slice (some ⟨R,0,none⟩) 2 2] w λe w'=>(∃ v,e=.returned v/\w'.ownsRow w.heap.size 268 10 v (n+j) (b++c))/\Below w.heap.size w w':=by
 obtain⟨P,Q,A,B,C⟩:=info_parts Tryz.infoWorkI;have V:=hI N;have W:=hI O;have S:w.cell? _=some (.slice p n t):=za m 0 _ rfl;have T:w.cell? _=some (.slice q j D):=za m 1 _ rfl;have c0:zhl n j 0=0:=rfl;have c1:zhl n j 1=n:=rfl;have c2:zhl n j 2=n+j:=rfl;have d0:cumL b c 0=[]:=rfl;have L:cumL b c 1=b:=rfl;have M:cumL b c 2=b++c:=rfl;clear N O;go_enter func201,ntmps201;go_wp2;go_loopg [3,5,11] 2 (λg s _ i wr=>∃ r,r<=2/\g=2 - r/\i=int i64 r/\s=int i64 (zhl n j r)/\wr=w)
 case atStart=>exact⟨0,by omega,rfl,rfl,rfl,rfl⟩
 case round =>
  obtain⟨r,hr,rfl,rfl,rfl,y⟩:=hrel;have z:=y.symm;subst z;clear y;have k:r=0∨r=1∨r=2:=by omega
  rcases k with rfl|rfl|rfl
  ·go_wp2
   go_roundg 1
   case measure=>omega
   case rel=>exact⟨1,by omega,rfl,by go_num,by rw[c1],rfl⟩
  ·have hd:decide ((n:Int)+(j:Int)<0)=false:=by simp;omega
   go_wp2;go_roundg 0
   case measure=>omega
   case rel=>exact⟨2,by omega,rfl,by go_num,by rw[c2];go_num,rfl⟩
  ·go_wp2_with fail
   refine(zkU _ _ (by omega)).mono ?_
   rintro e w1 ⟨⟨v,rfl,K⟩,H⟩;clear S T;go_wp2;go_loopg [6,8,27] 2 (λg u _ i wr=>∃ r,r<=2/\g=2 - r/\i=int i64 r/\wr.ownsRow w.heap.size 268 10 u (zhl n j r) (cumL b c r)/\Below w.heap.size w wr)
   case atStart=>exact⟨0,by omega,rfl,rfl,K,H⟩
   case round =>
    obtain⟨r,hr,rfl,rfl,o,a⟩:=hrel;obtain⟨U,G⟩:∃ x,x=wr:=⟨_,rfl⟩;subst G;have f:=a.size;have h:=zb m a;have S:U.cell? _=some (.slice p n t):=za h 0 _ rfl;have T:U.cell? _=some (.slice q j D):=za h 1 _ rfl;have k:r=0∨r=1∨r=2:=by omega
    rcases k with rfl|rfl|rfl
    ·have F:=hI (V.out.below a)
     go_wp2_with (first|(at_builtin;refine zv _ rfl _ _ 175 rfl _ 268 P _ 10 80 underlying175 Q A B C rfl (by decide) _ 0 [] (by rfl) o p n t b rfl I X F.out Z (by unfold maxLen;omega) (by omega) f ?_;intro v' w3 d l))
     go_roundg 1
     case measure=>omega
     case rel=>exact⟨1,by omega,rfl,by go_num,by
      rw[c1,L];rw[Nat.zero_add,List.nil_append] at d;exact d,a.grown l f (λj E=>(o.lt j E).1)⟩
    ·have F:=hI (W.out.below a)
     rw[c1,L] at o;go_wp2_with (first|(at_builtin;refine zv _ rfl _ _ 175 rfl _ 268 P _ 10 80 underlying175 Q A B C rfl (by decide) _ n b (by rfl) o q j D c rfl J Y F.out oy (by unfold maxLen;omega) (by omega) f ?_;intro v' w3 d l))
     go_roundg 0
     case measure=>omega
     case rel=>exact⟨2,by omega,rfl,by go_num,by
      rw[c2,M];exact d,a.grown l f (λj E=>(o.lt j E).1)⟩
    ·rw[c2,M] at o
     go_wp2;go_ret;exact⟨⟨_,rfl,o⟩,a⟩
theorem zdz {w:World}{base e sz n c:Nat}{f:Option Addr}{a:List Value}(h:w.ownsRow base e sz (f,n,c) n a):zcb w f a:=by
 intro ad k j u d;subst k;have i:j<a.length:=by
  rcases Nat.lt_or_ge j a.length with h1|h1
  ·exact h1
  ·rw[List.getElem?_eq_none h1] at d;cases d
 have l:0<n:=by
  rcases Nat.eq_zero_or_pos n with b|b
  ·rw[h.1,b,Nat.zero_mul] at i;omega
  ·exact b
 obtain⟨g,e,_,_⟩:=qh h l
 cases e
 rw[Addr.add_lit,Nat.zero_add,h.cellAt j (by rw[← h.1];exact i),d]
def goL (x:Off)(y:OpD)(m:Nat):List Wk:=if Qt y.kind then Zh true (x.bk m).who ⟨(x.bk m).pe,(x.bk m).len,(x.bk m).hei,(x.bk m).cl,(x.bk m).all,(x.bk m).be⟩ (x.bk m).lg (x.bk m).lgn else []
theorem goL_len (x:Off)(y:OpD)(m:Nat)(h:Qt y.kind->(x.bk m).lgn<=3):(goL x y m).length<=9:=by
 unfold goL
 split
 ·rename_i c
  have:=QD true (x.bk m).who ⟨(x.bk m).pe,(x.bk m).len,(x.bk m).hei,(x.bk m).cl,(x.bk m).all,(x.bk m).be⟩ (x.bk m).lg (x.bk m).lgn;have:=h c
  omega
 ·exact Jq _
theorem zjd (x:Off)(P:Option Addr)(a7:Nat)(c:Int)(y:OpD)(o:Option Addr)(u k m:Nat)(w:World)(hF:Zm w)(hk:y.kind=(k:Int))(Z:k<10)(R:qO w P x.bkn x.bk)
  (I:Qt y.kind->y.name=(m:Int)+1/\m<x.bkn/\(x.bk m).lgn<=3/\FitP ⟨(x.bk m).pe,(x.bk m).len,(x.bk m).hei,(x.bk m).cl,(x.bk m).all,(x.bk m).be⟩) (Y:zJ y.kind->y.lgn<=3/\FitP ⟨y.pe,y.len,y.hei,y.cl,y.all,y.be⟩) (hl:zT w o y.lgn y.lg) (b0:x.bkn<=1048576) :
  Calls prog 109 #[(P,x.bkn,a7),c,.agg (y,o,u)] w λe w'=>(∃ v,e=.returned v/\w'.ownsRow w.heap.size 268 10 v (qk x c y m).length (zgF (qk x c y m)))/\Below w.heap.size w w':=by
 have HF:=hI hF;have HK:=hI hk;have HB:=hI R;have A:Hid (zdy k=true->_/\_):=λh=>by
  have h2:=by simpa [zdy] using h
  have h3:Qt y.kind:=by unfold Qt;omega
  exact⟨h3,I h3⟩
 have B:Hid (zdy k=false->¬ Qt y.kind):=λh h3=>by
  have h2:¬ (k=5∨k=6∨k=8):=by simpa [zdy] using h
  unfold Qt at h3
  omega
 have E:Hid (QZ k=true->_/\_):=λh=>by
  have h2:=by simpa [QZ] using h
  have h3:zJ y.kind:=by unfold zJ;omega
  exact⟨h3,Y h3⟩
 have C:Hid (QZ k=false->¬ zJ y.kind):=λh h3=>by
  have h2:¬ (k=1∨k=2∨k=3∨k=5):=by simpa [QZ] using h
  unfold zJ at h3
  omega
 have O:=hI (goL_len x y m (λh=>(I h).2.2.1))
 have HI:=hI hl;clear hF hk R I Y hl;have b1:(0:Int)<=(k:Int):=by omega
 have b2:(k:Int)<10:=by omega
 have a:Below _ w (w.alloc (.cells (y,o,u) 47)):=zk bZ _;have L:=zoP a;go_enter func109,ntmps109;go_upto_region 2 with fail;generalize w.alloc _=V at a L ⊢;have y0:V.cell? (w.heap.size,0)=some (k:Int):=by rw[← HK.out];exact za L 0 _ rfl
 have t6:=((HF.below a) k Z).2.2.2.2.2.2;go_upto_if 13 with fail;clear y0 t6;go_cut [7] (λs7 wx=>wx.ownsRow w.heap.size 268 10 s7 (goL x y m).length (zgF (goL x y m))/\wx.heap[w.heap.size]?=some (.cells (y,o,u) 47 (0,0))/\Below w.heap.size w wx)
 case first =>
  obtain⟨fb,T⟩:∃ fb,fb=zdy k:=⟨_,rfl⟩;rw[← T] at A B ⊢;clear T
  cases fb with
  | false =>
   have HG:Hid (goL x y m=[]):=Je (B rfl);go_wp2;go_meet;exact⟨by rw[HG.out];exact World.ownsRow_nil _ _ _ _,L,a⟩
  | true =>
   obtain⟨h1,h2,h3,h4,h5⟩:=A rfl;have HG:Hid (goL x y m=_):=Jf h1;obtain⟨D,hD,hJ⟩:=HB;obtain⟨bb,bo,rfl,j⟩:=hD m h3;obtain⟨b,H⟩:∃ b,b=x.bk m:=⟨_,rfl⟩;obtain⟨r,q,i,J,a2⟩:=hJ m h3;rw[← H] at i J a2 HG h4 h5;have a9:=hI H;have a3:=hI J;have z:=hI h5;have d:bb<w.heap.size:=Ja w _ (j 0 (by decide))
   have y2:V.cell? (w.heap.size,2)=some (int i64 ((m:Int)+1)):=by rw[← h2];exact za L 2 _ rfl
   clear h2;have b5:IntKind.i64.wrap ((m:Int)+1 - 1)=(m:Int):=by rw[Jk];omega
   have i0:(0:Int)<=(m:Int):=by omega
   have i1:(m:Int)<(x.bkn:Int):=by omega
   have c0:V.cell? _=some (.int _ _):=(a.cell (p:=⟨bb,bo+_,_⟩) d).trans (by have:=j 0 (by decide);rw[i] at this;exact this)
   have c1:V.cell? _=some (.int _ _):=(a.cell d).trans (by have:=j 1 (by decide);rw[i] at this;exact this)
   have c2:V.cell? _=some (.string _):=(a.cell d).trans (by have:=j 2 (by decide);rw[i] at this;exact this)
   have c3:V.cell? _=some (.slice r _ q):=(a.cell d).trans (by have:=j 3 (by decide);rw[i] at this;exact this)
   have c4:V.cell? _=some (.int _ _):=(a.cell d).trans (by have:=j 4 (by decide);rw[i] at this;exact this)
   have c5:V.cell? _=some (.int _ _):=(a.cell d).trans (by have:=j 5 (by decide);rw[i] at this;exact this)
   have c6:V.cell? _=some (.int _ _):=(a.cell d).trans (by have:=j 6 (by decide);rw[i] at this;exact this)
   have c7:V.cell? _=some (.int _ _):=(a.cell d).trans (by have:=j 7 (by decide);rw[i] at this;exact this)
   have c8:V.cell? _=some (.bool _):=(a.cell d).trans (by have:=j 8 (by decide);rw[i] at this;exact this)
   have c9:V.cell? _=some (.int _ _):=(a.cell d).trans (by have:=j 9 (by decide);rw[i] at this;exact this)
   have a4:V.cell? _=some (.int _ _):=(a.cell d).trans (by have:=j 10 (by decide);rw[i] at this;exact this)
   have a5:V.cell? _=some (.int _ _):=(a.cell d).trans (by have:=j 11 (by decide);rw[i] at this;exact this)
   have a6:V.cell? _=some (.int _ _):=(a.cell d).trans (by have:=j 12 (by decide);rw[i] at this;exact this)
   clear hD hJ j i H J a2 h5;have t:=Jb V (.cells (b,r,q) 150);have g:=zk a (.cells (b,r,q) 150);have f:=zd L (.cells (b,r,q) 150);go_upto_region 4 with fail;generalize V.alloc _=V1 at t g f ⊢;generalize V.heap.size=bx at t ⊢;clear c0 c1 c2 c3 c4 c5 c6 c7 c8 c9 a4 a5 a6 y2;have e1:=za t 1 _ rfl;have e3:=za t 3 _ rfl;have e4:=za t 4 _ rfl;have e5:=za t 5 _ rfl;have e6:=za t 6 _ rfl;have e7:=za t 7 _ rfl;have e8:=za t 8 _ rfl;have e9:=za t 9 _ rfl;go_wp2_with fail;clear e1 e3 e4 e5 e6 e7 e8 e9;refine(zgG r _ q _ _ _ _ _ h4 z (a3.below g)).mono ?_;rintro e W ⟨⟨v,rfl,M⟩,n⟩;go_wp2;go_meet;rw[HG.out];exact⟨zu M g.size,zb f n,ze g n⟩
 case rest =>
 obtain⟨s,f,g⟩:=hcut;clear L a A B HB;obtain⟨K,F⟩:∃ K,K=goL x y m:=⟨_,rfl⟩;have N:Hid (qk x c y m=K++(if zJ y.kind then Zh false c ⟨y.pe,y.len,y.hei,y.cl,y.all,y.be⟩ y.lg y.lgn else [])):=by show _=_;rw[F];rfl
 rw[← F] at s O;clear F;have y0:wc.cell? (w.heap.size,0)=some (k:Int):=by rw[← HK.out];exact za f 0 _ rfl
 have t3:=((HF.below g) k Z).2.2.2.1;obtain⟨ra,rc,rfl,s1,_,s3⟩:=zp s;go_upto_if 32 with fail;clear y0 t3;obtain⟨fp,X⟩:∃ fp,fp=QZ k:=⟨_,rfl⟩;rw[← X] at E C ⊢;clear X
 cases fp with
 | false =>
  have HN:Hid (qk x c y m=K):=by show _=_;rw[N.out,Je (C.out rfl),List.append_nil]
  go_wp2;go_ret;exact⟨⟨_,rfl,by rw[HN.out];exact s⟩,g⟩
 | true =>
  obtain⟨h1,h2,h3⟩:=E rfl;have z:=hI h3;have HN:Hid (qk x c y m=K++Zh false c ⟨y.pe,y.len,y.hei,y.cl,y.all,y.be⟩ y.lg y.lgn):=by show _=_;rw[N.out,Jf h1]
  clear h1 h3 E C;have e3:=za f 3 _ rfl;have e4:=za f 4 _ rfl;have e5:=za f 5 _ rfl;have e6:=za f 6 _ rfl;have e7:=za f 7 _ rfl;have e8:=za f 8 _ rfl;have e9:=za f 9 _ rfl;go_wp2_with fail;clear e3 e4 e5 e6 e7 e8 e9;refine(zgG o _ u _ c _ _ _ h2 z (HI.below g)).mono ?_;rintro e W ⟨⟨v,rfl,M⟩,n⟩;obtain⟨L2,G⟩:∃ L2,L2=Zh false c ⟨y.pe,y.len,y.hei,y.cl,y.all,y.be⟩ y.lg y.lgn:=⟨_,rfl⟩;have b4:L2.length<=9:=by rw[G];have:=QD false c ⟨y.pe,y.len,y.hei,y.cl,y.all,y.be⟩ y.lg y.lgn;omega
  rw[← G] at M HN;clear G;obtain⟨qa,qc,rfl,q1,_,q3⟩:=zp M;have b3:=O.out;have a0:=zo n s;have Q:=ze g n;have l:Below _ W (W.alloc (.cells #[.slice ra K.length rc,.slice qa L2.length qc] 175)):=zk bZ _;have bS:=zoP l;go_wp2_with fail;refine(znT _ ra qa _ _ rc qc _ _ _ (by omega) (by omega) (zmE _) (zmE _) (zmF _) (zmF _) bS ((zdz a0).below l) ((zdz M).below l) s3 q3).mono ?_
  rintro e U ⟨⟨v,rfl,a1⟩,S⟩;have a8:=ze (ze Q l) S;have HU:Hid (U.ownsRow w.heap.size 268 10 v (qk x c y m).length (zgF (qk x c y m))):=by show U.ownsRow _ _ _ _ _ _;rw[HN.out,wkRI_app,List.length_append];exact zu a1 (ze Q l).size
  clear M s a0 a1 bS l S n;go_wp2;go_ret;exact⟨⟨_,rfl,HU⟩,a8⟩
end Go.Proofs.YtmdnjgihooflfaaGreatDoor
