/-
  OWN TEXT: VOffice, VOp, PDop.
-/
import Derived.Test.YtmdnjgihooflfaaGreatDoorCards
import Derived.Test.YtmdnjgihooflfaaGreatDoorTie
import Derived.OpenVars
import Derived.SevenTiedAt
import Derived.Test.YtmdnjgihooflfaaGreatDoorB41
namespace Go.Proofs.YtmdnjgihooflfaaGreatDoor
open Go.RowKit
open Go.Value (int)
open Go.IntKind (i64)
open Tryz
set_option maxHeartbeats 64000000
set_option maxRecDepth 100000
section
variable{H:Type}{base fuel:Nat}{b:Bool}{cs:List Value}{W:World}
open Go.ChangeShapes Go.WideShapes Go.ChangeAt Go.RowKit Go.Deep Go.Joins
theorem Tryz.cellsOffice:Tryz.prog.cellsOf 26=3:=by kernel_rfl
theorem Tryz.cellsBookSOffice:Tryz.prog.cellsOf 24=1:=by kernel_rfl
theorem Tryz.cellsLoadSOffice:Tryz.prog.cellsOf 23=1:=by kernel_rfl
theorem Tryz.cellsSailSOffice:Tryz.prog.cellsOf 22=1:=by kernel_rfl
theorem zol {c:TypeId × Value->H}{P:Program}{w:World}{a:Nat->Bool}{t:TypeId}{d e f:Field}{x:DataW H × List MemPlace}(k:P.underlying t=some (.struct #[d,e,f]))(h:DataW.trod c P w base a b fuel t cs=some x) :
  ∃ y0 y1 y2 n,x.1=.agg [y0.1,y1.1,y2.1]/\cs.length=P.cellsOf t/\DataW.trod c P w base a b n d.type ((cs.drop d.offset).take (P.cellsOf d.type))=some y0/\DataW.trod c P w base a b n e.type ((cs.drop e.offset).take (P.cellsOf e.type))=some y1/\DataW.trod c P w base a b n f.type ((cs.drop f.offset).take (P.cellsOf f.type))=some y2:=by
 obtain⟨l,n,_,rfl,j,g,i⟩:=DataW.trod_struct k h
 match l,g with
 | [y0,y1,y2],_=>exact⟨y0,y1,y2,n,by simp,j,by simpa using i 0 d rfl,by simpa using i 1 e rfl,by simpa using i 2 f rfl⟩
theorem zoE {α:Type}{cs:List α}(h:cs.length=3):∃ c0 c1 c2,cs=[c0,c1,c2]:=by
 match cs,h with
 | [c0,c1,c2],_=>exact⟨c0,c1,c2,rfl⟩
/-- The cells of an office that came in. -/
theorem zoF {k:TypeId × Value->H}{x:DataW H × List MemPlace}
  (h:DataW.trod k prog W base (λ_=>true) b fuel 26 cs=some x) (c:∀ y ∈ DataW.weights prog 26 x.1,y<=reachBytes) :
  ∃ s:Off,Off.Is W cs s/\Off.Short s 1000000000000000:=by
 obtain⟨y0,y1,y2,n,a,G,F,h1,h2⟩:=zol underlying26 h;rw[a] at c;rw[Tryz.cellsOffice] at G;obtain⟨c0,c1,c2,rfl⟩:=zoE G;simp only[Tryz.cellsBookSOffice,Tryz.cellsLoadSOffice,Tryz.cellsSailSOffice,List.drop,List.take] at F h1 h2;obtain⟨f,v,j,r,I,o,D,E,A⟩:=zoK F (λx a=>c x (by simp[DataW.weights,DataW.weightsEach,underlying26,a]))
 obtain⟨e,u,i,q,J,m,C,zld,z⟩:=zoO h1 (λx a=>c x (by simp[DataW.weights,DataW.weightsEach,underlying26,a]))
 obtain⟨d,t,g,p,K,l,B,zbk,w⟩:=zow h2 (λx a=>c x (by simp[DataW.weights,DataW.weightsEach,underlying26,a]))
 subst I J K;exact⟨⟨v,r,u,q,t,p⟩,⟨f,j,e,i,d,g,rfl,o,D,m,C,l,B⟩,⟨⟨(show _ from A),E⟩,⟨(show _ from z),zld⟩,⟨(show _ from w),zbk⟩⟩⟩
/-- By value. -/
theorem zoG {a:TypeId × Value->H}{v:Value}{d:DataW H}{p:List MemPlace}(c:Value.okWide prog W .any base 26 v)
  (h:DataW.Trod a prog W 0 (λ_=>true) true 26 v d p) (e:∀ x ∈ DataW.weights prog 26 d,x<=reachBytes) :
  ∃ (cs:List Value) (s:Off),v=.agg cs.toArray/\Off.Is W cs s/\Off.Short s 1000000000000000:=by
 obtain⟨cs,rfl,_⟩:=okWide_struct underlying26 c;obtain⟨fuel,b⟩:=h;obtain⟨s,h1,h2⟩:=zoF b e;exact⟨cs.toList,s,by simp,by simpa [Value.cells] using h1,h2⟩
end
section
variable{H:Type}{base fuel:Nat}{b:Bool}{cs:List Value}{W:World}
open Go.ChangeShapes Go.WideShapes Go.ChangeAt Go.RowKit Go.Deep Go.Joins
theorem Tryz.cellsOp:Tryz.prog.cellsOf 31=12:=by kernel_rfl
theorem Tryz.cellsIntSOp:Tryz.prog.cellsOf 27=1:=by kernel_rfl
theorem Tryz.cellsStrOp:Tryz.prog.cellsOf 9=1:=by kernel_rfl
theorem zos {c:TypeId × Value->H}{P:Program}{w:World}{a:Nat->Bool}{t:TypeId}{e f g f3 i j k:Field}{x:DataW H × List MemPlace}(o:P.underlying t=some (.struct #[e,f,g,f3,i,j,k]))(h:DataW.trod c P w base a b fuel t cs=some x) :
  ∃ y0 y1 y2 y3 y4 y5 y6 n,x.1=.agg [y0.1,y1.1,y2.1,y3.1,y4.1,y5.1,y6.1]/\cs.length=P.cellsOf t/\DataW.trod c P w base a b n e.type ((cs.drop e.offset).take (P.cellsOf e.type))=some y0/\DataW.trod c P w base a b n f.type ((cs.drop f.offset).take (P.cellsOf f.type))=some y1/\DataW.trod c P w base a b n g.type ((cs.drop g.offset).take (P.cellsOf g.type))=some y2/\DataW.trod c P w base a b n f3.type ((cs.drop f3.offset).take (P.cellsOf f3.type))=some y3/\DataW.trod c P w base a b n i.type ((cs.drop i.offset).take (P.cellsOf i.type))=some y4/\DataW.trod c P w base a b n j.type ((cs.drop j.offset).take (P.cellsOf j.type))=some y5/\DataW.trod c P w base a b n k.type ((cs.drop k.offset).take (P.cellsOf k.type))=some y6:=by
 obtain⟨p,n,_,rfl,m,l,d⟩:=DataW.trod_struct o h
 match p,l with
 | [y0,y1,y2,y3,y4,y5,y6],_=>exact⟨y0,y1,y2,y3,y4,y5,y6,n,by simp,m,by simpa using d 0 e rfl,by simpa using d 1 f rfl,by simpa using d 2 g rfl,by simpa using d 3 f3 rfl,by simpa using d 4 i rfl,by simpa using d 5 j rfl,by simpa using d 6 k rfl⟩
theorem list_op {α:Type}{cs:List α}(h:cs.length=12):∃ c0 c1 c2 c3 c4 c5 c6 c7 c8 c9 c10 c11,cs=[c0,c1,c2,c3,c4,c5,c6,c7,c8,c9,c10,c11]:=by
 match cs,h with
 | [c0,c1,c2,c3,c4,c5,c6,c7,c8,c9,c10,c11],_=>exact⟨c0,c1,c2,c3,c4,c5,c6,c7,c8,c9,c10,c11,rfl⟩
/-- The cells of an operation that came in. -/
theorem view_op {i:TypeId × Value->H}{c:Bool}{x:DataW H × List MemPlace}
  (h:DataW.trod i prog W base (λ_=>true) c fuel 31 cs=some x) (k:∀ y ∈ DataW.weights prog 31 x.1,y<=reachBytes) :
  ∃ s:OpD,OpD.Is W cs s/\OpD.Short s 1000000000000000:=by
 obtain⟨y0,y1,y2,y3,y4,y5,y6,n,l,J,E,h1,h2,h3,F,G,I⟩:=zos underlying31 h;rw[l] at k;rw[Tryz.cellsOp] at J;obtain⟨c0,c1,c2,c3,c4,c5,c6,c7,c8,c9,P,Q,rfl⟩:=list_op J;simp only[Tryz.cellsInt,Tryz.cellsStrOp,Tryz.cellsIntSOp,Tryz.cellsParty,List.drop,List.take] at E h1 h2 h3 F G I;obtain⟨v0,t,_,_⟩:=DataW.trod_int underlying3 E;obtain⟨v1,u,V,_⟩:=DataW.trod_string underlying9 h1;have U:=k v1.size (by rw[V];simp[DataW.weights,DataW.weightsEach,underlying31])
 unfold reachBytes at U;obtain⟨v2,v,_,_⟩:=DataW.trod_int underlying3 h2;obtain⟨f,d,g,o,R,j,p,e⟩:=zov h3 (λx l=>k x (by simp[DataW.weights,DataW.weightsEach,underlying31,l]))
 obtain⟨p0,p1,p2,p3,p4,p5,m,_,k0,K,L,M,N,O⟩:=zom underlying29 F;simp only[Tryz.cellsInt,Tryz.cellsBool,List.drop,List.take] at k0 K L M N O;obtain⟨v4,w,_,_⟩:=DataW.trod_int underlying3 k0;obtain⟨v5,z,_,_⟩:=DataW.trod_int underlying3 K;obtain⟨v6,A,_,_⟩:=DataW.trod_int underlying3 L;obtain⟨v7,B,_,_⟩:=DataW.trod_int underlying3 M;obtain⟨S,C,_⟩:=DataW.trod_bool underlying4 N;obtain⟨T,D,_,_⟩:=DataW.trod_int underlying3 O;obtain⟨q,a,_,_⟩:=DataW.trod_int underlying3 G;obtain⟨r,b,_,_⟩:=DataW.trod_int underlying3 I;simp at t u v w z A B C D a b;subst t u v w z A B C D a b;subst R;exact⟨⟨v0,v1,v2,d,o,v4,v5,v6,v7,S,T,q,r⟩,⟨f,g,rfl,j,p⟩,⟨(show v1.size<=_ by omega),(show d<=_ from e)⟩⟩
/-- By value. -/
theorem open_op {a:TypeId × Value->H}{v:Value}{d:DataW H}{p:List MemPlace}(c:Value.okWide prog W .any base 31 v)
  (h:DataW.Trod a prog W 0 (λ_=>true) true 31 v d p) (e:∀ x ∈ DataW.weights prog 31 d,x<=reachBytes) :
  ∃ (cs:List Value) (s:OpD),v=.agg cs.toArray/\OpD.Is W cs s/\OpD.Short s 1000000000000000:=by
 obtain⟨cs,rfl,_⟩:=okWide_struct underlying31 c;obtain⟨fuel,b⟩:=h;obtain⟨s,h1,h2⟩:=view_op b e;exact⟨cs.toList,s,by simp,by simpa [Value.cells] using h1,h2⟩
end
section
open Go.ChangeShapes Go.WideShapes Go.ChangeAt Go.RowKit Go.Deep Go.Joins
theorem zoH (os:Os)(args:Array Value):laidMetH prog Rows.fnExactDoOpRow.laid ((World.doorLaid prog 400 os).forCall (λ_ _=>0) ⟨#[],args,[]⟩).memory :=
 laidMetH_of_parts3 (fuel:=8) (laidMet_of_run' 8 (by kernel_rfl) (by kernel_rfl)) (by kernel_rfl) (by kernel_rfl)
theorem zot (os:Os)(c:os.Started)(H:Type)(d:TypeId × Value->H) :
  ReturnsInHanded {} Tryz.checked os 3 .any (λw args=>(Rows.fnExactDoOpSpec.pre d prog Tryz.f3 [] false w args/\laidMetH prog Rows.fnExactDoOpRow.laid w)/\sizedMet d prog Tryz.f3 (OpenSpec.ofChange Rows.fnExactDoOpSpec) false w args) (Rows.fnExactDoOpSpec.post d prog Tryz.f3 false true false false):=by
 refine returnsInHanded_of_change_and (λ_ _ _ hh h=>h.of_heap hh) Tryz.own c (by kernel_rfl) func3
  (ChangeSpec.witness_shaped (X:=λw _=>laidMetH _ _ w) _ _ #[.agg #[True,True,True],(),.agg #[(),False,(),True,(),(),(),(),.bool false,(),(),()]] 8 rfl (World.shaped_of_RefB (by kernel_rfl) (by kernel_rfl)) (by kernel_rfl) (by kernel_rfl) (by kernel_rfl) (zoH os _)) ?_
 intro W base args ds U n b hW _ i hL _;have k:(DataW.weightsEach prog (Tryz.f3.params.toList++Rows.fnExactDoOpSpec.plain.varTypes prog) _).all _=true:=i;clear i;have a:∀ (j) t v,_->_->Value.okWide prog W _ _ t v:=b;have I:=hW;obtain⟨p,q,l,Z,rfl,a3,a4⟩:=hW;have Y:DataW.TrodAll d prog W 0 _ _ _ _ ds p:=l;rw[Tryz.params3] at Y a k;obtain⟨v0,a5,d0,a0,p0,q0,J,rfl,rfl,V,r0⟩:=trodAll_cons Y;obtain⟨v1,a6,d1,a1,p1,q1,rfl,rfl,rfl,h1,r1⟩:=trodAll_cons r0;obtain⟨v2,a7,d2,a2,p2,q2,rfl,rfl,rfl,h2,r2⟩:=trodAll_cons r1;obtain⟨rfl,rfl,rfl⟩:=trodAll_nil r2;obtain rfl:args=#[v0,v1,v2]:=by cases args;simp_all
 have G:=Z;have g:=zoI G;obtain⟨o,r,s,u,y,z,A,B,C,D,f,rfl⟩:∃ o r s u y z A B C D f,U=[o,r,s,u,y,z,A,B,C,D,f]:=by
  match U,g with
  | [o,r,s,u,y,z,A,B,C,D,f],_=>exact⟨o,r,s,u,y,z,A,B,C,D,f,rfl⟩
 clear g;have k0:=V;have S:∀ x ∈ p0,x.block<W.heap.size:=by obtain⟨m,M⟩:=k0;exact DataW.trod_lt m _ _ _ M
 have P:∀ x ∈ DataW.weights prog 26 d0,x<=reachBytes:=by
  intro x R;have:=List.all_eq_true.1 k x (by simp[DataW.weightsEach,R])
  simpa using this
 obtain⟨E,y0,rfl,K,N⟩:=zoG (a 0 26 v0 rfl rfl) V P;obtain⟨z1,rfl,rfl,rfl,w1⟩:=open_int underlying3 (a 1 3 v1 rfl rfl) h1;have k2:=h2;have T:∀ x ∈ p2,x.block<W.heap.size:=by obtain⟨m,M⟩:=k2;exact DataW.trod_lt m _ _ _ M
 have Q:∀ x ∈ DataW.weights prog 31 d2,x<=reachBytes:=by
  intro x R;have:=List.all_eq_true.1 k x (by simp[DataW.weightsEach,R])
  simpa using this
 obtain⟨F,y2,rfl,L,O⟩:=open_op (a 2 31 v2 rfl rfl) h2 Q;clear l b;refine(lawDoOpR E y0 z1 F y2 W N K O L (laid_dopr hL)).mono λe W' ⟨he,bel⟩=>?_
 subst he;exact⟨_,rfl,_,_,_,[],_,_,I,trodAll_mk1 (shut_bool underlying4 _),(trodAll_cons_mk (Below.trod Tryz.laidOut (by kernel_rfl) (Js (by kernel_rfl)) k0 bel S) (trodAll_cons_mk (shut_int underlying3 w1) (trodAll_cons_mk (Below.trod Tryz.laidOut (by kernel_rfl) (Js (by kernel_rfl)) k2 bel T) trodAll_mk0))),Below.trodVars Tryz.laidOut bel (by kernel_rfl) Z,bel.frame _,λh=>by cases h⟩
theorem zox:Rows.FnExactDoOpSaid :=
 OpenClaim.holds_of_wide 3 Tryz.f3 rfl rfl rfl rfl rfl rfl rfl ⟨rfl,rfl,rfl,rfl,rfl⟩ rfl rfl rfl rfl rfl (by kernel_rfl) func3 joinD
  (Js (by kernel_rfl)) (by unfold Func.isWrapper;first|(rw[Jf (by decide +kernel)];kernel_rfl)|(rw[Je (by decide +kernel)];exact⟨rfl,rfl⟩))
  (λos a H b _=>zot os a H b)
theorem doOpRow_card:Rows.FnExactDoOpCardSaid :=
 Claim7.holds_tied_plain_at .later [] _ _ _ _ zox (λ_ h=>by cases h) (by kernel_rfl) (λ_ h=>by cases h) fnExactDoOp_row_tie rfl ⟨rfl,rfl⟩ (by kernel_rfl) rfl
  (λf fn hf b=>by
   obtain rfl : f = 3 := Option.some.inj ((show Tryz.prog.funcNamed "loop.example/g00084/laws.FnExactDoOp" = some 3 by kernel_rfl).symm.trans hf) |>.symm
   obtain rfl:=(Option.some.inj (Tryz.func3.symm.trans b)).symm;refine⟨by kernel_rfl,λj t a=>?_⟩
   rw[Tryz.params3] at a
   rcases j with _|_|_|j
   ·obtain rfl:t=26:=by simpa using a.symm
    exact(show Tryz.prog.wantsStandIn 26=false by kernel_rfl)
   ·obtain rfl:t=3:=by simpa using a.symm
    exact(show Tryz.prog.wantsStandIn 3=false by kernel_rfl)
   ·obtain rfl:t=31:=by simpa using a.symm
    exact(show Tryz.prog.wantsStandIn 31=false by kernel_rfl)
   ·simp at a)
  (by kernel_rfl)
end
end Go.Proofs.YtmdnjgihooflfaaGreatDoor
