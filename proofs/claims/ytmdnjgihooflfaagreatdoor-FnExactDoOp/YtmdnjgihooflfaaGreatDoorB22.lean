/- OWN TEXT: laws.FnExactDoOp returns true at every office, number and operation, and writes nothing that was there; conditions: the tables, the errors and the type of errors as the row lists them. -/
import Derived.Test.YtmdnjgihooflfaaGreatDoorCards
import Derived.Test.YtmdnjgihooflfaaGreatDoorTie
import Derived.OpenVars
import Derived.SevenTiedAt
import Derived.Test.YtmdnjgihooflfaaGreatDoorB21
namespace Go.Proofs.YtmdnjgihooflfaaGreatDoor
open Go.RowKit
open Go.Value (int)
open Go.IntKind (i64)
open _root_.Go.Proofs.Tryz
set_option maxHeartbeats 64000000
set_option maxRecDepth 1000000
section
open Go.ChangeShapes Go.WideShapes Go.ChangeAt Go.RowKit Go.Deep Go.Joins
theorem Ry (os:Os)(args:Array Value):laidMetH prog Rows.fnExactDoOpRow.laid ((World.doorLaid prog 400 os).forCall (λ_ _=>0) ⟨#[],args,[]⟩).memory :=
 laidMetH_of_parts3 (fuel:=8) (laidMet_of_run' 8 kR kR) kR kR
theorem LJ (os:Os)(c:os.Started)(H:Type)(d:TypeId × Value->H) :
  ReturnsInHanded {} Tryz.checked os 3 .any (λw args=>(Rows.fnExactDoOpSpec.pre d prog Tryz.f3 [] false w args/\laidMetH prog Rows.fnExactDoOpRow.laid w)/\sizedMet d prog Tryz.f3 (OpenSpec.ofChange Rows.fnExactDoOpSpec) false w args) (Rows.fnExactDoOpSpec.post d prog Tryz.f3 false true false false):=by
 refine returnsInHanded_of_change_and (λ_ _ _ hh h=>h.of_heap hh) Tryz.j1 c kR func3
  (ChangeSpec.witness_shaped (X:=λw _=>laidMetH _ _ w) _ _ #[.agg #[True,True,True],(),.agg #[(),False,(),True,(),(),(),(),.bool false,(),(),()]] 8 rfl (World.shaped_of_RefB kR kR) kR kR kR (Ry os _)) ?_
 intro W base args ds U n b hW _ i hL _;have k:(DataW.weightsEach prog (Tryz.f3.params.toList++Rows.fnExactDoOpSpec.plain.varTypes prog) _).all _=true:=i;clear i;have a:∀ (j) t v,_->_->Value.okWide prog W _ _ t v:=b;have I:=hW;obtain⟨p,q,l,Z,rfl,a3,a4⟩:=hW;have Y:DataW.TrodAll d prog W 0 _ _ _ _ ds p:=l;rw[Tryz.params3] at Y a k;obtain⟨v0,a5,d0,a0,p0,q0,J,rfl,rfl,V,r0⟩:=trodAll_cons Y;obtain⟨v1,a6,d1,a1,p1,q1,rfl,rfl,rfl,h1,r1⟩:=trodAll_cons r0;obtain⟨v2,a7,d2,a2,p2,q2,rfl,rfl,rfl,h2,r2⟩:=trodAll_cons r1;obtain⟨rfl,rfl,rfl⟩:=trodAll_nil r2;obtain rfl:args=#[v0,v1,v2]:=by cases args;simp_all
 have G:=Z;have g:=Rt G;obtain⟨o,r,s,u,y,z,A,B,C,D,f,rfl⟩:∃ o r s u y z A B C D f,U=[o,r,s,u,y,z,A,B,C,D,f]:=by
  match U,g with
  |[o,r,s,u,y,z,A,B,C,D,f],_=>exact⟨o,r,s,u,y,z,A,B,C,D,f,rfl⟩
 clear g;have k0:=V;have S:∀ x ∈ p0,x.block<W.heap.size:=by obtain⟨m,M⟩:=k0;exact DataW.trod_lt m _ _ _ M
 have P:∀ x ∈ DataW.weights prog 26 d0,x<=reachBytes:=by
  intro x R;have:=List.all_eq_true.1 k x (by simp[DataW.weightsEach,R])
  simpa using this
 obtain⟨E,y0,rfl,K,N⟩:=Rx (a 0 26 v0 rfl rfl) V P;obtain⟨z1,rfl,rfl,rfl,w1⟩:=open_int underlying3 (a 1 3 v1 rfl rfl) h1;have k2:=h2;have T:∀ x ∈ p2,x.block<W.heap.size:=by obtain⟨m,M⟩:=k2;exact DataW.trod_lt m _ _ _ M
 have Q:∀ x ∈ DataW.weights prog 31 d2,x<=reachBytes:=by
  intro x R;have:=List.all_eq_true.1 k x (by simp[DataW.weightsEach,R])
  simpa using this
 obtain⟨F,y2,rfl,L,O⟩:=lr (a 2 31 v2 rfl rfl) h2 Q;clear l b;refine(jq E y0 z1 F y2 W N K O L (ed hL)).mono λe W' ⟨he,bel⟩=>?_
 subst he;exact⟨_,rfl,_,_,_,[],_,_,I,trodAll_mk1 (shut_bool underlying4 _),(trodAll_cons_mk (Below.trod Tryz.laidOut kR (Js kR) k0 bel S) (trodAll_cons_mk (shut_int underlying3 w1) (trodAll_cons_mk (Below.trod Tryz.laidOut kR (Js kR) k2 bel T) trodAll_mk0))),Below.trodVars Tryz.laidOut bel kR Z,bel.frame _,λh=>by cases h⟩
theorem MO:Rows.FnExactDoOpSaid :=
 OpenClaim.holds_of_wide 3 Tryz.f3 rfl rfl rfl rfl rfl rfl rfl ⟨rfl,rfl,rfl,rfl,rfl⟩ rfl rfl rfl rfl rfl kR func3 pt
  (Js kR) (by unfold Func.isWrapper;first|(rw[Jf (by decide +kernel)];kernel_rfl)|(rw[Je (by decide +kernel)];exact⟨rfl,rfl⟩))
  (λos a H b _=>LJ os a H b)
theorem doOpRow_card:Rows.FnExactDoOpCardSaid :=
 Claim7.holds_tied_plain_at .later [] _ _ _ _ MO (λ_ h=>by cases h) kR (λ_ h=>by cases h) fnExactDoOp_row_tie rfl ⟨rfl,rfl⟩ kR rfl
  (λf fn hf b=>by
   obtain rfl : f = 3 := Option.some.inj ((show Tryz.prog.funcNamed "loop.example/g00084/laws.FnExactDoOp" = some 3 by kernel_rfl).symm.trans hf) |>.symm
   obtain rfl:=(Option.some.inj (Tryz.func3.symm.trans b)).symm;refine⟨by kernel_rfl,λj t a=>?_⟩
   rw[Tryz.params3] at a
   rcases j with _|_|_|j
   ·obtain rfl:t=26:=by simpa using a.symm
    exact(show Tryz.prog.wantsStandIn 26=false by kernel_rfl)
   ·obtain rfl:t=3:=by simpa using a.symm
    exact(show Tryz.prog.wantsStandIn 3=false by kernel_rfl)
   ·obtain rfl:t=31:=by simpa using a.symm
    exact(show Tryz.prog.wantsStandIn 31=false by kernel_rfl)
   ·simp at a)
  kR
end
end Go.Proofs.YtmdnjgihooflfaaGreatDoor
