/-
  OWN TEXT: laws.FnLegs returns true at every list of bytes that comes in, and what came in reads behind the call as before it. No condition.
-/
import Derived.Test.YtgmdnkngnhkgbaaGreatB49
namespace Go.Proofs.YtgmdnkngnhkgbaaGreat
open Go.RowKit
open Go.Value (int)
open Go.IntKind (i64)
set_option maxHeartbeats 64000000
set_option maxRecDepth 1000000
section
open Go.ChangeShapes Go.WideShapes Go.ChangeAt Go.RowKit Go.Deep Go.Joins
theorem zdn (os:Os)(b:os.Started)(H:Type)(enc:TypeId × Value->H) :
  ReturnsInHanded {} Tryz.checked os 3 .any (Rows.fnLegsSpec.pre6 enc Tryz.prog Tryz.f3 Rows.fnLegsRow.domain false) (Rows.fnLegsSpec.post enc Tryz.prog Tryz.f3 false true false false):=by
 refine returnsInHanded_of_change_sized (C:=Tryz.checked) Tryz.own b (by kernel_rfl) Tryz.func3
  (ChangeSpec.witness6 (enc:=enc) (C:=Tryz.checked) false ⟨#[],#[.slice none 0 0],[]⟩ 8 (by kernel_rfl) (by kernel_rfl) (by kernel_rfl) (by kernel_rfl)) ?_
 intro W base args w I i a A _ c _;have g:(DataW.weightsEach Tryz.prog (Tryz.f3.params.toList++Rows.fnLegsSpec.plain.varTypes Tryz.prog) (w++I)).all (·<=reachBytes)=true:=c;clear c;have d:∀ (j:Nat) t v,Tryz.f3.params[j]?=some t->args[j]?=some v->Value.okWide Tryz.prog W .any base t v:=a;have l:=A;obtain⟨p,q,f,J,rfl,K,M⟩:=A;have z:DataW.TrodAll enc Tryz.prog W 0 (fun _=>true) true Tryz.f3.params.toList args.toList w p:=f
 rw[Tryz.params3] at z d g;obtain⟨D,R,F,G,P,q0,n,rfl,rfl,y,Q⟩:=trodAll_cons z;obtain⟨rfl,rfl,rfl⟩:=trodAll_nil Q;obtain rfl:args=#[D]:=by cases args;simp_all
 obtain⟨rfl,rfl⟩:=trodVars_none J;have B:=y;have u:∀ x ∈ P,x.block<W.heap.size:=by obtain⟨m,L⟩:=B;exact DataW.trod_lt m _ _ _ L
 have r:∀ x ∈ DataW.weights Tryz.prog 22 F,x<=reachBytes:=by
  intro x N;have:=List.all_eq_true.1 g x (by simp[DataW.weightsEach,N])
  simpa using this
 obtain⟨k,O,E,rfl,o,s⟩:=open_code (d 0 22 D rfl rfl) y r;clear f a;refine(lawLegs k O E W o s).mono fun e W' ⟨he,bel⟩=>?_
 subst he;exact⟨_,rfl,_,_,_,[],_,[],l,trodAll_mk1 (shut_bool Tryz.underlying4 _),(trodAll_cons_mk (Below.trod Tryz.laidOut (by kernel_rfl) (of_decide_eq_true (by kernel_rfl)) B bel u) trodAll_mk0),rfl,bel.frame _,fun h=>by cases h⟩
theorem legsLaw_holds:Rows.FnLegsSaid :=
 OpenClaim.holds_of_wide 3 Tryz.f3 rfl rfl rfl rfl rfl rfl rfl ⟨rfl,rfl,rfl,rfl,rfl⟩ rfl rfl rfl rfl rfl (by kernel_rfl) Tryz.func3 (by kernel_rfl)
  (of_decide_eq_true (by kernel_rfl)) (by unfold Func.isWrapper;first|(rw[if_pos (by decide +kernel)];kernel_rfl)|(rw[if_neg (by decide +kernel)];exact⟨rfl,rfl⟩))
  (fun os a H enc _=>zdn os a H enc)
end
end Go.Proofs.YtgmdnkngnhkgbaaGreat
