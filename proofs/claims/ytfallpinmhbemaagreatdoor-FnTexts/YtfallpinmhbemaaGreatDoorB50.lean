import Derived.Test.YtfallpinmhbemaaGreatDoorCards
import Derived.Test.YtfallpinmhbemaaGreatDoorTie
import Derived.OpenVars
import Derived.SevenTiedAt
import Derived.Test.YtfallpinmhbemaaGreatDoorB49
namespace Go.Proofs.YtfallpinmhbemaaGreatDoor
open Go.RowKit
open Go.Value (int)
open Go.IntKind (i64)
set_option maxHeartbeats 64000000
set_option maxRecDepth 1000000
section
open Go.ChangeShapes Go.WideShapes Go.ChangeAt Go.RowKit Go.Deep Go.Joins
theorem ziI {H:Type}{enc:TypeId × Value->H}{P:Program}{w:World}{a:Nat->Bool}{g i j:String}{b:List (DataW H)}{k:List MemPlace}(h:DataW.TrodVars enc P w a [g,i,j] b k):∃ d0 d1 d2,b=[d0,d1,d2]:=by
 cases b with
 | nil=>simp[DataW.TrodVars] at h
 | cons d ds =>
  obtain⟨g0,t0,c,f0,p0,q0,h1,h2,h3,h4,f,e⟩:=h;obtain⟨_,_,_,_,d1,_,_,_,_,_,d2,_,rfl,_⟩:=trodVars_two f;exact⟨d,d1,d2,rfl⟩
theorem zgE (os:Os)(args:Array Value):laidMetH Tryz.prog Rows.fnTextsRow.laid ((World.doorLaid Tryz.prog 400 os).forCall (fun _ _=>0) ⟨#[],args,[]⟩).memory :=
 laidMetH_of_parts3 (fuel:=8) (laidMet_of_run' 8 (by kernel_rfl) (by kernel_rfl)) (by kernel_rfl) (by kernel_rfl)
theorem zdI (os:Os)(c:os.Started)(H:Type)(enc:TypeId × Value->H) :
  ReturnsInHanded {} Tryz.checked os 3 .any (fun w args=>(Rows.fnTextsSpec.pre enc Tryz.prog Tryz.f3 [] false w args/\laidMetH Tryz.prog Rows.fnTextsRow.laid w)/\sizedMet enc Tryz.prog Tryz.f3 (OpenSpec.ofChange Rows.fnTextsSpec) false w args) (Rows.fnTextsSpec.post enc Tryz.prog Tryz.f3 false true false false):=by
 refine returnsInHanded_of_change_and (C:=Tryz.checked) (X:=fun w _=>laidMetH Tryz.prog Rows.fnTextsRow.laid w) (fun _ _ _ hh h=>h.of_heap hh) Tryz.own c (by kernel_rfl) Tryz.func3
  (ChangeSpec.witness_shaped (enc:=enc) (C:=Tryz.checked) (os:=os) (X:=fun w _=>laidMetH Tryz.prog Rows.fnTextsRow.laid w) false (World.doorLaid Tryz.prog 400 os) #[.slice none 0 0,.slice none 0 0] 8 rfl (World.shaped_of_RefB (by kernel_rfl) (by kernel_rfl)) (by kernel_rfl) (by kernel_rfl) (by kernel_rfl) (zgE os _)) ?_
 intro W base args I Y i b N _ d Z _;have f:(DataW.weightsEach Tryz.prog (Tryz.f3.params.toList++Rows.fnTextsSpec.plain.varTypes Tryz.prog) (I++Y)).all (·<=reachBytes)=true:=d;clear d;have a:∀ (j:Nat) t v,Tryz.f3.params[j]?=some t->args[j]?=some v->Value.okWide Tryz.prog W .any base t v:=b;have o:=N;obtain⟨p,q,g,M,rfl,a0,a1⟩:=N;have L:DataW.TrodAll enc Tryz.prog W 0 (fun _=>true) true Tryz.f3.params.toList args.toList I p:=g
 rw[Tryz.params3] at L a f;obtain⟨P,a2,T,U,p0,q0,r,rfl,rfl,J,r0⟩:=trodAll_cons L;obtain⟨Q,a3,d1,V,p1,q1,rfl,rfl,rfl,K,r1⟩:=trodAll_cons r0;obtain⟨rfl,rfl,rfl⟩:=trodAll_nil r1;obtain rfl:args=#[P,Q]:=by cases args;simp_all
 have n:=M;obtain⟨g0,g1,g2,rfl⟩:=ziI n;have O:=J;have F:∀ x ∈ p0,x.block<W.heap.size:=by obtain⟨m,s⟩:=O;exact DataW.trod_lt m _ _ _ s
 have z:∀ x ∈ DataW.weights Tryz.prog 22 T,x<=reachBytes:=by
  intro x B;have:=List.all_eq_true.1 f x (by simp[DataW.weightsEach,B])
  simpa using this
 obtain⟨k,n0,R,rfl,u,D⟩:=zgD (a 0 22 P rfl rfl) J z;have k1:=K;have G:∀ x ∈ p1,x.block<W.heap.size:=by obtain⟨m,s⟩:=k1;exact DataW.trod_lt m _ _ _ s
 have A:∀ x ∈ DataW.weights Tryz.prog 22 d1,x<=reachBytes:=by
  intro x B;have:=List.all_eq_true.1 f x (by simp[DataW.weightsEach,B])
  simpa using this
 obtain⟨l,n1,S,rfl,y,E⟩:=zgD (a 1 22 Q rfl rfl) K A;clear g b;refine(lawTexts k n0 R l n1 S W u D y E (laid_texts Z (Iff.of_eq (MakeChecks.laidMetH_plain _ _ _ (by kernel_rfl))))).mono fun e W' ⟨he,bel⟩=>?_
 subst he;exact⟨_,rfl,_,_,_,[],_,_,o,trodAll_mk1 (shut_bool Tryz.underlying4 _),(trodAll_cons_mk (Below.trod Tryz.laidOut (by kernel_rfl) (of_decide_eq_true (by kernel_rfl)) O bel F) (trodAll_cons_mk (Below.trod Tryz.laidOut (by kernel_rfl) (of_decide_eq_true (by kernel_rfl)) k1 bel G) trodAll_mk0)),Below.trodVars Tryz.laidOut bel (by kernel_rfl) M,bel.frame _,fun h=>by cases h⟩
theorem zdT:Rows.FnTextsSaid :=
 OpenClaim.holds_of_wide 3 Tryz.f3 rfl rfl rfl rfl rfl rfl rfl ⟨rfl,rfl,rfl,rfl,rfl⟩ rfl rfl rfl rfl rfl (by kernel_rfl) Tryz.func3 (by kernel_rfl)
  (of_decide_eq_true (by kernel_rfl)) (by unfold Func.isWrapper;first|(rw[if_pos (by decide +kernel)];kernel_rfl)|(rw[if_neg (by decide +kernel)];exact⟨rfl,rfl⟩))
  (fun os a H enc _=>zdI os a H enc)
theorem textsRow_card:Rows.FnTextsCardSaid :=
 Claim7.holds_tied_plain_at .later [] _ _ _ _ zdT (fun _ h=>by cases h) (by kernel_rfl) (fun _ h=>by cases h) fnTexts_row_tie rfl ⟨rfl,rfl⟩ (by kernel_rfl) rfl
  (fun f c hf b=>by
   obtain rfl : f = 3 := Option.some.inj ((show Tryz.prog.funcNamed "loop.example/g00084/laws.FnTexts" = some 3 by kernel_rfl).symm.trans hf) |>.symm
   obtain rfl:c=Tryz.f3:=(Option.some.inj (Tryz.func3.symm.trans b)).symm;refine⟨by kernel_rfl,fun j t a=>?_⟩
   rw[Tryz.params3] at a
   rcases j with _|_|j
   ·obtain rfl:t=22:=by simpa using a.symm
    exact(show Tryz.prog.wantsStandIn 22=false by kernel_rfl)
   ·obtain rfl:t=22:=by simpa using a.symm
    exact(show Tryz.prog.wantsStandIn 22=false by kernel_rfl)
   ·simp at a)
  (by kernel_rfl)
end
end Go.Proofs.YtfallpinmhbemaaGreatDoor
