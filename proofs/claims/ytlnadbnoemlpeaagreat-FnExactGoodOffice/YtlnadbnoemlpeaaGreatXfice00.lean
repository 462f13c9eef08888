/-
  OWN TEXT: OfficeI.
-/
import Derived.Test.YtlnadbnoemlpeaaGreatB26
import Derived.Test.YtlnadbnoemlpeaaGreatB31
namespace Go.Proofs.YtlnadbnoemlpeaaGreat
open Go.RowKit

theorem implOffice_any (cs : List Value) (x : Off) (w : World) (hs : Off.Short x 1048576) (h : Off.Is w cs x) :
    Calls Tryz.prog 9 #[.agg cs.toArray] w fun e w' => e = .returned (.bool (decide (OffOk x))) ∧ Below w.heap.size w w' := by
  obtain ⟨asa, csa, ald, cld, abk, cbk, rfl, h1, s1, h2, s2, h3, s3⟩ := h
  exact (implOff_raw x asa ald abk csa cld cbk w hs h1 h2 h3 s3.1).mono fun _ _ ⟨a, b⟩ => ⟨says_decide a, b⟩

end Go.Proofs.YtlnadbnoemlpeaaGreat
