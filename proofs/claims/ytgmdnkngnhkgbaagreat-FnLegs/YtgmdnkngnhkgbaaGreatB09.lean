/-
  OWN TEXT: Kit3, StepOwn, InfoStay, InfoRoom, InfoSeat.
-/
import Derived.Deep.RegionLawGrows
import Derived.Deep.RegionHeld3
import Derived.Deep.AppendLies
import Derived.Test.YtgmdnkngnhkgbaaGreatRows
import Derived.Test.YtgmdnkngnhkgbaaGreatB07
namespace Go.Proofs.YtgmdnkngnhkgbaaGreat
open Go.RowKit
open Go.Value (int)
open Go.IntKind (i64)
set_option maxHeartbeats 64000000
set_option maxRecDepth 100000
theorem zm {w w':World}(h:w.grownBy w' none):Below w.heap.size w w':=bZ.grown h (Nat.le_refl _) (by simp)
theorem zD {P:Program}{C:Array Oper}{o:Oper}{a:Act}{w:World}{K:Act->World->Prop}{Q:Exit->Act->World->Prop}{E:Prop}
  (l:o.guard=none) (s x:Operand) (t:TypeId) (r:o.op=Op.call { callee:=Callee.builtin Builtin.append,args:=#[s,x],argTypes:=#[t,t] })
  (e:TypeId) (i:TypeInfo) (z:Value) (size bytes:Nat) (D:P.underlying t=some (.slice e)) (G:P.info? e=some i) (N:i.zero=some z) (J:i.size=size) (O:i.bytes=bytes) (R:z.cells.size=size) (h7:0<size)
  (base b:Nat) (H:a.eval s=.slice (some ⟨b,0,none⟩) 0 0) (S:base<=b) (A:w.heap[b]?=some (.cells #[] e (0,0)))
  (v:Option Addr) (m c:Nat) (d:List Value) (I:a.eval x=.slice v m c) (n:v=none->m=0/\c=0) (hn:d.length=m*size) (U:∀ ad,v=some ad->∀ j u,d[j]?=some u->w.cell? (ad.add j)=some u) (F:∀ u ∈ d,u.oneCell'=true)
  (b1:m<=maxLen) (b2:m*bytes<=140737488355328)
  (L:∀ k y w',w.grownBy w' none->w'.ownsRow base e size (.slice k m y) m d->(∀ g,(Value.slice k m y).ownBlock=some g->g=b∨w.heap.size<=g)->K (a.put o.dst (.slice k m y)) w') :
  if Region.wanted o (yielded C a.tmps)=true then Oper.wp P o a w K Q else E:=by
 have T:b<w.heap.size:=zQ A
 by_cases hm:m=0
 ·subst hm
  have q:d=[]:=List.eq_nil_of_length_eq_zero (by simpa using hn)
  subst q;have M:=L (some ⟨b,0,none⟩) 0 w (World.grownBy.refl w none) ⟨by simp,.inr ⟨b,0,#[],rfl,S,A,Nat.le_refl _,Nat.zero_le _,by simp,by simp⟩⟩ (fun g l=>by simp only[Value.ownBlock,Option.some.injEq] at l;exact .inl l.symm)
  have X:Region.wanted o (yielded C a.tmps)=true:=by simp[Region.wanted,l]
  cases v with
  | none =>
   obtain⟨_,rfl⟩:=n rfl;rw[if_pos X];unfold Oper.wp;have B:(Builtin.append_ #[t,t] o.type #[.slice (some ⟨b,0,none⟩) 0 0,.slice none 0 0]).run P w=.ok (.slice (some ⟨b,0,none⟩) 0 0) w:=by
    simp[Builtin.append_,run_underlying D,sizeOf,typeInfo,G,Builtin.lenOf,Builtin.firstCells,storeCells]
   simp[execOp,r,resolve,invoke,builtin,H,I,B,Result.andThen];exact M
  | some ad=>exact step_append_room l s x t r e i size D G J b 0 0 0 H ad 0 c [] I (by simp) (by simp) (by simp) (Nat.le_refl _) (by simp) (by simpa [World.setCells] using M)
 ·cases v with
  | none=>exact absurd (n rfl).1 hm
  | some ad =>
   refine step_append_grows l s x t r e i z size bytes D G N J O R h7 (some ⟨b,0,none⟩) 0 0 [] H (by intro h;cases h) (by simp) (by simp) ad m c d I hn (U ad rfl) F (by omega) (by omega) (by rw[Nat.zero_add];exact b2) ?_
   intro v' w' f p;rw[Nat.zero_add,List.nil_append] at f;obtain⟨k,y,rfl,V,W,_⟩:=zr f;exact L k y w' p (zC f (by omega)) (fun g l=>.inr (f.lt g l).1)
theorem Tryz.infoStay:(Tryz.prog.info? 84).map (fun i=>(i.zero,i.size,i.bytes))=some (some (.agg #[int i64 0,int i64 0,int i64 0,int i64 0]),4,32):=by kernel_rfl
theorem Tryz.infoRoom:(Tryz.prog.info? 93).map (fun i=>(i.zero,i.size,i.bytes))=some (some (.agg #[int i64 0,int i64 0,int i64 0,.bool false]),4,32):=by kernel_rfl
theorem Tryz.infoSeat:(Tryz.prog.info? 99).map (fun i=>(i.zero,i.size,i.bytes))=some (some (.agg #[int i64 0,int i64 0]),2,16):=by kernel_rfl
end Go.Proofs.YtgmdnkngnhkgbaaGreat
