/-
  OWN TEXT: KitTD.
-/
import Derived.Test.YtgmdnkngnhkgbaaGreatB03
namespace Go.Proofs.YtgmdnkngnhkgbaaGreat
section
open Go.RowKit
theorem eight (cs:Array Value) (h:cs.size=8):∃ r0 r1 r2 r3 r4 r5 r6 r7,cs=#[r0,r1,r2,r3,r4,r5,r6,r7]:=by
 refine ⟨cs[0],cs[1],cs[2],cs[3],cs[4],cs[5],cs[6],cs[7],?_⟩
 apply Array.ext
 ·simpa using h
 ·intro i h1 h2
  have h3:i=0∨i=1∨i=2∨i=3∨i=4∨i=5∨i=6∨i=7:=by simp at h2;omega
  rcases h3 with rfl | rfl | rfl | rfl | rfl | rfl | rfl | rfl <;> rfl
theorem box_eight {w:World} {b t:Nat} {r0 r1 r2 r3 r4 r5 r6 r7:Value} (h:w.heap[b]?=some (.cells #[r0,r1,r2,r3,r4,r5,r6,r7] t (0,0))) (v0 v1 v2 v3 v4 v5 v6 v7:Value) :
  ((((((((w.setCell ⟨b,0,none⟩ v0).setCell ⟨b,1,none⟩ v1).setCell ⟨b,2,none⟩ v2).setCell ⟨b,3,none⟩ v3).setCell ⟨b,4,none⟩ v4).setCell ⟨b,5,none⟩ v5).setCell ⟨b,6,none⟩ v6).setCell ⟨b,7,none⟩ v7).heap[b]?=some (.cells #[v0,v1,v2,v3,v4,v5,v6,v7] t (0,0)):=by
 have h0:(w.setCell ⟨b,0,none⟩ v0).heap[b]?=some (.cells #[v0,r1,r2,r3,r4,r5,r6,r7] t (0,0)):=by simpa using zt h 0 v0
 have h1:(World.setCell (w.setCell ⟨b,0,none⟩ v0) ⟨b,1,none⟩ v1).heap[b]?=some (.cells #[v0,v1,r2,r3,r4,r5,r6,r7] t (0,0)):=by simpa using zt h0 1 v1
 have h2:(World.setCell (World.setCell (w.setCell ⟨b,0,none⟩ v0) ⟨b,1,none⟩ v1) ⟨b,2,none⟩ v2).heap[b]?=some (.cells #[v0,v1,v2,r3,r4,r5,r6,r7] t (0,0)):=by simpa using zt h1 2 v2
 have h3:(World.setCell (World.setCell (World.setCell (w.setCell ⟨b,0,none⟩ v0) ⟨b,1,none⟩ v1) ⟨b,2,none⟩ v2) ⟨b,3,none⟩ v3).heap[b]?=some (.cells #[v0,v1,v2,v3,r4,r5,r6,r7] t (0,0)):=by simpa using zt h2 3 v3
 have h4:(World.setCell (World.setCell (World.setCell (World.setCell (w.setCell ⟨b,0,none⟩ v0) ⟨b,1,none⟩ v1) ⟨b,2,none⟩ v2) ⟨b,3,none⟩ v3) ⟨b,4,none⟩ v4).heap[b]?=some (.cells #[v0,v1,v2,v3,v4,r5,r6,r7] t (0,0)):=by simpa using zt h3 4 v4
 have h5:(World.setCell (World.setCell (World.setCell (World.setCell (World.setCell (w.setCell ⟨b,0,none⟩ v0) ⟨b,1,none⟩ v1) ⟨b,2,none⟩ v2) ⟨b,3,none⟩ v3) ⟨b,4,none⟩ v4) ⟨b,5,none⟩ v5).heap[b]?=some (.cells #[v0,v1,v2,v3,v4,v5,r6,r7] t (0,0)):=by simpa using zt h4 5 v5
 have h6:(World.setCell (World.setCell (World.setCell (World.setCell (World.setCell (World.setCell (w.setCell ⟨b,0,none⟩ v0) ⟨b,1,none⟩ v1) ⟨b,2,none⟩ v2) ⟨b,3,none⟩ v3) ⟨b,4,none⟩ v4) ⟨b,5,none⟩ v5) ⟨b,6,none⟩ v6).heap[b]?=some (.cells #[v0,v1,v2,v3,v4,v5,v6,r7] t (0,0)):=by simpa using zt h5 6 v6
 have h7:(World.setCell (World.setCell (World.setCell (World.setCell (World.setCell (World.setCell (World.setCell (w.setCell ⟨b,0,none⟩ v0) ⟨b,1,none⟩ v1) ⟨b,2,none⟩ v2) ⟨b,3,none⟩ v3) ⟨b,4,none⟩ v4) ⟨b,5,none⟩ v5) ⟨b,6,none⟩ v6) ⟨b,7,none⟩ v7).heap[b]?=some (.cells #[v0,v1,v2,v3,v4,v5,v6,v7] t (0,0)):=by simpa using zt h6 7 v7
 exact h7
theorem TSit.done {w wr:World} {xb cb n c a:Nat} {ao:Option Addr} {x:Sail} {vl vc:Value} (h:TSit w wr xb cb ao n c a x vl vc) (hcb:cb<w.heap.size) (hl:CodeLow w ao n) (v0 v1 v2 v3 v4 v5 v6 v7:Value) {z:World}
  (hz:z=((((((((wr.setCell ⟨w.heap.size,0,none⟩ v0).setCell ⟨w.heap.size,1,none⟩ v1).setCell ⟨w.heap.size,2,none⟩ v2).setCell ⟨w.heap.size,3,none⟩ v3).setCell ⟨w.heap.size,4,none⟩ v4).setCell ⟨w.heap.size,5,none⟩ v5).setCell ⟨w.heap.size,6,none⟩ v6).setCell ⟨w.heap.size,7,none⟩ v7)) :
  CurX z cb ao n c a∧zA w z (fun b=>b=cb)∧z.ownsRow w.heap.size 88 2 vl x.la.n (zR x.la)∧z.ownsRow w.heap.size 96 2 vc x.ca.n (zR x.ca):=by
 have hk:zA wr z (fun b=>b=w.heap.size):=by
  rw [hz]
  exact ((((((((zA.refl wr (fun b=>b=w.heap.size)).set (a:=⟨w.heap.size,0,none⟩) rfl v0).set (a:=⟨w.heap.size,1,none⟩) rfl v1).set (a:=⟨w.heap.size,2,none⟩) rfl v2).set (a:=⟨w.heap.size,3,none⟩) rfl v3).set (a:=⟨w.heap.size,4,none⟩) rfl v4).set (a:=⟨w.heap.size,5,none⟩) rfl v5).set (a:=⟨w.heap.size,6,none⟩) rfl v6).set (a:=⟨w.heap.size,7,none⟩) rfl v7
 obtain ⟨cs,h3,h4⟩:=h.res
 exact ⟨h.cur.far hk (by show ¬ cb=w.heap.size;omega) (fun k hk' b off e1 e2=>by have e2:b=w.heap.size:=e2;have:=hl k hk' b off e1;omega),kept_away' h.kept hk (fun b e=>by have e:b=w.heap.size:=e;omega),
  hk.own h.la (own_not h.la h4 (by decide)),hk.own h.ca (own_not h.ca h4 (by decide))⟩
end
end Go.Proofs.YtgmdnkngnhkgbaaGreat
