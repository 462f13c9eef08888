/-
  OWN TEXT: IsI, CodeE, MayI, PlacW, PlainDs, SpecSt, SpecNf.
-/
import Derived.Test.YtmdnjgihooflfaaGreatDoorChecked
import Derived.LaidEql
import Derived.Stop.Asserts
import Derived.RowKitTokens
import Derived.Deep.LoopGhost
import Derived.Deep.DeepCutAuto
import Derived.Test.YtmdnjgihooflfaaGreatDoorB18
namespace Go.Proofs.YtmdnjgihooflfaaGreatDoor
open Go.RowKit
open Go.Value (int)
open Go.IntKind (i64)
open Tryz
set_option maxHeartbeats 64000000
set_option maxRecDepth 100000
section
open Go.RowKit Go.Extern.Stop Go.Stop Go.Extern
theorem Tryz.isMethodComparable (v : Value) (w : World) : (Go.method 525 284 v "Comparable").run Tryz.prog w = .ok (327, v) w := by kernel_rfl
theorem Tryz.isComp:(Tryz.prog.info? 391).map (·.comparable)=some true:=by kernel_rfl
theorem Tryz.isSize:(Tryz.prog.info? 413).map (·.size)=some 1:=by kernel_rfl
theorem Tryz.noIsE (v:Value)(a:TypeId)(w:World):(Instr.typeAssert (.iface 391 v) a 335 true).run prog w=.ok (.tuple #[.nilIface,.bool false]) w:=run_typeAssert_lacksB underlying335 (by kernel_rfl) (by kernel_rfl) v a w
theorem Tryz.noUnwrapE (v:Value)(a:TypeId)(w:World):(Instr.typeAssert (.iface 391 v) a 292 true).run prog w=.ok (.tuple #[.nilIface,.bool false]) w:=run_typeAssert_lacksB underlying292 (by kernel_rfl) (by kernel_rfl) v a w
theorem Tryz.noUnwrapsE (v:Value)(a:TypeId)(w:World):(Instr.typeAssert (.iface 391 v) a 294 true).run prog w=.ok (.tuple #[.nilIface,.bool false]) w:=run_typeAssert_lacksB underlying294 (by kernel_rfl) (by kernel_rfl) v a w
theorem Tryz.noIsR (v:Value)(a:TypeId)(w:World):(Instr.typeAssert (.iface 96 v) a 335 true).run prog w=.ok (.tuple #[.nilIface,.bool false]) w:=run_typeAssert_lacksB underlying335 (by kernel_rfl) (by kernel_rfl) v a w
theorem Tryz.hasUnwrapR (v:Value)(a:TypeId)(w:World):(Instr.typeAssert (.iface 96 v) a 292 true).run prog w=.ok (.tuple #[.iface 96 v,.bool true]) w:=run_typeAssert_hasB underlying292 (by kernel_rfl) v a w
theorem Tryz.methodUnwrap (v : Value) (w : World) : (Go.method 525 96 v "Unwrap").run Tryz.prog w = .ok (318, v) w := by kernel_rfl
theorem Z9 {a:TypeId}{e:Array (String × TypeId)}(b:TypeId)(v:Value)(c:Tryz.prog.underlying a=some (.interface e))(w:World) :
  (binOp .eql a (.iface b v) .nilIface).run prog w=.ok (.bool false) w:=by
 have h:∀ d,(Op.equalIn (d+1) a (.iface b v) .nilIface).run prog w=.ok false w:=λd=>by simp[Op.equalIn,run_underlying c]
 simp only[binOp];simp[Op.equal,Op.maxDepth,h 9999]
theorem zgW {a:TypeId}{c:Array (String × TypeId)}(b:Tryz.prog.underlying a=some (.interface c))(w:World) :
  (binOp .eql a .nilIface .nilIface).run prog w=.ok (.bool true) w:=by
 have h:∀ d,(Op.equalIn (d+1) a .nilIface .nilIface).run prog w=.ok true w:=λd=>by simp[Op.equalIn,run_underlying b]
 simp only[binOp];simp[Op.equal,Op.maxDepth,h 9999]
theorem zia (a:Value)(w:World) :
  Calls prog 318 #[.agg #[a]] w λe w'=>e=.returned a/\w'=w.alloc (.cells #[a] 96):=by
 go_enter func318,ntmps318;go_wp2;go_ret;exact⟨rfl,rfl⟩
/-- A refusal for one of errors.New's make, held against it. -/
theorem is1_same (b:Addr)(w:World) :
  Calls prog 216 #[.iface 96 (.agg #[.iface 391 (.pointer (some b))]),.iface 391 (.pointer (some b)),.bool true] w λe w'=>e=.returned (.bool true)/\w'=w.alloc (.cells #[.iface 391 (.pointer (some b))] 96):=by
 obtain⟨i,d,a⟩:=Option.map_eq_some_iff.1 Tryz.isComp;obtain⟨j,f,g⟩:=Option.map_eq_some_iff.1 Tryz.isSize;have nE:=Tryz.noIsE;have uE:=Tryz.noUnwrapE;have vE:=Tryz.noUnwrapsE;have nR:=Tryz.noIsR;have uR:=Tryz.hasUnwrapR;have mU:=Tryz.methodUnwrap;have c:=λw=>run_eql_iface_ptr_same w b underlying92 underlying391 d a f
 have k:=λw=>run_eql_iface_types 96 391 (.agg #[.iface 391 (.pointer (some b))]) (.pointer (some b)) underlying92 (by decide) w
 have h:=λw v=>Z9 391 v underlying92 w
 go_enter func216,ntmps216;go_wp2;refine wp_loop_rounds 2 ?_;rw[rounds_succ];go_wp2_with (first|(go_at_call 318;refine(zia _ _).mono ?_;rintro e w2 ⟨rfl,rfl⟩))
 rw[rounds_succ];go_wp2;go_ret;exact⟨rfl,rfl⟩
/-- A refusal for one of errors.New's make, held against another one. -/
theorem is1_other (a b:Addr)(ca g:Array Value)(q r:TypeId)(w:World)(f:a≠b)(h:w.heap[a.block]?=some (.cells ca q (0,0)))(k:w.heap[b.block]?=some (.cells g r (0,0))) :
  Calls prog 216 #[.iface 96 (.agg #[.iface 391 (.pointer (some a))]),.iface 391 (.pointer (some b)),.bool true] w λe w'=>e=.returned (.bool false)/\w'=w.alloc (.cells #[.iface 391 (.pointer (some a))] 96):=by
 obtain⟨i,m,c⟩:=Option.map_eq_some_iff.1 Tryz.isComp;obtain⟨j,n,d⟩:=Option.map_eq_some_iff.1 Tryz.isSize;have nE:=Tryz.noIsE;have uE:=Tryz.noUnwrapE;have vE:=Tryz.noUnwrapsE;have nR:=Tryz.noIsR;have uR:=Tryz.hasUnwrapR;have mU:=Tryz.methodUnwrap;have l:=run_eql_iface_ptr_other (w.alloc (.cells #[.iface 391 (.pointer (some a))] 96)) underlying92 underlying391 m c n (by rw[d];decide) f (zd h _) (zd k _)
 have p:=λw=>run_eql_iface_types 96 391 (.agg #[.iface 391 (.pointer (some a))]) (.pointer (some b)) underlying92 (by decide) w
 have o:=λw v=>Z9 391 v underlying92 w
 go_enter func216,ntmps216;go_wp2;refine wp_loop_rounds 2 ?_;rw[rounds_succ];go_wp2_with (first|(go_at_call 318;refine(zia _ _).mono ?_;rintro e w2 ⟨rfl,rfl⟩))
 rw[rounds_succ];go_wp2;go_ret;exact⟨rfl,rfl⟩
end
section
open Go.RowKit Go.Extern.Stop Go.Stop Go.Extern
theorem Tryz.callTypeOf (v:Value)(w:World):(callFunc 213 #[.iface 391 v]).run prog w=.ok (.value (.iface 284 (.agg #[.pointer (some (12,391))]))) w:=by kernel_rfl
theorem Tryz.callComparable (w:World):(callFunc 327 #[.agg #[.pointer (some (12,391))]]).run prog w=.ok (.value (.bool true)) w:=by kernel_rfl
theorem zdw (b:Addr)(w:World) :
  Calls prog 122 #[.iface 96 (.agg #[.iface 391 (.pointer (some b))]),.iface 391 (.pointer (some b))] w λe w'=>e=.returned (.bool true)/\Below w.heap.size w w':=by
 have hT:=Tryz.callTypeOf;have hC:=Tryz.callComparable;have mR:=Tryz.isMethodComparable;have n1:=λw v=>Z9 96 v underlying92 w
 have n2:=λw v=>Z9 391 v underlying92 w
 go_enter func122,ntmps122;go_wp2_with (first|(go_at_call 216;refine(is1_same b _).mono ?_;rintro e w2 ⟨rfl,rfl⟩))
 go_ret;exact⟨rfl,zk bZ _⟩
theorem zcS (a b:Addr)(ca d:Array Value)(f g:TypeId)(w:World)(c:a≠b)(h:w.heap[a.block]?=some (.cells ca f (0,0)))(i:w.heap[b.block]?=some (.cells d g (0,0))) :
  Calls prog 122 #[.iface 96 (.agg #[.iface 391 (.pointer (some a))]),.iface 391 (.pointer (some b))] w λe w'=>e=.returned (.bool false)/\Below w.heap.size w w':=by
 have hT:=Tryz.callTypeOf;have hC:=Tryz.callComparable;have mR:=Tryz.isMethodComparable;have n1:=λw v=>Z9 96 v underlying92 w
 have n2:=λw v=>Z9 391 v underlying92 w
 go_enter func122,ntmps122;go_wp2_with (first|(go_at_call 216;refine(is1_other a b ca d f g _ c h i).mono ?_;rintro e w2 ⟨rfl,rfl⟩))
 go_ret;exact⟨rfl,zk bZ _⟩
theorem znA (v:Value)(w:World):Calls prog 122 #[.iface 96 v,.nilIface] w λe w'=>e=.returned (.bool false)/\w'=w:=by
 have n0:=λw=>zgW underlying92 w
 have n1:=λw v=>Z9 96 v underlying92 w
 go_enter func122,ntmps122;go_wp2;go_ret;exact⟨rfl,rfl⟩
structure qY (w:World)(pe:Nat->Addr):Prop where
 c1:w.cell? (1,0)=some (.iface 391 (.pointer (some (pe 1))))
 c2:w.cell? (2,0)=some (.iface 391 (.pointer (some (pe 2))))
 c3:w.cell? (3,0)=some (.iface 391 (.pointer (some (pe 3))))
 c4:w.cell? (4,0)=some (.iface 391 (.pointer (some (pe 4))))
 c5:w.cell? (5,0)=some (.iface 391 (.pointer (some (pe 5))))
 c6:w.cell? (6,0)=some (.iface 391 (.pointer (some (pe 6))))
 c7:w.cell? (7,0)=some (.iface 391 (.pointer (some (pe 7))))
 c8:w.cell? (8,0)=some (.iface 391 (.pointer (some (pe 8))))
 obj:∀ k,1<=k->k<=8->∃ cs t,w.heap[(pe k).block]?=some (.cells cs t (0,0))
 inj:∀ i j,1<=i->i<=8->1<=j->j<=8->i≠j->pe i≠pe j
theorem qY.below {w w':World}{pe:Nat->Addr}(h:qY w pe)(a:Below w.heap.size w w'):qY w' pe :=
 ⟨(a.cell (Ja w _ h.c1)).trans h.c1,(a.cell (Ja w _ h.c2)).trans h.c2,(a.cell (Ja w _ h.c3)).trans h.c3,(a.cell (Ja w _ h.c4)).trans h.c4,(a.cell (Ja w _ h.c5)).trans h.c5,(a.cell (Ja w _ h.c6)).trans h.c6,(a.cell (Ja w _ h.c7)).trans h.c7,(a.cell (Ja w _ h.c8)).trans h.c8,λk h1 h2=>by obtain⟨cs,t,e⟩:=h.obj k h1 h2;exact⟨cs,t,zb e a⟩,h.inj⟩
theorem kinds_at (a b c d e f g h:Value)(w:World):(Instr.index 196 (.agg #[.nilIface,a,b,c,d,e,f,g,h]) ()).run prog w=.ok .nilIface w/\(Instr.index 196 (.agg #[.nilIface,a,b,c,d,e,f,g,h]) (int i64 1)).run prog w=.ok a w/\(Instr.index 196 (.agg #[.nilIface,a,b,c,d,e,f,g,h]) (int i64 2)).run prog w=.ok b w/\(Instr.index 196 (.agg #[.nilIface,a,b,c,d,e,f,g,h]) (int i64 3)).run prog w=.ok c w/\(Instr.index 196 (.agg #[.nilIface,a,b,c,d,e,f,g,h]) (int i64 4)).run prog w=.ok d w/\(Instr.index 196 (.agg #[.nilIface,a,b,c,d,e,f,g,h]) (int i64 5)).run prog w=.ok e w/\(Instr.index 196 (.agg #[.nilIface,a,b,c,d,e,f,g,h]) (int i64 6)).run prog w=.ok f w/\(Instr.index 196 (.agg #[.nilIface,a,b,c,d,e,f,g,h]) (int i64 7)).run prog w=.ok g w/\(Instr.index 196 (.agg #[.nilIface,a,b,c,d,e,f,g,h]) (int i64 8)).run prog w=.ok h w:=⟨by kernel_rfl,by kernel_rfl,by kernel_rfl,by kernel_rfl,by kernel_rfl,by kernel_rfl,by kernel_rfl,by kernel_rfl,by kernel_rfl⟩
/-- The fault is a refusal for error k. -/
theorem znB (pe:Nat->Addr)(k:Nat)(w:World)(t:qY w pe)(h1:1<=k)(h8:k<=8) :
  Calls prog 56 #[.iface 96 (.agg #[.iface 391 (.pointer (some (pe k)))])] w λe w'=>e=.returned (int i64 k)/\Below w.heap.size w w':=by
 have v:=hI t;have A:=t.c1;have B:=t.c2;have C:=t.c3;have D:=t.c4;have E:=t.c5;have F:=t.c6;have G:=t.c7;have H:=t.c8;obtain⟨u,f⟩:∃ u,u=pe k:=⟨_,rfl⟩;have d:=hI f;rw[← f];clear t f;have y:Below _ w (w.alloc (.cells #[.nilIface,.iface 391 (.pointer (some (pe 1))),.iface 391 (.pointer (some (pe 2))),.iface 391 (.pointer (some (pe 3))),.iface 391 (.pointer (some (pe 4))),.iface 391 (.pointer (some (pe 5))),.iface 391 (.pointer (some (pe 6))),.iface 391 (.pointer (some (pe 7))),.iface 391 (.pointer (some (pe 8)))] 196)):=zk bZ _;go_enter func56,ntmps56;go_wp2;generalize w.alloc _=W at y ⊢;go_loopg [16] 9 (λg i wr=>∃ j,j<=k/\g=9 - j/\i=int i64 j/\Below w.heap.size w wr)
 case atStart=>exact⟨0,Jq _,rfl,rfl,y⟩
 case round =>
  obtain⟨j,hj,rfl,rfl,c⟩:=hrel;have l:=hI (v.below c);have z:j=0∨j=1∨j=2∨j=3∨j=4∨j=5∨j=6∨j=7∨j=8:=by omega
  clear A B C D E F G H;have h:=λw=>kinds_at (.iface 391 (.pointer (some (pe 1)))) (.iface 391 (.pointer (some (pe 2)))) (.iface 391 (.pointer (some (pe 3)))) (.iface 391 (.pointer (some (pe 4)))) (.iface 391 (.pointer (some (pe 5)))) (.iface 391 (.pointer (some (pe 6)))) (.iface 391 (.pointer (some (pe 7)))) (.iface 391 (.pointer (some (pe 8)))) w
  rcases z with rfl|rfl|rfl|rfl|rfl|rfl|rfl|rfl|rfl
  ·have x:=λw=>(h w).1
   clear h;go_wp2_with (first|(go_at_call 122;refine(znA _ _).mono ?_;rintro e o ⟨rfl,rfl⟩))
   go_roundg 8
   case measure=>omega
   case rel=>exact⟨1,by omega,rfl,by go_num,c⟩
  ·have x:=λw=>(h w).2.1
   clear h
   by_cases hk:k=1
   ·subst hk
    have f:=d;subst f;go_wp2_with (first|(go_at_call 122;refine(zdw _ _).mono ?_;rintro e o ⟨rfl,b⟩))
    go_ret;exact⟨rfl,ze c b⟩
   ·have m:u≠pe 1:=by rw[d.out];exact v.inj k 1 h1 h8 (by omega) (by omega) hk
    obtain⟨ca,r,n⟩:=l.obj k h1 h8;obtain⟨p,s,q⟩:=l.obj 1 (by omega) (by omega)
    rw[← d.out] at n;go_wp2_with (first|(go_at_call 122;refine(zcS _ _ ca p r s _ m n q).mono ?_;rintro e o ⟨rfl,b⟩))
    go_roundg 7
    case measure=>omega
    case rel=>exact⟨2,by omega,rfl,by go_num,ze c b⟩
  ·have x:=λw=>(h w).2.2.1
   clear h
   by_cases hk:k=2
   ·subst hk
    have f:=d;subst f;go_wp2_with (first|(go_at_call 122;refine(zdw _ _).mono ?_;rintro e o ⟨rfl,b⟩))
    go_ret;exact⟨rfl,ze c b⟩
   ·have m:u≠pe 2:=by rw[d.out];exact v.inj k 2 h1 h8 (by omega) (by omega) hk
    obtain⟨ca,r,n⟩:=l.obj k h1 h8;obtain⟨p,s,q⟩:=l.obj 2 (by omega) (by omega)
    rw[← d.out] at n;go_wp2_with (first|(go_at_call 122;refine(zcS _ _ ca p r s _ m n q).mono ?_;rintro e o ⟨rfl,b⟩))
    go_roundg 6
    case measure=>omega
    case rel=>exact⟨3,by omega,rfl,by go_num,ze c b⟩
  ·have x:=λw=>(h w).2.2.2.1
   clear h
   by_cases hk:k=3
   ·subst hk
    have f:=d;subst f;go_wp2_with (first|(go_at_call 122;refine(zdw _ _).mono ?_;rintro e o ⟨rfl,b⟩))
    go_ret;exact⟨rfl,ze c b⟩
   ·have m:u≠pe 3:=by rw[d.out];exact v.inj k 3 h1 h8 (by omega) (by omega) hk
    obtain⟨ca,r,n⟩:=l.obj k h1 h8;obtain⟨p,s,q⟩:=l.obj 3 (by omega) (by omega)
    rw[← d.out] at n;go_wp2_with (first|(go_at_call 122;refine(zcS _ _ ca p r s _ m n q).mono ?_;rintro e o ⟨rfl,b⟩))
    go_roundg 5
    case measure=>omega
    case rel=>exact⟨4,by omega,rfl,by go_num,ze c b⟩
  ·have x:=λw=>(h w).2.2.2.2.1
   clear h
   by_cases hk:k=4
   ·subst hk
    have f:=d;subst f;go_wp2_with (first|(go_at_call 122;refine(zdw _ _).mono ?_;rintro e o ⟨rfl,b⟩))
    go_ret;exact⟨rfl,ze c b⟩
   ·have m:u≠pe 4:=by rw[d.out];exact v.inj k 4 h1 h8 (by omega) (by omega) hk
    obtain⟨ca,r,n⟩:=l.obj k h1 h8;obtain⟨p,s,q⟩:=l.obj 4 (by omega) (by omega)
    rw[← d.out] at n;go_wp2_with (first|(go_at_call 122;refine(zcS _ _ ca p r s _ m n q).mono ?_;rintro e o ⟨rfl,b⟩))
    go_roundg 4
    case measure=>omega
    case rel=>exact⟨5,by omega,rfl,by go_num,ze c b⟩
  ·have x:=λw=>(h w).2.2.2.2.2.1
   clear h
   by_cases hk:k=5
   ·subst hk
    have f:=d;subst f;go_wp2_with (first|(go_at_call 122;refine(zdw _ _).mono ?_;rintro e o ⟨rfl,b⟩))
    go_ret;exact⟨rfl,ze c b⟩
   ·have m:u≠pe 5:=by rw[d.out];exact v.inj k 5 h1 h8 (by omega) (by omega) hk
    obtain⟨ca,r,n⟩:=l.obj k h1 h8;obtain⟨p,s,q⟩:=l.obj 5 (by omega) (by omega)
    rw[← d.out] at n;go_wp2_with (first|(go_at_call 122;refine(zcS _ _ ca p r s _ m n q).mono ?_;rintro e o ⟨rfl,b⟩))
    go_roundg 3
    case measure=>omega
    case rel=>exact⟨6,by omega,rfl,by go_num,ze c b⟩
  ·have x:=λw=>(h w).2.2.2.2.2.2.1
   clear h
   by_cases hk:k=6
   ·subst hk
    have f:=d;subst f;go_wp2_with (first|(go_at_call 122;refine(zdw _ _).mono ?_;rintro e o ⟨rfl,b⟩))
    go_ret;exact⟨rfl,ze c b⟩
   ·have m:u≠pe 6:=by rw[d.out];exact v.inj k 6 h1 h8 (by omega) (by omega) hk
    obtain⟨ca,r,n⟩:=l.obj k h1 h8;obtain⟨p,s,q⟩:=l.obj 6 (by omega) (by omega)
    rw[← d.out] at n;go_wp2_with (first|(go_at_call 122;refine(zcS _ _ ca p r s _ m n q).mono ?_;rintro e o ⟨rfl,b⟩))
    go_roundg 2
    case measure=>omega
    case rel=>exact⟨7,by omega,rfl,by go_num,ze c b⟩
  ·have x:=λw=>(h w).2.2.2.2.2.2.2.1
   clear h
   by_cases hk:k=7
   ·subst hk
    have f:=d;subst f;go_wp2_with (first|(go_at_call 122;refine(zdw _ _).mono ?_;rintro e o ⟨rfl,b⟩))
    go_ret;exact⟨rfl,ze c b⟩
   ·have m:u≠pe 7:=by rw[d.out];exact v.inj k 7 h1 h8 (by omega) (by omega) hk
    obtain⟨ca,r,n⟩:=l.obj k h1 h8;obtain⟨p,s,q⟩:=l.obj 7 (by omega) (by omega)
    rw[← d.out] at n;go_wp2_with (first|(go_at_call 122;refine(zcS _ _ ca p r s _ m n q).mono ?_;rintro e o ⟨rfl,b⟩))
    go_roundg 1
    case measure=>omega
    case rel=>exact⟨8,by omega,rfl,by go_num,ze c b⟩
  ·have x:=λw=>(h w).2.2.2.2.2.2.2.2
   clear h
   by_cases hk:k=8
   ·subst hk
    have f:=d;subst f;go_wp2_with (first|(go_at_call 122;refine(zdw _ _).mono ?_;rintro e o ⟨rfl,b⟩))
    go_ret;exact⟨rfl,ze c b⟩
   ·omega
end
section
open Go.RowKit
variable{k now:Int}
def zeo (k:Int)(b:ql)(now:Int):Prop:=if k=4 then b.state=1 else if k=8 then b.state=1/\b.unt<now else zez b
theorem may4 {b:ql}(h:k=4):zeo k b now↔b.state=1:=by unfold zeo;rw[Jf h]
theorem may8 {b:ql}(h:k=8):zeo k b now↔b.state=1/\b.unt<now:=by unfold zeo;rw[Je (by omega),Jf h]
theorem may0 {b:ql}(a:k≠4)(h8:k≠8):zeo k b now↔zez b:=by unfold zeo;rw[Je a,Je h8]
theorem zkK (x:OpD)(i:Option Addr)(j:Nat)(b:ql)(d:Option Addr)(f:Nat)(w:World) :
  Calls prog 196 #[.agg (x,i,j),.agg (b,d,f)] w λe w'=>qX (zeo x.kind b x.now) e/\Below w.heap.size w w':=by
 by_cases k4:x.kind=4
 ·have k:(x.kind == 4)=true:=by simpa using k4
  have a:=hI (may4 k4);clear k4
  by_cases s1:b.state=1
  ·have g:(b.state == 1)=true:=by simpa using s1
   have c:=hI (a.2 s1);clear s1 a;go_enter func196,ntmps196;go_wp2;go_ret;exact⟨zR c,zk (zk bZ _) _⟩
  ·have g:(b.state == 1)=false:=by simpa using s1
   have c:Hid (¬ _):=λh=>s1 (a.1 h)
   clear s1 a;go_enter func196,ntmps196;go_wp2;go_ret;exact⟨zl c,zk (zk bZ _) _⟩
 ·have k:(x.kind == 4)=false:=by simpa using k4
  by_cases k8:x.kind=8
  ·have l:(x.kind == 8)=true:=by simpa using k8
   have a:=hI (may8 k8);clear k4 k8
   by_cases s1:b.state=1
   ·have g:(b.state == 1)=true:=by simpa using s1
    by_cases u1:b.unt<x.now
    ·have m:=Jd u1
     have c:=hI (a.2 ⟨s1,u1⟩);clear s1 a u1;go_enter func196,ntmps196;go_wp2;go_ret;exact⟨zR c,zk (zk bZ _) _⟩
    ·have m:=Jc u1
     have c:Hid (¬ _):=λh=>u1 (a.1 h).2
     clear s1 a u1;go_enter func196,ntmps196;go_wp2;go_ret;exact⟨zl c,zk (zk bZ _) _⟩
   ·have g:(b.state == 1)=false:=by simpa using s1
    have c:Hid (¬ _):=λh=>s1 (a.1 h).1
    clear s1 a;go_enter func196,ntmps196;go_wp2;go_ret;exact⟨zl c,zk (zk bZ _) _⟩
  ·have l:(x.kind == 8)=false:=by simpa using k8
   have a:=hI (may0 k4 k8);clear k4 k8;go_enter func196,ntmps196;go_wp2_with (go_at_call 189;refine(zhZ b d f _).mono ?_;rintro e w1 ⟨⟨v,rfl,n⟩,o⟩);go_ret;exact⟨⟨v,rfl,n.trans a.symm⟩,ze (zk (zk bZ _) _) o⟩
/-- There is room for one booking more, or none is added. -/
theorem zkL (x:OpD)(b:Option Addr)(d:Nat)(a:Option Addr)(n c:Nat)(pe:Nat->Addr)(w:World)(j:qY w pe)(h:¬ (x.kind=2∨x.kind=3)∨n<30) :
  Calls prog 110 #[(a,n,c),.agg (x,b,d)] w λe w'=>e=.returned (.tuple #[])/\Below w.heap.size w w':=by
 have e8:=(qY.below j (zk bZ (.cells (x,b,d) 47))).c8
 by_cases k2:x.kind=2
 ·have g:(x.kind == 2)=true:=by simpa using k2
  have k:decide ((n:Int)<30)=true:=Jd (by omega)
  clear h k2;go_enter func110,ntmps110;go_wp2_with (go_at_call 193;refine(ZD _ _).mono ?_;rintro e f ⟨rfl,rfl⟩);go_end0;exact⟨rfl,zk bZ _⟩
 ·have g:(x.kind == 2)=false:=by simpa using k2
  by_cases k3:x.kind=3
  ·have i:(x.kind == 3)=true:=by simpa using k3
   have k:decide ((n:Int)<30)=true:=Jd (by omega)
   clear h k2 k3;go_enter func110,ntmps110;go_wp2_with (go_at_call 193;refine(ZD _ _).mono ?_;rintro e f ⟨rfl,rfl⟩);go_end0;exact⟨rfl,zk bZ _⟩
  ·have i:(x.kind == 3)=false:=by simpa using k3
   clear h k2 k3;go_enter func110,ntmps110;go_wp2_with (go_at_call 193;refine(ZD _ _).mono ?_;rintro e f ⟨rfl,rfl⟩);go_end0;exact⟨rfl,zk bZ _⟩
/-- One is added, and there is no room. -/
theorem ziW (x:OpD)(d:Option Addr)(f:Nat)(a:Option Addr)(n c:Nat)(pe:Nat->Addr)(w:World)(i:qY w pe)(h:x.kind=2∨x.kind=3)(b:30<=n) :
  Calls prog 110 #[(a,n,c),.agg (x,d,f)] w λe w'=>e=.panicked [{ v:=.iface 96 (.agg #[.iface 391 (.pointer (some (pe 8)))]),recovered:=false }]/\Below w.heap.size w w':=by
 have e8:=(qY.below i (zk bZ (.cells (x,d,f) 47))).c8;have hn:decide ((n:Int)<30)=false:=Jc (by omega)
 by_cases k2:x.kind=2
 ·have g:(x.kind == 2)=true:=by simpa using k2
  clear h k2 b;go_enter func110,ntmps110;go_wp2_with (go_at_call 193;refine(zaD _ _ _).mono ?_;rintro e j ⟨rfl,rfl⟩);exact⟨rfl,rfl,zk bZ _⟩
 ·have g:(x.kind == 2)=false:=by simpa using k2
  have d3:(x.kind == 3)=true:=by simpa using h.resolve_left k2
  clear h k2 b;go_enter func110,ntmps110;go_wp2_with (go_at_call 193;refine(zaD _ _ _).mono ?_;rintro e j ⟨rfl,rfl⟩);exact⟨rfl,rfl,zk bZ _⟩
end
def zmK (pe:Nat->Addr)(k:Nat):Ending:=.panicked [{ v:=.iface 96 (.agg #[.iface 391 (.pointer (some (pe k)))]),recovered:=false }]
theorem znC (s:Zj)(v:Wk)(l:zY)(n g:Option Addr)(t o:Nat)(w:World)(y:qm s l)(hr:v.res=1)(D:v.goes=false)(Q:In v.who 1 9999)(R:qI v.p)(C:In v.p.cl 1 3/\(v.p.all=false->In v.p.be 1 4))(E:¬ Has (ZV l.ro) l.ron v.who)(P:s.ca.n<=1048576)(F:zG w n s.ca)(G:qp w g l.ron l.ro)(p:qj g l.ron o) :
  Calls prog 283 #[.agg #[v.leg,(v.res:Int),v.who,v.p.pe,v.p.len,v.p.hei,v.p.cl,v.p.all,v.p.be,v.goes],(n,s.ca.n,t),(g,l.ron,o)] w λe w'=>((∃ (x:qN) (u:Value),e=.returned (.tuple #[u,.bool true])/\qV s v l 0 (l.addRoom x)/\w'.ownsRow w.heap.size 228 4 u (l.ron+1) (zw (l.addRoom x).ro (l.ron+1)))∨(∃ u:Value,e=.returned (.tuple #[u,.bool false])/\qV s v l 6 l/\w'.ownsRow w.heap.size 228 4 u 0 []))/\Below w.heap.size w w':=by
 have O:=y.2.1.2.1;have H:∀ b,v.p.all=b->Hid _:=λ_ h=>h
 have K:=hI y;have M:=hI F;have N:=hI G;have J:=hI E;have L:=hI hr;have I:=hI D;have a:Below _ w (w.alloc (.cells #[v.leg,(v.res:Int),v.who,v.p.pe,v.p.len,v.p.hei,v.p.cl,v.p.all,v.p.be,v.goes] 268)):=zk bZ _;have f:=zoP a
 cases ha:v.p.all with
 | true =>
  have A:=hI ha;rw[ha] at a f;clear ha y F G E hr D H;go_enter func283,ntmps283;go_upto_region 1 with fail;generalize w.alloc _=V at a f ⊢;have S:=za f 2 _ rfl;have y3:=za f 3 _ rfl;have T:=za f 6 _ rfl;have U:=za f 7 _ rfl;go_wp2_with fail;refine(ziQ n g _ t _ o _ _ _ _ _ V rfl P (by omega) p.1 (M.below a) (N.below a) p.2.2).mono ?_
  rintro e W ⟨c,d⟩;have j:=ze a d
  rcases wholeW K L I A Q C.1 R.1 J c with⟨k,u,rfl,i,m⟩|⟨u,z,rfl,i,m⟩
  ·have r:=hI i
   have q:Hid _:=zu m a.size;clear c i m d;go_wp2;exact Jj (by simp[results,results283,go_sem]) rfl ⟨.inl ⟨_,u,rfl,r,q⟩,j⟩
  ·have r:=hI i
   have q:=hI (zu m a.size);clear c i m d;go_wp2;exact Jj (by simp[results,results283,go_sem]) rfl ⟨.inr ⟨u,rfl,r,q⟩,j⟩
 | false =>
  have A:=hI ha;have B:=C.2 ha;rw[ha] at a f;clear ha y F G E hr D H;go_enter func283,ntmps283;go_upto_region 1 with fail;generalize w.alloc _=V at a f ⊢;have S:=za f 2 _ rfl;have T:=za f 6 _ rfl;have U:=za f 7 _ rfl;have y8:=za f 8 _ rfl;go_wp2_with fail;refine(zhC n g _ t _ o _ _ _ _ _ V rfl P (by omega) p.1 (M.below a) (N.below a) p.2.2).mono ?_
  rintro e W ⟨c,d⟩;have j:=ze a d
  rcases berthW K L I A Q C.1 B J c with⟨k,u,rfl,i,m⟩|⟨u,z,rfl,i,m⟩
  ·have r:=hI i
   have q:Hid _:=zu m a.size;clear c i m d;go_wp2;exact Jj (by simp[results,results283,go_sem]) rfl ⟨.inl ⟨_,u,rfl,r,q⟩,j⟩
  ·have r:=hI i
   have q:=hI (zu m a.size);clear c i m d;go_wp2;exact Jj (by simp[results,results283,go_sem]) rfl ⟨.inr ⟨u,rfl,r,q⟩,j⟩
theorem zcT (w:World)(a b c d:Obj):((((w.alloc a).alloc b).alloc c).alloc d).heap[w.heap.size]?=some a/\((((w.alloc a).alloc b).alloc c).alloc d).heap[w.heap.size+1]?=some b/\((((w.alloc a).alloc b).alloc c).alloc d).heap[w.heap.size+1+1]?=some c/\((((w.alloc a).alloc b).alloc c).alloc d).heap[w.heap.size+1+1+1]?=some d/\((((w.alloc a).alloc b).alloc c).alloc d).heap.size=w.heap.size+1+1+1+1:=by
 obtain⟨h1,h2,h3,e⟩:=zaB w a b c;exact⟨zd h1 _,zd h2 _,zd h3 _,by have:=Jb (((w.alloc a).alloc b).alloc c) d;rw[e] at this;exact this,by simp⟩
theorem placed_0 (s:Zj)(v:Wk)(l:zY)(r G j d f:Option Addr)(E K y g h:Nat)(pe:Nat->Addr)(w:World)(W:qY w pe)(hL:qm s l)(hr:v.res=0)(hg:v.goes=false)(hw:In v.who 1 9999)(a8:qI v.p)(hc:zbA v.p.len v.p.hei)(hh:¬ Has (Qc l.st) l.stn v.who)(hn:s.la.n<=1048576)(hx:zG w r s.la)(hz:qw w j l.stn l.st)(Q:qj j l.stn y) :
  Calls prog 250 #[.agg #[v.leg,(v.res:Int),v.who,v.p.pe,v.p.len,v.p.hei,v.p.cl,v.p.all,v.p.be,v.goes],.agg (s,r,E,G,K),.agg #[(j,l.stn,y),(d,l.ron,g),(f,l.sen,h)]] w λe w'=>((∃ (x:Zp) (n:Option Addr) (o:Nat),e=.returned (.agg #[(n,l.stn+1,o),(d,l.ron,g),(f,l.sen,h)])/\qV s v l 0 (l.addStay x)/\w'.ownsRow w.heap.size 220 4 (n,l.stn+1,o) (l.stn+1) (zy (l.addStay x).st (l.stn+1)))∨(e=zmK pe 5/\qV s v l 5 l))/\Below w.heap.size w w':=by
 have a7:=hL.1.2.1;have HL:=hI hL;have HX:=hI hx;have Z:=hI hz;have HH:=hI hh;have HR:=hI hr;have HG:=hI hg;have R:(v.res:Int)=0:=by omega
 rw[R];clear R hL hx hz hh hr hg;obtain⟨J,U,O,T,a1⟩:=zcT w (.cells #[v.leg,(),v.who,v.p.pe,v.p.len,v.p.hei,v.p.cl,v.p.all,v.p.be,v.goes] 268) (.cells (s,r,E,G,K) 140) (.cells #[(j,l.stn,y),(d,l.ron,g),(f,l.sen,h)] 145) (.cells #[True,True,True] 145);have i:Below _ w ((((w.alloc (.cells #[v.leg,(),v.who,v.p.pe,v.p.len,v.p.hei,v.p.cl,v.p.all,v.p.be,v.goes] 268)).alloc (.cells (s,r,E,G,K) 140)).alloc (.cells #[(j,l.stn,y),(d,l.ron,g),(f,l.sen,h)] 145)).alloc (.cells #[True,True,True] 145)):=zk (zk (zk (zk bZ _) _) _) _;go_enter func250,ntmps250;go_upto_region 2 with fail;generalize (((w.alloc _).alloc _).alloc _).alloc _=V at J U O T a1 i ⊢;have y1:=za J 1 _ rfl;have a3:=za U 5 _ rfl;have a2:=za O 0 _ rfl;have a4:=za J 2 _ rfl;have a5:=za J 4 _ rfl;have a6:=za J 5 _ rfl;have a9:(v.res:Int)=0:=by have:=HR.out;omega
 go_wp2_with fail;clear y1 a3 a2 a4 a5 a6;refine(ziO r j _ E _ y _ _ _ _ _ V rfl hn (by omega) Q.1 (HX.below i) (Z.below i) Q.2.2).mono ?_
 rintro e N ⟨C,B⟩;have t:=zb O B;have I:=zb T B;have q0:=za t 0 _ rfl;have g0:=zg t 0;have A:=ze i B;have c5:=(W.below A).c5;have b0:=Ja w _ W.c5
 rcases placeW HL HR HG hw hc HH C with⟨k,u,rfl,P,M⟩|⟨u,z,rfl,P,M⟩
 ·have X:=hI P
  obtain⟨n,o,rfl,_⟩:=zp M;have L:zx N (N.setCell _ (n,l.stn+1,o)) _:=(zx.refl N (λb=>b=_+1)).set (a:=(w.heap.size+1+1,0)) rfl _
  have H:=(zlS t (n,l.stn+1,o)).1;have m:=L.blk I (show ¬ w.heap.size+1+1+1=w.heap.size+1+1 by omega)
  have c:=A.setCell (p:=(w.heap.size+1+1,0)) (show w.heap.size<=w.heap.size+1+1 by omega) (n,l.stn+1,o)
  have F:=L.own (zu M i.size) (λq h1 h2=>by have h2:=h2;have:=(World.ownsRow.lt M q h1).1;omega)
  have D:=((W.below c).c5);go_upto_region 5 with fail;generalize N.setCell _ _=Y at H m c F D ⊢;clear q0 g0 L t I A M B O T J U i c5 C P;go_wp2_with fail;refine(ZD _ _).mono ?_;rintro e S ⟨rfl,a0⟩;subst a0;go_upto_region 12 with fail;clear D;obtain⟨l0,l1,l2⟩:=ce3 H;obtain⟨r0,r1,r2⟩:=ce3 m;obtain⟨f0,f1,f2⟩:=fe3 m;have HZ:=hI (zcq m (n,l.stn+1,o) (d,l.ron,g) (f,l.sen,h));have HB:Hid (Below _ w (((S.setCell _ (n,l.stn+1,o)).setCell _ (d,l.ron,g)).setCell _ (f,l.sen,h))):=((c.setCell (p:=(w.heap.size+1+1+1,0)) (by show _<=_+1;omega) _).setCell (p:=(w.heap.size+1+1+1,1)) (by show _<=_+1;omega) _).setCell (p:=(w.heap.size+1+1+1,2)) (by show _<=_+1;omega) _
  have HO:Hid ((((S.setCell _ (n,l.stn+1,o)).setCell _ (d,l.ron,g)).setCell _ (f,l.sen,h)).ownsRow _ 220 4 _ _ _):=((((zx.refl S _).set (a:=⟨_,0,none⟩) rfl _).set (a:=⟨_,1,none⟩) rfl _).set (a:=⟨_,2,none⟩) rfl _).own F (λq h1 h2=>by have h2:=h2;subst h2;obtain⟨cs,e2⟩:=zA F _ h1;rw[m] at e2;simp at e2)
  clear H m c F;go_wp2;clear l0 l1 l2 r0 r1 r2 f0 f1 f2;obtain⟨z0,z1,z2⟩:=ce3 HZ;exact Jj (by simp[results,results250,go_sem,z0,z1,z2]) rfl ⟨.inl ⟨_,n,o,rfl,X,HO⟩,HB⟩
 ·have X:=hI P
  obtain⟨n,o,rfl,_⟩:=zp M;have c:=A.setCell (p:=(w.heap.size+1+1,0)) (show w.heap.size<=w.heap.size+1+1 by omega) (n,0,o)
  have D:=((W.below c).c5);go_upto_region 5 with fail;generalize N.setCell _ _=Y at c D ⊢;clear q0 g0 t I A M B O T J U i c5 C P;go_wp2_with (go_at_call 193;refine(zaD _ _ _).mono ?_;rintro e S ⟨rfl,rfl⟩);exact⟨rfl,.inr ⟨rfl,X⟩,c⟩
theorem placed_1 (s:Zj)(v:Wk)(l:zY)(E r f j d:Option Addr)(H C h y g:Nat)(pe:Nat->Addr)(w:World)(S:qY w pe)(W:qm s l)(hr:v.res=1)(hg:v.goes=false)(hw:In v.who 1 9999)(hp:qI v.p)(hc:In v.p.cl 1 3/\(v.p.all=false->In v.p.be 1 4))(hh:¬ Has (ZV l.ro) l.ron v.who)(hn:s.ca.n<=1048576)(hx:zG w r s.ca)(hz:qp w j l.ron l.ro)(a0:qj j l.ron y) :
  Calls prog 250 #[.agg #[v.leg,(v.res:Int),v.who,v.p.pe,v.p.len,v.p.hei,v.p.cl,v.p.all,v.p.be,v.goes],.agg (s,E,H,r,C),.agg #[(f,l.stn,h),(j,l.ron,y),(d,l.sen,g)]] w λe w'=>((∃ (x:qN) (n:Option Addr) (o:Nat),e=.returned (.agg #[(f,l.stn,h),(n,l.ron+1,o),(d,l.sen,g)])/\qV s v l 0 (l.addRoom x)/\w'.ownsRow w.heap.size 228 4 (n,l.ron+1,o) (l.ron+1) (zw (l.addRoom x).ro (l.ron+1)))∨(e=zmK pe 6/\qV s v l 6 l))/\Below w.heap.size w w':=by
 have b4:=W.2.1.2.1;have HL:=hI W;have HX:=hI hx;have U:=hI hz;have HH:=hI hh;have HR:=hI hr;have HG:=hI hg;have O:(v.res:Int)=1:=by omega
 rw[O];clear O W hx hz hh hr hg;obtain⟨m,R,L,Q,a1⟩:=zcT w (.cells #[v.leg,int i64 1,v.who,v.p.pe,v.p.len,v.p.hei,v.p.cl,v.p.all,v.p.be,v.goes] 268) (.cells (s,E,H,r,C) 140) (.cells #[(f,l.stn,h),(j,l.ron,y),(d,l.sen,g)] 145) (.cells #[True,True,True] 145);have i:Below _ w ((((w.alloc (.cells #[v.leg,int i64 1,v.who,v.p.pe,v.p.len,v.p.hei,v.p.cl,v.p.all,v.p.be,v.goes] 268)).alloc (.cells (s,E,H,r,C) 140)).alloc (.cells #[(f,l.stn,h),(j,l.ron,y),(d,l.sen,g)] 145)).alloc (.cells #[True,True,True] 145)):=zk (zk (zk (zk bZ _) _) _) _;go_enter func250,ntmps250;go_upto_region 2 with fail;generalize (((w.alloc _).alloc _).alloc _).alloc _=V at m R L Q a1 i ⊢;have y1:=za m 1 _ rfl;have a3:=za R 6 _ rfl;have a2:=za L 1 _ rfl;have a4:=za m 0 _ rfl;have a6:=za m 2 _ rfl;have a7:=za m 3 _ rfl;have a8:=za m 4 _ rfl;have a9:=za m 5 _ rfl;have b0:=za m 6 _ rfl;have b1:=za m 7 _ rfl;have b2:=za m 8 _ rfl;have b3:=za m 9 _ rfl;have a5:=y1;have Z:(v.res:Int)=1:=by have:=HR.out;omega
 go_wp2_with fail;clear y1 a3 a2 a4 a5 a6 a7 a8 a9 b0 b1 b2 b3;rw[← Z];refine(znC s v l r j C y V HL HR HG hw hp hc HH hn (HX.below i) (U.below i) a0).mono ?_;rintro e K ⟨N,A⟩;have t:=zb L A;have G:=zb Q A;have q1:=za t 1 _ rfl;have g1:=zg t 1;have z:=ze i A;have c5:=(S.below z).c6;have b5:=Ja w _ S.c6
 rcases N with⟨x,u,rfl,M,J⟩|⟨u,rfl,M,J⟩
 ·have T:=hI M
  obtain⟨n,o,rfl,_⟩:=zp J;have I:zx K (K.setCell _ (n,l.ron+1,o)) _:=(zx.refl K (λb=>b=_+1)).set (a:=(w.heap.size+1+1,1)) rfl _
  have F:=(zlS t (n,l.ron+1,o)).2.1;have k:=I.blk G (show ¬ w.heap.size+1+1+1=w.heap.size+1+1 by omega)
  have c:=z.setCell (p:=(w.heap.size+1+1,1)) (show w.heap.size<=w.heap.size+1+1 by omega) (n,l.ron+1,o)
  have D:=I.own (zu J i.size) (λq h1 h2=>by have h2:=h2;have:=(World.ownsRow.lt J q h1).1;omega)
  have B:=((S.below c).c6);go_upto_region 8 with fail;generalize K.setCell _ _=Y at F k c D B ⊢;clear q1 g1 I t G z J A L Q m R i c5 M;go_wp2_with fail;refine(ZD _ _).mono ?_;rintro e P ⟨rfl,X⟩;subst X;go_upto_region 12 with fail;clear B;obtain⟨l0,l1,l2⟩:=ce3 F;obtain⟨r0,r1,r2⟩:=ce3 k;obtain⟨f0,f1,f2⟩:=fe3 k;have HZ:=hI (zcq k (f,l.stn,h) (n,l.ron+1,o) (d,l.sen,g));have HB:Hid (Below _ w (((P.setCell _ (f,l.stn,h)).setCell _ (n,l.ron+1,o)).setCell _ (d,l.sen,g))):=((c.setCell (p:=(w.heap.size+1+1+1,0)) (by show _<=_+1;omega) _).setCell (p:=(w.heap.size+1+1+1,1)) (by show _<=_+1;omega) _).setCell (p:=(w.heap.size+1+1+1,2)) (by show _<=_+1;omega) _
  have HO:Hid ((((P.setCell _ (f,l.stn,h)).setCell _ (n,l.ron+1,o)).setCell _ (d,l.sen,g)).ownsRow _ 228 4 _ _ _):=((((zx.refl P _).set (a:=⟨_,0,none⟩) rfl _).set (a:=⟨_,1,none⟩) rfl _).set (a:=⟨_,2,none⟩) rfl _).own D (λq h1 h2=>by have h2:=h2;subst h2;obtain⟨cs,e2⟩:=zA D _ h1;rw[k] at e2;simp at e2)
  clear F k c D;go_wp2;clear l0 l1 l2 r0 r1 r2 f0 f1 f2;obtain⟨z0,z1,z2⟩:=ce3 HZ;exact Jj (by simp[results,results250,go_sem,z0,z1,z2]) rfl ⟨.inl ⟨_,n,o,rfl,T,HO⟩,HB⟩
 ·have T:=hI M
  obtain⟨n,o,rfl,_⟩:=zp J;have c:=z.setCell (p:=(w.heap.size+1+1,1)) (show w.heap.size<=w.heap.size+1+1 by omega) (n,0,o)
  have B:=((S.below c).c6);go_upto_region 8 with fail;generalize K.setCell _ _=Y at c B ⊢;clear q1 g1 t G z J A L Q m R i c5 M;go_wp2_with (go_at_call 193;refine(zaD _ _ _).mono ?_;rintro e P ⟨rfl,rfl⟩);exact⟨rfl,.inr ⟨rfl,T⟩,c⟩
theorem placed_2 (s:Zj)(v:Wk)(l:zY)(D C f d i:Option Addr)(H G h g r:Nat)(pe:Nat->Addr)(w:World)(T:qY w pe)(X:qm s l)(hr:v.res=2)(hg:v.goes=false)(hw:In v.who 1 9999)(hp:qI v.p)(hh:¬ Has (zag l.se) l.sen v.who)(hz:qE w i l.sen l.se)(O:qj i l.sen r) :
  Calls prog 250 #[.agg #[v.leg,(v.res:Int),v.who,v.p.pe,v.p.len,v.p.hei,v.p.cl,v.p.all,v.p.be,v.goes],.agg (s,D,H,C,G),.agg #[(f,l.stn,h),(d,l.ron,g),(i,l.sen,r)]] w λe w'=>((∃ (x:Qe) (m:Option Addr) (n:Nat),e=.returned (.agg #[(f,l.stn,h),(d,l.ron,g),(m,l.sen+1,n)])/\qV s v l 0 (l.addSeat x)/\w'.ownsRow w.heap.size 234 2 (m,l.sen+1,n) (l.sen+1) (zB (l.addSeat x).se (l.sen+1)))∨(e=zmK pe 7/\qV s v l 7 l))/\Below w.heap.size w w':=by
 have a5:=X.2.2.2.1;have HL:=hI X;have W:=hI hz;have HH:=hI hh;have HR:=hI hr;have HG:=hI hg;have P:(v.res:Int)=2:=by omega
 rw[P];clear P X hz hh hr hg;obtain⟨K,S,M,R,a0⟩:=zcT w (.cells #[v.leg,int i64 2,v.who,v.p.pe,v.p.len,v.p.hei,v.p.cl,v.p.all,v.p.be,v.goes] 268) (.cells (s,D,H,C,G) 140) (.cells #[(f,l.stn,h),(d,l.ron,g),(i,l.sen,r)] 145) (.cells #[True,True,True] 145);have k:Below _ w ((((w.alloc (.cells #[v.leg,int i64 2,v.who,v.p.pe,v.p.len,v.p.hei,v.p.cl,v.p.all,v.p.be,v.goes] 268)).alloc (.cells (s,D,H,C,G) 140)).alloc (.cells #[(f,l.stn,h),(d,l.ron,g),(i,l.sen,r)] 145)).alloc (.cells #[True,True,True] 145)):=zk (zk (zk (zk bZ _) _) _) _;go_enter func250,ntmps250;go_upto_region 2 with fail;generalize (((w.alloc _).alloc _).alloc _).alloc _=V at K S M R a0 k ⊢;have y1:=za K 1 _ rfl;have a2:=za S 7 _ rfl;have a1:=za M 2 _ rfl;have a3:=za K 2 _ rfl;have a4:=za K 3 _ rfl;have a6:(v.res:Int)=2:=by have:=HR.out;omega
 go_wp2_with fail;clear y1 a2 a1 a3 a4;refine(ziT _ i _ r _ _ _ V (by omega) O.1 (W.below k) O.2.2).mono ?_
 rintro e L ⟨z,y⟩;have o:=zb M y;have F:=zb R y;have q2:=za o 2 _ rfl;have g2:=zg o 2;have t:=ze k y;have c5:=(T.below t).c7;have a7:=Ja w _ T.c7
 rcases seatW HL HR HG hw hp.1 HH z with⟨u,rfl,N,J⟩|⟨u,rfl,N,J⟩
 ·have U:=hI N
  obtain⟨m,n,rfl,_⟩:=zp J;have I:zx L (L.setCell _ (m,l.sen+1,n)) _:=(zx.refl L (λb=>b=_+1)).set (a:=(w.heap.size+1+1,2)) rfl _
  have E:=(zlS o (m,l.sen+1,n)).2.2;have j:=I.blk F (show ¬ w.heap.size+1+1+1=w.heap.size+1+1 by omega)
  have c:=t.setCell (p:=(w.heap.size+1+1,2)) (show w.heap.size<=w.heap.size+1+1 by omega) (m,l.sen+1,n)
  have B:=I.own (zu J k.size) (λq h1 h2=>by have h2:=h2;have:=(World.ownsRow.lt J q h1).1;omega)
  have A:=((T.below c).c7);go_upto_region 11 with fail;generalize L.setCell _ _=Y at E j c B A ⊢;clear q2 g2 I o F t J y M R K S k c5 z N;go_wp2_with fail;refine(ZD _ _).mono ?_;rintro e Q ⟨rfl,Z⟩;subst Z;go_upto_region 12 with fail;clear A;obtain⟨l0,l1,l2⟩:=ce3 E;obtain⟨r0,r1,r2⟩:=ce3 j;obtain⟨f0,f1,f2⟩:=fe3 j;have HZ:=hI (zcq j (f,l.stn,h) (d,l.ron,g) (m,l.sen+1,n));have HB:Hid (Below _ w (((Q.setCell _ (f,l.stn,h)).setCell _ (d,l.ron,g)).setCell _ (m,l.sen+1,n))):=((c.setCell (p:=(w.heap.size+1+1+1,0)) (by show _<=_+1;omega) _).setCell (p:=(w.heap.size+1+1+1,1)) (by show _<=_+1;omega) _).setCell (p:=(w.heap.size+1+1+1,2)) (by show _<=_+1;omega) _
  have HO:Hid ((((Q.setCell _ (f,l.stn,h)).setCell _ (d,l.ron,g)).setCell _ (m,l.sen+1,n)).ownsRow _ 234 2 _ _ _):=((((zx.refl Q _).set (a:=⟨_,0,none⟩) rfl _).set (a:=⟨_,1,none⟩) rfl _).set (a:=⟨_,2,none⟩) rfl _).own B (λq h1 h2=>by have h2:=h2;subst h2;obtain⟨cs,e2⟩:=zA B _ h1;rw[j] at e2;simp at e2)
  clear E j c B;go_wp2;clear l0 l1 l2 r0 r1 r2 f0 f1 f2;obtain⟨z0,z1,z2⟩:=ce3 HZ;exact Jj (by simp[results,results250,go_sem,z0,z1,z2]) rfl ⟨.inl ⟨_,m,n,rfl,U,HO⟩,HB⟩
 ·have U:=hI N
  obtain⟨m,n,rfl,_⟩:=zp J;have c:=t.setCell (p:=(w.heap.size+1+1,2)) (show w.heap.size<=w.heap.size+1+1 by omega) (m,0,n)
  have A:=((T.below c).c7);go_upto_region 11 with fail;generalize L.setCell _ _=Y at c A ⊢;clear q2 g2 o F t J y M R K S k c5 z N;go_wp2_with (go_at_call 193;refine(zaD _ _ _).mono ?_;rintro e Q ⟨rfl,rfl⟩);exact⟨rfl,.inr ⟨rfl,U⟩,c⟩
theorem Zk.apt_goes {o:Off}(h:Zk o){m:Nat}(t:m<o.bkn)(s:zez (o.bk m)){p:Qh}(b:p.len=(o.bk m).len)(f:p.cl=(o.bk m).cl){v:Wk}(u:v ∈ Zh true (o.bk m).who p (o.bk m).lg (o.bk m).lgn):Apt o o.ld v:=by
 have g:zaI p.len p.cl 0=true->0<p.len:=by simp[zaI]
 have j:zaI p.len p.cl 1=true->0<p.cl:=by simp[zaI]
 obtain⟨⟨i,q,e⟩,hr,n,w,_,a⟩:=zbb u;refine⟨hr,λk r l=>?_⟩
 rw[Jf n,w];obtain⟨h1,h2,h3⟩:=h.here r t ⟨s,i,q,by rw[l,e]⟩
 unfold zfn
 by_cases c:v.res=0
 ·rw[Jf c]
  rw[c] at a;exact h2 (by rw[← b];exact g a)
 ·rw[Je c]
  by_cases d:v.res=1
  ·rw[Jf d]
   rw[d] at a;exact h3 (by rw[← f];exact j a)
  ·rw[Je d]
   exact h1
theorem Zk.apt_comes {o:Off}(h:Zk o){x:Int}(e:∀ i,i<o.bkn->(o.bk i).who≠x){p:Qh}{F:Nat->Int}{n:Nat}{v:Wk}(c:v ∈ Zh false x p F n):Apt o o.ld v:=by
 obtain⟨_,hr,a,d,_,_⟩:=zbb c;refine⟨hr,λk b _=>?_⟩
 rw[Je (by rw[a];decide),d]
 obtain⟨h1,h2,h3⟩:=h.fresh e b;unfold zfn
 split
 ·exact h2
 ·split
  ·exact h3
  ·exact h1
theorem zft (b:ql)(f:Option Addr)(g:Nat)(w:World) :
  Calls prog 86 #[.agg (b,f,g)] w λe w'=>e=.returned (.bool (decide (zez b)))/\Below w.heap.size w w':=by
 obtain⟨c,i⟩:∃ c,c=decide (zez b):=⟨_,rfl⟩;rw[← i];have d:=hI i;clear i
 by_cases h1:b.state=1
 ·have j:(b.state == 1)=true:=by simpa using h1
  have a:Hid (c=true):=by rw[d.out];exact Jd (.inl h1)
  clear h1;go_enter func86,ntmps86;go_wp2;go_ret;exact⟨by rw[a.out];rfl,zk bZ _⟩
 ·have j:(b.state == 1)=false:=by simpa using h1
  by_cases h2:b.state=2
  ·have k:(b.state == 2)=true:=by simpa using h2
   have a:Hid (c=true):=by rw[d.out];exact Jd (.inr h2)
   clear h1 h2;go_enter func86,ntmps86;go_wp2;go_ret;exact⟨by rw[a.out];rfl,zk bZ _⟩
  ·have k:(b.state == 2)=false:=by simpa using h2
   have a:Hid (c=false):=by rw[d.out];exact Jc (λh=>by rcases h with h|h;exact h1 h;exact h2 h)
   clear h1 h2;go_enter func86,ntmps86;go_wp2;go_ret;exact⟨by rw[a.out];rfl,zk bZ _⟩
theorem zcU {x:zY}{b:ql}{k:Nat}:zeA x b (k+1)↔zeA x b k∨((x.se k).who=b.who/\(x.se k).many=b.pe) :=
 ⟨λ⟨j,a,h⟩=>if e:j=k then .inr (by subst e;exact h) else .inl ⟨j,by omega,h⟩,λh=>by rcases h with⟨j,a,h⟩|h;exact⟨j,by omega,h⟩;exact⟨k,by omega,h⟩⟩
theorem zbF {x:zY}{b:ql}{k:Nat}:zeB x b (k+1)↔zeB x b k∨((x.st k).who=b.who/\(x.st k).len=b.len/\(x.st k).hei=b.hei) :=
 ⟨λ⟨j,a,h⟩=>if e:j=k then .inr (by subst e;exact h) else .inl ⟨j,by omega,h⟩,λh=>by rcases h with⟨j,a,h⟩|h;exact⟨j,by omega,h⟩;exact⟨k,by omega,h⟩⟩
theorem zaq {s:Zj}{x:zY}{b:ql}{k:Nat}:zdt s x b (k+1)↔zdt s x b k∨zmD s b (x.ro k) :=
 ⟨λ⟨j,a,h⟩=>if e:j=k then .inr (by subst e;exact h) else .inl ⟨j,by omega,h⟩,λh=>by rcases h with⟨j,a,h⟩|h;exact⟨j,by omega,h⟩;exact⟨k,by omega,h⟩⟩
theorem zkM (s:Zj)(la ca:Option Addr)(lc cc:Nat)(x:zY)(E C D:Option Addr)(S Q R:Nat)(b:ql)(N:Option Addr)(P:Nat)(w:World)
  (d6:x.stn<=1048576) (d7:x.ron<=1048576) (d8:x.sen<=1048576) (a2:zG w ca s.ca) (a5:qw w E x.stn x.st) (a3:qp w C x.ron x.ro) (a4:qE w D x.sen x.se)
  (J:∀ j,j<x.ron->0<=(x.ro j).cab/\(x.ro j).cab<s.ca.n) :
  Calls prog 88 #[.agg (s,la,lc,ca,cc),.agg #[(E,x.stn,S),(C,x.ron,Q),(D,x.sen,R)],.agg (b,N,P)] w λe w'=>qX (zbX s x b) e/\Below w.heap.size w w':=by
 have a8:=hI a2;have b2:=hI a5;have b0:=hI a3;have b1:=hI a4;have a9:=hI J;clear a2 a5 a3 a4 J;go_enter func88,ntmps88;go_wp2;obtain⟨W,X⟩:∃ W,W=(((w.alloc (.cells (s,la,lc,ca,cc) 140)).alloc (.cells #[(E,x.stn,S),(C,x.ron,Q),(D,x.sen,R)] 145)).alloc (.cells (b,N,P) 150)).alloc (.cells #[b.pe,b.len,b.hei,b.cl,b.all,b.be] 45):=⟨_,rfl⟩;have bS:W.heap[w.heap.size]?=some (.cells (s,la,lc,ca,cc) 140 (0,0)):=by rw[X];exact zd (zd (zd (Jb w _) _) _) _
 have bL:W.heap[w.heap.size+1]?=some (.cells #[(E,x.stn,S),(C,x.ron,Q),(D,x.sen,R)] 145 (0,0)):=by rw[X];exact zd (zd (by simpa using Jb (w.alloc _) _) _) _
 have bB:W.heap[w.heap.size+1+1]?=some (.cells (b,N,P) 150 (0,0)):=by rw[X];exact zd (by simpa using Jb ((w.alloc _).alloc _) _) _
 have H:W.heap[w.heap.size+1+1+1]?=some (.cells #[b.pe,b.len,b.hei,b.cl,b.all,b.be] 45 (0,0)):=by rw[X];simpa using Jb (((w.alloc _).alloc _).alloc _) _
 have F:Below w.heap.size w W:=by rw[X];exact zk (zk (zk (zk bZ _) _) _) _
 rw[← X];clear X;have K:∀ y,¬ zeA y b 0:=λy ⟨j,hj,_⟩=>absurd hj (Nat.not_lt_zero _)
 go_loopw [8,10,22] (λv _ i wr=>∃ (k:Nat) (c:Bool),k<=x.sen/\i=int i64 k/\v=.bool c/\(c=true↔zeA x b k)/\Below W.heap.size W wr) (λ_ _ i _=>x.sen - (intOf i).toNat)
 case atStart=>exact⟨0,_,Jq _,rfl,rfl,⟨λh=>(by cases h),λh=>absurd h (K x)⟩,bZ⟩
 case round =>
  obtain⟨k,c,hk,rfl,rfl,m,a⟩:=hrel;have Y:=hI m;clear m;have O:∀ o,(wr.alloc o).cell? _=some (.int _ _):=λo=>za (zd (zb bB a) o) 1 _ rfl
  have b5:∀ o,(wr.alloc o).cell? _=some (.int _ _):=λo=>za (zd (zb H a) o) 0 _ rfl
  by_cases hlt:k<x.sen
  ·obtain⟨G,so,rfl,B,I⟩:=b1 k hlt
   have g:=Ja w _ B;have d1:=((ze F a).cell g).trans B;have d2:=((ze F a).cell (p:=⟨G,_+1,_⟩) g).trans I;clear B I
   cases c with
   | true =>
    go_wp2;go_roundw
    case rel=>exact⟨_,_,by omega,by go_num,rfl,⟨λ_=>zcU.2 (.inl (Y.1 rfl)),λ_=>rfl⟩,zk a _⟩
    case measure=>simp[intOf];omega
   | false =>
    have l:Hid (¬ _):=λh=>by have:=Y.2 h;cases this
    clear Y
    by_cases e1:(x.se k).who=b.who
    ·by_cases e2:(x.se k).many=b.pe
     ·have M:=hI (zcU.2 (.inr ⟨e1,e2⟩))
      go_wp2;go_roundw
      case rel=>exact⟨_,_,by omega,by go_num,rfl,⟨λ_=>M,λ_=>rfl⟩,zk a _⟩
      case measure=>simp[intOf];omega
     ·have d:Hid (¬ _):=λh=>by rcases zcU.1 h with h|h;exact l h;exact e2 h.2
      go_wp2;go_roundw
      case rel=>exact⟨_,_,by omega,by go_num,rfl,⟨λh=>(by cases h),λh=>absurd h d⟩,zk a _⟩
      case measure=>simp[intOf];omega
    ·have d:Hid (¬ _):=λh=>by rcases zcU.1 h with h|h;exact l h;exact e1 h.1
     go_wp2;go_roundw
     case rel=>exact⟨_,_,by omega,by go_num,rfl,⟨λh=>(by cases h),λh=>absurd h d⟩,zk a _⟩
     case measure=>simp[intOf];omega
  ·obtain rfl:k=x.sen:=by omega
   clear O b5;have a6:=hI a;have L:=hI F;have b3:=za (zb bL a) 0 _ rfl;have a0:=za (zb H a) 1 _ rfl;clear a F hk hlt K;obtain⟨z1,r⟩:∃ z,z=(b.len == 0):=⟨_,rfl⟩;have V:=r.symm;have n:Hid (z1=true↔b.len=0):=by show _↔_;rw[r,beq_iff_eq]
   clear r;go_wp2;go_loopw [11,13,43] (λv _ i wq=>∃ (k:Nat) (c:Bool),k<=x.stn/\i=int i64 k/\v=.bool c/\(c=true↔b.len=0∨zeB x b k)/\Below W.heap.size W wq) (λ_ _ i _=>x.stn - (intOf i).toNat)
   case atStart=>exact⟨0,z1,Jq _,rfl,rfl,⟨λh=>.inl (n.1 h),λh=>by rcases h with h|⟨j,hj,_⟩;exact n.2 h;exact absurd hj (Nat.not_lt_zero _)⟩,a6⟩
   case round =>
    obtain⟨k,c2,hk,rfl,rfl,m,a⟩:=hrel;have u:=hI m;clear m b3 a0 V n
    by_cases hlt:k<x.stn
    ·obtain⟨G,so,rfl,B,I,g3,g4⟩:=b2 k hlt
     have g:=Ja w _ B;have f:=ze L a;have d1:=(f.cell g).trans B;have d2:=(f.cell (p:=⟨G,_+1,_⟩) g).trans I;have d3:=(f.cell (p:=⟨G,_+2,_⟩) g).trans g3;have d4:=(f.cell (p:=⟨G,_+3,_⟩) g).trans g4;have O:∀ o,(wr.alloc o).cell? _=some (.int _ _):=λo=>za (zd (zb bB a) o) 1 _ rfl
     have a0:∀ o,(wr.alloc o).cell? _=some (.int _ _):=λo=>za (zd (zb H a) o) 1 _ rfl
     have c0:∀ o,(wr.alloc o).cell? _=some (.int _ _):=λo=>za (zd (zb H a) o) 2 _ rfl
     clear B I g3 g4 f
     cases c2 with
     | true =>
      go_wp2;go_roundw
      case rel=>exact⟨_,_,by omega,by go_num,rfl,⟨λ_=>(u.1 rfl).imp id (λh=>zbF.2 (.inl h)),λ_=>rfl⟩,zk a _⟩
      case measure=>simp[intOf];omega
     | false =>
      have l:Hid (¬ _):=λh=>by have:=u.2 h;cases this
      clear u
      by_cases e1:(x.st k).who=b.who
      ·have T:((x.st k).who == b.who)=true:=by simpa using e1
       by_cases e2:(x.st k).len=b.len
       ·have t:((x.st k).len == b.len)=true:=by simpa using e2
        by_cases e3:(x.st k).hei=b.hei
        ·have U:((x.st k).hei == b.hei)=true:=by simpa using e3
         have M:Hid (b.len=0∨_):=.inr (zbF.2 (.inr ⟨e1,e2,e3⟩));clear e1 e2 e3;go_wp2;go_roundw
         case rel=>exact⟨_,_,by omega,by go_num,rfl,⟨λ_=>M,λ_=>rfl⟩,zk a _⟩
         case measure=>simp[intOf];omega
        ·have U:((x.st k).hei == b.hei)=false:=by simpa using e3
         have d:Hid (¬ (_∨_)):=λh=>by rcases h with h|h;exact l (.inl h);rcases zbF.1 h with h|h;exact l (.inr h);exact e3 h.2.2
         clear e1 e2 e3;go_wp2;go_roundw
         case rel=>exact⟨_,_,by omega,by go_num,rfl,⟨λh=>(by cases h),λh=>absurd h d⟩,zk a _⟩
         case measure=>simp[intOf];omega
       ·have t:((x.st k).len == b.len)=false:=by simpa using e2
        have d:Hid (¬ (_∨_)):=λh=>by rcases h with h|h;exact l (.inl h);rcases zbF.1 h with h|h;exact l (.inr h);exact e2 h.2.1
        clear e1 e2;go_wp2;go_roundw
        case rel=>exact⟨_,_,by omega,by go_num,rfl,⟨λh=>(by cases h),λh=>absurd h d⟩,zk a _⟩
        case measure=>simp[intOf];omega
      ·have T:((x.st k).who == b.who)=false:=by simpa using e1
       have d:Hid (¬ (_∨_)):=λh=>by rcases h with h|h;exact l (.inl h);rcases zbF.1 h with h|h;exact l (.inr h);exact e1 h.1
       clear e1;go_wp2;go_roundw
       case rel=>exact⟨_,_,by omega,by go_num,rfl,⟨λh=>(by cases h),λh=>absurd h d⟩,zk a _⟩
       case measure=>simp[intOf];omega
    ·obtain rfl:k=x.stn:=by omega
     have a7:=hI a;have b4:=za (zb bL a) 1 _ rfl;have a1:=za (zb H a) 3 _ rfl;clear a hk hlt;obtain⟨z1,r⟩:∃ z,z=(b.cl == 0):=⟨_,rfl⟩;have V:=r.symm;have n:Hid (z1=true↔b.cl=0):=by show _↔_;rw[r,beq_iff_eq]
     clear r;go_wp2;go_loopw [14,16,76] (λv _ i wq=>∃ (k:Nat) (c:Bool),k<=x.ron/\i=int i64 k/\v=.bool c/\(c=true↔b.cl=0∨zdt s x b k)/\Below W.heap.size W wq) (λ_ _ i _=>x.ron - (intOf i).toNat)
     case atStart=>exact⟨0,z1,Jq _,rfl,rfl,⟨λh=>.inl (n.1 h),λh=>by rcases h with h|⟨j,hj,_⟩;exact n.2 h;exact absurd hj (Nat.not_lt_zero _)⟩,a7⟩
     case round =>
      obtain⟨k,c3,hk,rfl,rfl,m,a⟩:=hrel;have A:=hI m;clear m b4 a1 V n
      by_cases hlt:k<x.ron
      ·obtain⟨G,so,rfl,B,I,g3,g4⟩:=b0 k hlt
       have g:=Ja w _ B;have f:=ze L a;have d1:=(f.cell g).trans B;have d2:=(f.cell (p:=⟨G,_+1,_⟩) g).trans I;have d3:=(f.cell (p:=⟨G,_+2,_⟩) g).trans g3;have d4:=(f.cell (p:=⟨G,_+3,_⟩) g).trans g4;obtain⟨i0,i1⟩:=a9 k hlt;obtain⟨cb,co,rfl,k1,k2⟩:=a8 (x.ro k).cab.toNat (by omega)
       have b9:=Ja w _ k1;have c1:=λo=>(((f.alloc f.size o).cell b9)).trans k1
       have O:∀ o,(wr.alloc o).cell? _=some (.int _ _):=λo=>za (zd (zb bB a) o) 1 _ rfl
       have a1:∀ o,(wr.alloc o).cell? _=some (.int _ _):=λo=>za (zd (zb H a) o) 3 _ rfl
       obtain⟨q,hq⟩:∃ q,q=b.all:=⟨_,rfl⟩;have Z:=hI hq;have c9:∀ o,(wr.alloc o).cell? _=some (.bool q):=λo=>by rw[hq];exact za (zd (zb H a) o) 4 _ rfl
       clear hq;have d0:∀ o,(wr.alloc o).cell? _=some (.int _ _):=λo=>za (zd (zb H a) o) 5 _ rfl
       have d5:∀ o,(wr.alloc o).cell? _=some (.slice _ _ cc):=λo=>za (zd (zb bS a) o) 6 _ rfl
       clear B I g3 g4 k1 k2 f
       cases c3 with
       | true =>
        go_wp2;go_quiet (fail);go_wp2;go_roundw
        case rel=>exact⟨_,_,by omega,by go_num,rfl,⟨λ_=>(A.1 (by simp)).imp id (λh=>zaq.2 (.inl h)),λ_=>rfl⟩,dN (zk a _) _⟩
        case measure=>simp[intOf];omega
       | false =>
        have l:Hid (¬ _):=λh=>by have:=A.2 h;cases this
        clear A
        by_cases e1:(x.ro k).who=b.who
        ·have T:((x.ro k).who == b.who)=true:=by simpa using e1
         by_cases e2:(x.ro k).all=q
         ·have t:((x.ro k).all == q)=true:=by simpa using e2
          by_cases e3:s.ca.A (x.ro k).cab.toNat=b.cl
          ·have U:(s.ca.A (x.ro k).cab.toNat == b.cl)=true:=by simpa using e3
           by_cases e4:q=true
           ·have b6:=e2.trans e4
            have M:Hid (b.cl=0∨_):=.inr (zaq.2 (.inr ⟨e1,e2.trans Z,e3,.inl (Z.symm.trans e4)⟩));clear e1 e2 e3 t;go_wp2;go_quiet (fail);go_wp2;go_roundw
            case rel=>exact⟨_,_,by omega,by go_num,rfl,⟨λ_=>M,λ_=>rfl⟩,dN (zk a _) _⟩
            case measure=>simp[intOf];omega
           ·have b7:q=false:=by cases h:q;rfl;exact absurd h e4
            have b6:=e2.trans b7
            by_cases e5:(x.ro k).many=b.be
            ·have b8:((x.ro k).many == b.be)=true:=by simpa using e5
             have M:Hid (b.cl=0∨_):=.inr (zaq.2 (.inr ⟨e1,e2.trans Z,e3,.inr e5⟩));clear e1 e2 e3 e4 e5 t;go_wp2;go_quiet (fail);go_wp2;go_roundw
             case rel=>exact⟨_,_,by omega,by go_num,rfl,⟨λ_=>M,λ_=>rfl⟩,dN (zk a _) _⟩
             case measure=>simp[intOf];omega
            ·have b8:((x.ro k).many == b.be)=false:=by simpa using e5
             have d:Hid (¬ (_∨_)):=λh=>by rcases h with h|h;exact l (.inl h);rcases zaq.1 h with h|h;exact l (.inr h);exact(by rcases h.2.2.2 with h|h;exact e4 (Z.trans h);exact e5 h)
             clear e1 e2 e3 e4 e5 t;go_wp2;go_quiet (fail);go_wp2;go_roundw
             case rel=>exact⟨_,_,by omega,by go_num,rfl,⟨λh=>(by cases h),λh=>absurd h d⟩,dN (zk a _) _⟩
             case measure=>simp[intOf];omega
          ·have U:(s.ca.A (x.ro k).cab.toNat == b.cl)=false:=by simpa using e3
           have d:Hid (¬ (_∨_)):=λh=>by rcases h with h|h;exact l (.inl h);rcases zaq.1 h with h|h;exact l (.inr h);exact e3 h.2.2.1
           clear e1 e2 e3;go_wp2;go_quiet (fail);go_wp2;go_roundw
           case rel=>exact⟨_,_,by omega,by go_num,rfl,⟨λh=>(by cases h),λh=>absurd h d⟩,dN (zk a _) _⟩
           case measure=>simp[intOf];omega
         ·have t:((x.ro k).all == q)=false:=by simpa using e2
          have d:Hid (¬ (_∨_)):=λh=>by rcases h with h|h;exact l (.inl h);rcases zaq.1 h with h|h;exact l (.inr h);exact e2 (h.2.1.trans Z.symm)
          clear e1 e2;go_wp2;go_quiet (fail);go_wp2;go_roundw
          case rel=>exact⟨_,_,by omega,by go_num,rfl,⟨λh=>(by cases h),λh=>absurd h d⟩,dN (zk a _) _⟩
          case measure=>simp[intOf];omega
        ·have T:((x.ro k).who == b.who)=false:=by simpa using e1
         have d:Hid (¬ (_∨_)):=λh=>by rcases h with h|h;exact l (.inl h);rcases zaq.1 h with h|h;exact l (.inr h);exact e1 h.1
         clear e1;go_wp2;go_quiet (fail);go_wp2;go_roundw
         case rel=>exact⟨_,_,by omega,by go_num,rfl,⟨λh=>(by cases h),λh=>absurd h d⟩,dN (zk a _) _⟩
         case measure=>simp[intOf];omega
      ·obtain rfl:k=x.ron:=by omega
       have HF:=hI (ze L a);have HS:Hid (zbX s x b↔c=true/\c2=true/\c3=true):=by
        show _↔_
        unfold zbX;rw[Y.out,u.out,A.out]
       clear a hk hlt Y u A
       cases c with
       | false =>
        go_wp2;go_ret;exact⟨zl (λh=>by have h:=HS.1 h;simp at h),HF⟩
       | true =>
        cases c2 with
        | false =>
         go_wp2;go_ret;exact⟨zl (λh=>by have h:=HS.1 h;simp at h),HF⟩
        | true =>
         cases c3 with
         | false =>
          go_wp2;go_ret;exact⟨zl (λh=>by have h:=HS.1 h;simp at h),HF⟩
         | true =>
          go_wp2;go_ret;exact⟨zR (HS.2 (by simp)),HF⟩
def zbG (b:ql)(y:OpD):Prop:=¬ zez b∨(y.kind=4/\b.state≠1)∨(y.kind=8/\(b.state≠1∨y.now<=b.unt))
def zcV (R m:Nat)(x:Off)(y:OpD)(a:Int):Prop:=(R<=m->a=3)/\(m<R->zbG (x.bk m) y->a=4)/\(m<R->¬ zbG (x.bk m) y->a=0)
theorem zbH (J H n I:Option Addr)(N M R S P O Q m:Nat)(x:Off)(y:OpD)(w:World)(hR:R<=1048576)(b5:m<=1048576)(a8:y.name=(m:Int)+1)(T:qO w n R x.bk) :
  Calls prog 163 #[.agg #[(J,N,S),(H,M,P),(n,R,O)],.agg (y,I,Q)] w λe w'=>(∃ code:Int,e=.returned code/\zcV R m x y code)/\Below w.heap.size w w':=by
 have a2:=hI T;clear T;rw[a8];have a:Below _ w ((w.alloc (.cells #[(J,N,S),(H,M,P),(n,R,O)] 38)).alloc (.cells #[y.kind,y.own,int i64 ((m:Int)+1),(I,y.lgn,Q),y.pe,y.len,y.hei,y.cl,y.all,y.be,y.unt,y.now] 47)):=zk (zk bZ _) _;have K:=zoQ a;have B:=zoR a
 by_cases hlt:m<R
 case neg =>
  have HC:zcV R m x y 3:=⟨λ_=>rfl,λh=>absurd h hlt,λh=>absurd h hlt⟩
  have d0:decide ((R:Int)<(m:Int)+1)=true:=Jd (by omega)
  have d1:(R:Int)<(m:Int)+1:=by omega
  go_enter func163,ntmps163;go_upto_region 1 with fail;generalize (w.alloc _).alloc _=V at a K B ⊢;have f2:=za K 2 _ rfl;have o2:=za B 2 _ rfl;go_wp2;go_ret;exact⟨⟨3,rfl,HC⟩,a⟩
 obtain⟨Cc,X,U⟩:=a2;obtain⟨gb,off,l,d⟩:=X m hlt;have E:=hI l;clear l;obtain⟨g,f,t,g1,s1⟩:=U m hlt;obtain⟨b,u⟩:∃ b,b=x.bk m:=⟨_,rfl⟩;rw[← u] at t;have a1:=hI u.symm;rw[t] at d;have c:=Ja w _ (d 0 (by decide))
 have d0:decide ((R:Int)<(m:Int)+1)=false:=Jc (by omega)
 have i0:(0:Int)<=(m:Int):=by omega
 have i1:(m:Int)<(R:Int):=by omega
 have b1:IntKind.i64.wrap ((m:Int)+1 - 1)=(m:Int):=by rw[Jk];omega
 have j:Hid (∀ q,(_↔_)->zcV R m x y (if q=true then _ else 0)):=λq hq=>by
  unfold zcV;rw[a1.out];exact⟨λh=>absurd hlt (by omega),λ_ h=>Jf (hq.2 h),λ_ h=>Je (λe=>h (hq.1 e))⟩
 go_enter func163,ntmps163;go_upto_region 1 with fail;generalize (w.alloc _).alloc _=V at a K B ⊢;have f2:=za K 2 _ rfl;rw[E.out] at f2;have o2:=za B 2 _ rfl;have c0:V.cell? _=some (.int _ _):=(a.cell (p:=⟨gb,off+_,_⟩) c).trans (d 0 (by decide))
 have c1:V.cell? _=some (.int _ _):=(a.cell (p:=⟨gb,_+1,_⟩) c).trans (d 1 (by decide))
 have c2:V.cell? _=some (.string _):=(a.cell (p:=⟨gb,_+2,_⟩) c).trans (d 2 (by decide))
 have c3:V.cell? _=some (.slice g _ f):=(a.cell (p:=⟨gb,_+3,_⟩) c).trans (d 3 (by decide))
 have c4:V.cell? _=some (.int _ _):=(a.cell (p:=⟨gb,_+4,_⟩) c).trans (d 4 (by decide))
 have c5:V.cell? _=some (.int _ _):=(a.cell (p:=⟨gb,_+5,_⟩) c).trans (d 5 (by decide))
 have c6:V.cell? _=some (.int _ _):=(a.cell (p:=⟨gb,_+6,_⟩) c).trans (d 6 (by decide))
 have c7:V.cell? _=some (.int _ _):=(a.cell (p:=⟨gb,_+7,_⟩) c).trans (d 7 (by decide))
 have c8:V.cell? _=some (.bool _):=(a.cell (p:=⟨gb,_+8,_⟩) c).trans (d 8 (by decide))
 have c9:V.cell? _=some (.int _ _):=(a.cell (p:=⟨gb,_+9,_⟩) c).trans (d 9 (by decide))
 have a3:V.cell? _=some (.int _ _):=(a.cell (p:=⟨gb,_+10,_⟩) c).trans (d 10 (by decide))
 have a4:V.cell? _=some (.int _ _):=(a.cell (p:=⟨gb,_+11,_⟩) c).trans (d 11 (by decide))
 have a5:V.cell? _=some (.int _ _):=(a.cell (p:=⟨gb,_+12,_⟩) c).trans (d 12 (by decide))
 have C:=Jb V (.cells (b,g,f) 150);have pX:=zoS C;have o:=zd B (.cells (b,g,f) 150);clear d t g1 s1 X U u;go_upto_region 4 with fail;have s:=ze a pX;generalize V.heap.size=xb at C ⊢;generalize V.alloc _=W at C pX o s ⊢;clear c0 c1 c2 c3 c4 c5 c6 c7 c8 c9 a3 a4 a5 f2 o2 K B a pX i0 i1 b1 d0;obtain⟨y0,y1,y2,y3,y4,y5,y6,y7,y8,y9,b2,b3,b4⟩:=zeX C;obtain⟨A,v⟩:∃ A,A=(b.state == 1):=⟨_,rfl⟩;have a9:=v.symm;have G:Hid (A=true↔b.state=1):=by rw[v];exact beq_iff_eq
 clear v;obtain⟨D,z⟩:∃ D,D=decide (zez b):=⟨_,rfl⟩;have F:Hid (D=true↔zez b):=by rw[z];exact decide_eq_true_iff
 have cl:=zft b g f W;rw[← z] at cl;clear z;go_wp2_with fail;refine cl.mono ?_;clear cl;rintro e w4 ⟨rfl,i⟩;have L:=zb C i;have r:=zb o i;have a0:=hI (ze s i);clear y0 y1 y2 y3 y4 y5 y6 y7 y8 y9 b2 b3 b4 C o s i a9;have b7:=za L 11 _ rfl;have o0:=za r 0 _ rfl;have b6:=za r 11 _ rfl;obtain⟨Y,a6⟩:∃ k,(y.kind == 4)=k:=⟨_,rfl⟩;obtain⟨Z,a7⟩:∃ k,(y.kind == 8)=k:=⟨_,rfl⟩;obtain⟨un,b0⟩:∃ k,decide (y.now<=b.unt)=k:=⟨_,rfl⟩;have HQ:Hid ((!D || (Y && !A) || (Z && (!A || un)))=true↔zbG b y):=by
  show _↔_
  have e4:Y=true↔y.kind=4:=by rw[← a6];exact beq_iff_eq
  have e8:Z=true↔y.kind=8:=by rw[← a7];exact beq_iff_eq
  have eu:un=true↔y.now<=b.unt:=by rw[← b0];exact decide_eq_true_iff
  have el:=F.out;have es:=G.out;unfold zbG;rw[← el,← e4,← e8,← eu,Ne,← es]
  cases D <;> cases Y <;> cases Z <;> cases A <;> cases un <;> simp
 clear L r F G;have HX:=hI (j _ HQ);clear HQ j
 cases D <;> cases Y <;> cases Z <;> cases A <;> cases un
 all_goals
  go_wp2;go_ret;exact⟨⟨_,rfl,HX⟩,a0⟩
end Go.Proofs.YtmdnjgihooflfaaGreatDoor
