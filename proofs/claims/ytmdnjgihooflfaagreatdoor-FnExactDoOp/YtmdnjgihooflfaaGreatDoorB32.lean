/-
  OWN TEXT: AsI, AsJ, BookI, JustI, DeckI, RoomsI0, OffI.
-/
import Derived.Test.YtmdnjgihooflfaaGreatDoorChecked
import Derived.LaidEql
import Derived.Stop.Asserts
import Derived.RowKitTokens
import Derived.Shelf.Abstract
import Derived.Deep.LoopGhost
import Derived.Deep.DeepCutAuto
import Derived.Deep.RegionHeld3
import Derived.Test.YtmdnjgihooflfaaGreatDoorB24
namespace Go.Proofs.YtmdnjgihooflfaaGreatDoor
open Go.RowKit
open Go.Value (int)
open Go.IntKind (i64)
set_option maxHeartbeats 64000000
set_option maxRecDepth 100000
section
open Go.RowKit Go.Extern.Stop Go.Stop Go.Extern
theorem Tryz.asValP (t:Addr)(w:World):(ReflectliteValue.unpack (.iface 98 (.pointer (some t)))).run Tryz.prog w
  = .ok (.agg #[.pointer (some ⟨12,98,none⟩),.pointer (some ⟨w.heap.size,0,none⟩),.int .u64 150]) (w.alloc (.cells #[.pointer (some t)] 98)):=by kernel_rfl
theorem Tryz.asTypeP (a : Addr) (w : World) : (ReflectliteValue.methodAny (ReflectliteValue.valueError "reflectlite.Value.Type" 0) (fun t _ _ _ => ReflectliteType.toType t) #[.agg #[.pointer (some ⟨12, 98, none⟩), .pointer (some a), .int .u64 150]]).run Tryz.prog w
  = .ok (.iface 284 (.agg #[.pointer (some ⟨12,98,none⟩)])) w:=by kernel_rfl
theorem Tryz.asMKind (h : Value) (w : World) : (Go.method 525 284 (.agg #[h]) "Kind").run Tryz.prog w = .ok (314, h) w := by kernel_rfl
theorem Tryz.asKindP (w:World):((ReflectliteType.abiMethod fun t=>(fun a:Nat=>Value.int IntKind.u8 (a:Int)) <$> Rtype.kind t) #[.pointer (some ⟨12,98,none⟩)]).run Tryz.prog w=.ok (.int .u8 22) w:=by kernel_rfl
theorem Tryz.asKindR (w:World):((ReflectliteType.abiMethod fun t=>(fun a:Nat=>Value.int IntKind.u8 (a:Int)) <$> Rtype.kind t) #[.pointer (some ⟨12,96,none⟩)]).run Tryz.prog w=.ok (.int .u8 25) w:=by kernel_rfl
theorem Tryz.asParts (a:Addr)(w:World):(ReflectliteValue.parts (.agg #[.pointer (some ⟨12,98,none⟩),.pointer (some a),.int .u64 150])).run Tryz.prog w=.ok (some (98,a,150)) w:=by kernel_rfl
theorem rlm (z:Sem Value)(f:TypeId->Addr->Nat->Nat->Sem Value)(v:Value) :
  ReflectliteValue.method z f #[v]=(do match ← ReflectliteValue.parts v with|none=>z|some (t,a,fl)=>f t a fl (fl % 32)):=rfl
theorem Tryz.asIsNil (a p:Addr)(W:World)(b:W.cell? a=some (.pointer (some p))) :
  (ReflectliteValue.method (ReflectliteValue.valueError "reflectlite.Value.IsNil" 0) ReflectliteValue.isNil #[.agg #[.pointer (some ⟨12, 98, none⟩), .pointer (some a), .int .u64 150]]).run Tryz.prog W = .ok (.bool false) W := by
 rw[rlm];simp only[Sem.run_bind,Tryz.asParts,Result.andThen];simp[ReflectliteValue.isNil,loadVar,isAgg,underlying,Tryz.underlying98,b,Result.andThen]
theorem Tryz.asMElem (h : Value) (w : World) : (Go.method 525 284 (.agg #[h]) "Elem").run Tryz.prog w = .ok (328, .agg #[h]) w := by kernel_rfl
theorem Tryz.asMImplements (h : Value) (w : World) : (Go.method 525 284 (.agg #[h]) "Implements").run Tryz.prog w = .ok (329, .agg #[h]) w := by kernel_rfl
theorem Tryz.asMAssignable (h : Value) (w : World) : (Go.method 525 284 (.agg #[h]) "AssignableTo").run Tryz.prog w = .ok (326, .agg #[h]) w := by kernel_rfl
theorem Tryz.asElemT (w:World):(ReflectliteType.method ReflectliteType.elem #[.agg #[.pointer (some ⟨12,98,none⟩)]]).run Tryz.prog w=.ok (.iface 284 (.agg #[.pointer (some ⟨12,96,none⟩)])) w:=by kernel_rfl
theorem Tryz.asImplements (w : World) : (ReflectliteType.relation "Implements" ReflectliteType.implements_ #[.agg #[.pointer (some ⟨12, 96, none⟩)], .iface 284 (.agg #[.pointer (some ⟨12, 92, none⟩)])]).run Tryz.prog w = .ok (.bool true) w := by kernel_rfl
theorem Tryz.asTypeOf (v:Value)(w:World):(ReflectliteType.typeOf #[.iface 96 v]).run Tryz.prog w=.ok (.iface 284 (.agg #[.pointer (some ⟨12,96,none⟩)])) w:=by kernel_rfl
theorem Tryz.asAssignable (w : World) : (ReflectliteType.relation "AssignableTo" ReflectliteType.assignableTo #[.agg #[.pointer (some ⟨12, 96, none⟩)], .iface 284 (.agg #[.pointer (some ⟨12, 96, none⟩)])]).run Tryz.prog w = .ok (.bool true) w := by kernel_rfl
theorem Tryz.asValR (a:Value)(w:World):(ReflectliteValue.unpack (.iface 96 (.agg #[a]))).run Tryz.prog w
  = .ok (.agg #[.pointer (some ⟨12,96,none⟩),.pointer (some ⟨w.heap.size,0,none⟩),.int .u64 153]) (w.alloc (.cells #[a] 96)):=by kernel_rfl
theorem Tryz.asElemOf (w:World):(Rtype.elem? 98).run Tryz.prog w=.ok (some 96) w:=by kernel_rfl
theorem Tryz.asMk (p:Addr)(w:World):(ReflectliteValue.mk 96 p ReflectliteValue.flagAddr).run Tryz.prog w=.ok (.agg #[.pointer (some ⟨12,96,none⟩),.pointer (some p),.int .u64 409]) w:=by kernel_rfl
theorem Tryz.asElemV (a p:Addr)(W:World)(b:W.cell? a=some (.pointer (some p))) :
  (ReflectliteValue.method (ReflectliteValue.valueError "reflectlite.Value.Elem" 0) ReflectliteValue.elem #[.agg #[.pointer (some ⟨12, 98, none⟩), .pointer (some a), .int .u64 150]]).run Tryz.prog W
   = .ok (.agg #[.pointer (some ⟨12,96,none⟩),.pointer (some p),.int .u64 409]) W:=by
 rw[rlm];simp only[Sem.run_bind,Tryz.asParts,Result.andThen];simp[ReflectliteValue.elem,loadVar,isAgg,underlying,Tryz.underlying98,b,Result.andThen,Tryz.asElemOf,Tryz.asMk]
end
section
open Go.RowKit Go.Extern.Stop Go.Stop Go.Extern
theorem rls (v x:Value):ReflectliteValue.set #[v,x]=(do
  let (some (dst,a,fl),some (src,b,_)):=(← ReflectliteValue.parts v,← ReflectliteValue.parts x)
   | unsupported (.noEntry "extern/(internal/reflectlite.Value).Set.zeroValue")
  if fl / ReflectliteValue.flagAddr % 2 == 0 then unsupported (.noEntry "extern/(internal/reflectlite.Value).Set.unaddressable")
  let val ← loadVar src b
  if ← Rtype.directlyAssignable dst src then storeVar dst a val
  else if ← Rtype.implements dst src then
   if (← Rtype.kind src) == 20 then
    match val with
    | .nilIface => unsupported (.noEntry "extern/reflectlite: a nil value of one interface type handed on as a value of another")
    | _=>storeVar dst a val
   else storeVar dst a (.iface src val)
  else panicString ("reflectlite.Set: value of type " ++ (← Rtype.spelt src) ++ " is not assignable to type " ++ (← Rtype.spelt dst))
  pure (.tuple #[])):=rfl
theorem Tryz.asPartsA (a:Addr)(w:World):(ReflectliteValue.parts (.agg #[.pointer (some ⟨12,96,none⟩),.pointer (some a),.int .u64 409])).run Tryz.prog w=.ok (some (96,a,409)) w:=by kernel_rfl
theorem Tryz.asPartsR (a:Addr)(w:World):(ReflectliteValue.parts (.agg #[.pointer (some ⟨12,96,none⟩),.pointer (some a),.int .u64 153])).run Tryz.prog w=.ok (some (96,a,153)) w:=by kernel_rfl
theorem Tryz.asDirect (w:World):(Rtype.directlyAssignable 96 96).run Tryz.prog w=.ok true w:=by kernel_rfl
theorem Tryz.asSet (c b:Addr)(a d:Value)(W:World)(h1:a.oneCell'=true)(e:W.cell? b=some a)(g:W.cell? c=some d)(f:W.frozen? c=false) :
  (ReflectliteValue.set #[.agg #[.pointer (some ⟨12,96,none⟩),.pointer (some c),.int .u64 409],.agg #[.pointer (some ⟨12,96,none⟩),.pointer (some b),.int .u64 153]]).run Tryz.prog W
   = .ok (.tuple #[]) (W.setCell c a):=by
 rw[rls];simp only[Sem.run_bind,Tryz.asPartsA,Tryz.asPartsR,Result.andThen];simp[ReflectliteValue.flagAddr,loadVar,loadCells,loadCellsFrom,e,Result.andThen,Tryz.asDirect,storeVar,Value.cells,storeCells,Addr.add];rw[run_store Tryz.prog W c _ _ h1];simp[g,f]
theorem as_hit (a:Value)(t:Addr)(d:Value)(w:World)(h1:a.oneCell'=true)(g:w.cell? ⟨0,0,none⟩=some (.iface 284 (.agg #[.pointer (some ⟨12,92,none⟩)])))(b:w.cell? t=some d)(e:w.frozen? t=false) :
  Calls Tryz.prog 55 #[.iface 96 (.agg #[a]),.iface 98 (.pointer (some t))] w fun i w'=>i=.returned (.bool true)/\w'=((((w.alloc (.cells #[.pointer (some t)] 98)).alloc (.cells #[.pointer (some ⟨12,98,none⟩),.pointer (some ⟨w.heap.size,0,none⟩),.int .u64 150] 186)).alloc (.cells #[.pointer (some ⟨12,98,none⟩),.pointer (some ⟨w.heap.size,0,none⟩),.int .u64 150] 186)).alloc (.cells #[a] 96)).setCell t a:=by
 have h6:=@run_callFunc_extern Tryz.prog 118 _ (fun args=>ReflectliteValue.unpack (args.getD 0 (.tuple #[]))) Tryz.func118 (by kernel_rfl) (by kernel_rfl) (by kernel_rfl) (by kernel_rfl)
 have h7 := @run_callFunc_extern Tryz.prog 119 _ (ReflectliteValue.methodAny (ReflectliteValue.valueError "reflectlite.Value.Type" 0) (fun t _ _ _ => ReflectliteType.toType t)) Tryz.func119 (by kernel_rfl) (by kernel_rfl) (by kernel_rfl) (by kernel_rfl)
 have h8 := @run_callFunc_extern Tryz.prog 120 _ (ReflectliteValue.method (ReflectliteValue.valueError "reflectlite.Value.IsNil" 0) ReflectliteValue.isNil) Tryz.func120 (by kernel_rfl) (by kernel_rfl) (by kernel_rfl) (by kernel_rfl)
 have m:=@run_callFunc_extern Tryz.prog 314 _ (ReflectliteType.abiMethod fun t=>do pure (.int .u8 (← Rtype.kind t))) Tryz.func314 (by kernel_rfl) (by kernel_rfl) (by kernel_rfl) (by kernel_rfl)
 have n:=@run_callFunc_extern Tryz.prog 328 _ (ReflectliteType.method ReflectliteType.elem) Tryz.func328 (by kernel_rfl) (by kernel_rfl) (by kernel_rfl) (by kernel_rfl)
 have h38 := @run_callFunc_extern Tryz.prog 329 _ (ReflectliteType.relation "Implements" ReflectliteType.implements_) Tryz.func329 (by kernel_rfl) (by kernel_rfl) (by kernel_rfl) (by kernel_rfl)
 have k:=@run_callFunc_extern Tryz.prog 213 _ ReflectliteType.typeOf Tryz.func213 (by kernel_rfl) (by kernel_rfl) (by kernel_rfl) (by kernel_rfl)
 have h35 := @run_callFunc_extern Tryz.prog 326 _ (ReflectliteType.relation "AssignableTo" ReflectliteType.assignableTo) Tryz.func326 (by kernel_rfl) (by kernel_rfl) (by kernel_rfl) (by kernel_rfl)
 have h11 := @run_callFunc_extern Tryz.prog 214 _ (ReflectliteValue.method (ReflectliteValue.valueError "reflectlite.Value.Elem" 0) ReflectliteValue.elem) Tryz.func214 (by kernel_rfl) (by kernel_rfl) (by kernel_rfl) (by kernel_rfl)
 have l:=@run_callFunc_extern Tryz.prog 215 _ ReflectliteValue.set Tryz.func215 (by kernel_rfl) (by kernel_rfl) (by kernel_rfl) (by kernel_rfl)
 have tO:=Tryz.asTypeOf;have mA:=Tryz.asMAssignable;have aR:=Tryz.asAssignable;have vR:=Tryz.asValR;have f6:=Tryz.asValP;have f7:=Tryz.asTypeP;have mK:=Tryz.asMKind;have mE:=Tryz.asMElem;have mI:=Tryz.asMImplements;have kP:=Tryz.asKindP;have kR:=Tryz.asKindR;have eP:=Tryz.asElemT;have iR:=Tryz.asImplements;have n8:=Tryz.asIsNil ⟨w.heap.size,0,none⟩ t ((w.alloc (.cells #[.pointer (some t)] 98)).alloc (.cells #[.pointer (some ⟨12,98,none⟩),.pointer (some ⟨w.heap.size,0,none⟩),.int .u64 150] 186)) (by simp)
 have f:0<w.heap.size:=by
  rcases Nat.eq_zero_or_pos w.heap.size with j|h
  ·simp[World.cell?,j] at g
  ·exact h
 have o:((w.alloc (.cells #[.pointer (some t)] 98)).alloc (.cells #[.pointer (some ⟨12,98,none⟩),.pointer (some ⟨w.heap.size,0,none⟩),.int .u64 150] 186)).cell? ⟨0,0,none⟩=some (.iface 284 (.agg #[.pointer (some ⟨12,92,none⟩)])):=by
  rw[World.cell?_alloc_lt _ _ ⟨0,0,none⟩ (by simp),World.cell?_alloc_lt _ _ ⟨0,0,none⟩ f];exact g
 have c:t.block<w.heap.size:=by
  rcases Nat.lt_or_ge t.block w.heap.size with h|h
  ·exact h
  ·simp[World.cell?,Array.getElem?_eq_none h] at b
 have el:=Tryz.asElemV ⟨w.heap.size,0,none⟩ t (((w.alloc (.cells #[.pointer (some t)] 98)).alloc (.cells #[.pointer (some ⟨12,98,none⟩),.pointer (some ⟨w.heap.size,0,none⟩),.int .u64 150] 186)).alloc (.cells #[.pointer (some ⟨12,98,none⟩),.pointer (some ⟨w.heap.size,0,none⟩),.int .u64 150] 186)) (by rw[World.cell?_alloc_lt _ _ ⟨w.heap.size,0,none⟩ (by simp;omega)];simp)
 have st:=Tryz.asSet t ⟨w.heap.size+1+1+1,0,none⟩ a d ((((w.alloc (.cells #[.pointer (some t)] 98)).alloc (.cells #[.pointer (some ⟨12,98,none⟩),.pointer (some ⟨w.heap.size,0,none⟩),.int .u64 150] 186)).alloc (.cells #[.pointer (some ⟨12,98,none⟩),.pointer (some ⟨w.heap.size,0,none⟩),.int .u64 150] 186)).alloc (.cells #[a] 96)) h1
  (by rw[World.cell?_alloc_at _ _ _ _ (by simp)];rfl)
  (by rw[World.cell?_alloc_lt _ _ t (by simp;omega),World.cell?_alloc_lt _ _ t (by simp;omega),World.cell?_alloc_lt _ _ t (by simp;omega),World.cell?_alloc_lt _ _ t c];exact b)
  (by rw[World.frozen?_alloc_old _ _ t (by simp;omega),World.frozen?_alloc_old _ _ t (by simp;omega),World.frozen?_alloc_old _ _ t (by simp;omega),World.frozen?_alloc_old _ _ t (Nat.ne_of_lt c)];exact e)
 go_enter Tryz.func55,Tryz.ntmps55;go_wp2;refine wp_loop_rounds 1 ?_;rw[rounds_succ];go_wp2;go_ret;exact⟨rfl,rfl⟩
end
theorem Qo (x:Int)(w:World) :
  Calls Tryz.prog 242 #[int i64 x] w fun e w'=>e=.returned (.bool (decide (In x 0 10000)))/\w'=w:=by
 go_enter Tryz.func242,Tryz.ntmps242;go_wp2_with (first|(go_at_call 191;refine(zz _ _ _ _).mono ?_;rintro e w' ⟨rfl,rfl⟩))
 go_ret;exact⟨rfl,rfl⟩
theorem zN (a b c:Bool)(w:World) :
  Calls Tryz.prog 241 #[.bool a,.bool b,.bool c] w fun e w'=>e=.returned (.bool (if a then b else c))/\w'=w:=by
 cases a with
 | true =>
  go_enter Tryz.func241,Tryz.ntmps241;go_wp2;go_ret;exact⟨rfl,rfl⟩
 | false =>
  go_enter Tryz.func241,Tryz.ntmps241;go_wp2;go_ret;exact⟨rfl,rfl⟩
def zlk (S:Nat->ql)(j:Nat):Int:=(S j).who
theorem zfK (b:ql)(c:Option Addr)(d:Nat)(x:Int)(a:Nat)(w:World)(h:w.cell? ⟨a,0,none⟩=some (int i64 x)) :
  Calls Tryz.prog 104 #[.agg #[int i64 b.name,int i64 b.who,.string b.own,.slice c b.lgn d,int i64 b.pe,int i64 b.len,int i64 b.hei,int i64 b.cl,.bool b.all,int i64 b.be,int i64 b.state,int i64 b.unt,int i64 b.price],.pointer (some ⟨a,0,none⟩)] w fun e w'=>e=.returned (.bool (b.who == x))/\Below w.heap.size w w':=by
 have f:=World.block_lt_of_cell? w _ h;have g:¬ a=w.heap.size:=by have:a<w.heap.size:=f;omega
 go_enter Tryz.func104,Tryz.ntmps104;go_wp2;go_ret;exact⟨rfl,zk bZ _⟩
theorem zjk (B:Option Addr)(n c:Nat)(S:Nat->ql)(x:Int)(r:Nat)(w:World)(hn:n<=1048576)(M:qO w B n S)(y:w.cell? ⟨r,0,none⟩=some (int i64 x)) :
  Calls Tryz.prog 192 #[.slice B n c,.func (.func 104) #[] #[.pointer (some ⟨r,0,none⟩)]] w fun e w'=>e=.returned (int i64 (Zv (zlk S) x n))/\Below w.heap.size w w':=by
 have v:=World.block_lt_of_cell? w _ y;obtain⟨C,D,hI⟩:=M;have E:=hI D;have G:=hI hI;clear D hI;go_enter Tryz.func192,Tryz.ntmps192;go_wp2;go_loopw [5,8] (fun _ i wr=>∃ k:Nat,k<=n/\i=int i64 k/\(∀ j,j<k->zlk S j≠x)/\Below w.heap.size w wr) (fun _ i _=>n - (intOf i).toNat)
 case atStart=>exact⟨0,Nat.zero_le _,rfl,fun j L=>by omega,bZ⟩
 case round =>
  obtain⟨k,hk,rfl,l,a⟩:=hrel;have s:=hI l;clear l
  by_cases hlt2:k<n
  ·obtain⟨bb,bo,rfl,g⟩:=E.out k hlt2
   obtain⟨m,o,f,_,_⟩:=G.out k hlt2;obtain⟨b,u⟩:∃ b,b=S k:=⟨_,rfl⟩;rw[← u] at f;have z:=hI u;have d:bb<w.heap.size:=World.block_lt_of_cell? w _ (g 0 (by decide))
   have c0:wr.cell? ⟨bb,bo+k*13,none⟩=some (int i64 b.name):=(a.cell (p:=⟨bb,bo+k*13,none⟩) d).trans (by have:=g 0 (by decide);rw[f] at this;exact this)
   have c1:wr.cell? ⟨bb,bo+k*13+1,none⟩=some (int i64 b.who):=(a.cell (p:=⟨bb,bo+k*13+1,none⟩) d).trans (by have:=g 1 (by decide);rw[f] at this;exact this)
   have c2:wr.cell? ⟨bb,bo+k*13+2,none⟩=some (.string b.own):=(a.cell (p:=⟨bb,bo+k*13+2,none⟩) d).trans (by have:=g 2 (by decide);rw[f] at this;exact this)
   have c3:wr.cell? ⟨bb,bo+k*13+3,none⟩=some (.slice m b.lgn o):=(a.cell (p:=⟨bb,bo+k*13+3,none⟩) d).trans (by have:=g 3 (by decide);rw[f] at this;exact this)
   have c4:wr.cell? ⟨bb,bo+k*13+4,none⟩=some (int i64 b.pe):=(a.cell (p:=⟨bb,bo+k*13+4,none⟩) d).trans (by have:=g 4 (by decide);rw[f] at this;exact this)
   have c5:wr.cell? ⟨bb,bo+k*13+5,none⟩=some (int i64 b.len):=(a.cell (p:=⟨bb,bo+k*13+5,none⟩) d).trans (by have:=g 5 (by decide);rw[f] at this;exact this)
   have c6:wr.cell? ⟨bb,bo+k*13+6,none⟩=some (int i64 b.hei):=(a.cell (p:=⟨bb,bo+k*13+6,none⟩) d).trans (by have:=g 6 (by decide);rw[f] at this;exact this)
   have c7:wr.cell? ⟨bb,bo+k*13+7,none⟩=some (int i64 b.cl):=(a.cell (p:=⟨bb,bo+k*13+7,none⟩) d).trans (by have:=g 7 (by decide);rw[f] at this;exact this)
   have c8:wr.cell? ⟨bb,bo+k*13+8,none⟩=some (.bool b.all):=(a.cell (p:=⟨bb,bo+k*13+8,none⟩) d).trans (by have:=g 8 (by decide);rw[f] at this;exact this)
   have c9:wr.cell? ⟨bb,bo+k*13+9,none⟩=some (int i64 b.be):=(a.cell (p:=⟨bb,bo+k*13+9,none⟩) d).trans (by have:=g 9 (by decide);rw[f] at this;exact this)
   have H:wr.cell? ⟨bb,bo+k*13+10,none⟩=some (int i64 b.state):=(a.cell (p:=⟨bb,bo+k*13+10,none⟩) d).trans (by have:=g 10 (by decide);rw[f] at this;exact this)
   have I:wr.cell? ⟨bb,bo+k*13+11,none⟩=some (int i64 b.unt):=(a.cell (p:=⟨bb,bo+k*13+11,none⟩) d).trans (by have:=g 11 (by decide);rw[f] at this;exact this)
   have J:wr.cell? ⟨bb,bo+k*13+12,none⟩=some (int i64 b.price):=(a.cell (p:=⟨bb,bo+k*13+12,none⟩) d).trans (by have:=g 12 (by decide);rw[f] at this;exact this)
   have A:Hid (wr.cell? ⟨r,0,none⟩=some (int i64 x)):=(a.cell (p:=⟨r,0,none⟩) v).trans y;clear g f u y
   by_cases h:zlk S k=x
   ·have K:(b.who == x)=true:=by have h:=h;unfold zlk at h;rw[← z.out] at h;simpa using h
    have t:Hid (Zv (zlk S) x n=k):=by
     have:zaj (zlk S) x n=k:=zfe hlt2 h s.out;unfold Zv Hid;rw[this,if_pos hlt2]
    clear h;go_wp2_with (first|(go_at_call 104;refine(zfK b m o x r _ A.out).mono ?_;rintro e N ⟨rfl,q⟩))
    go_ret;exact⟨by rw[t.out];rfl,ze a q⟩
   ·have K:(b.who == x)=false:=by have h:=h;unfold zlk at h;rw[← z.out] at h;simpa using h
    have F:=hI h;clear h;go_wp2_with (first|(go_at_call 104;refine(zfK b m o x r _ A.out).mono ?_;rintro e N ⟨rfl,q⟩))
    go_roundw
    case rel=>exact⟨k+1,by omega,by go_num,fun j L=>by
     by_cases e:j=k
     ·subst e;exact F.out
     ·exact s.out j (by omega),ze a q⟩
    case measure=>simp[intOf];omega
  ·obtain rfl:k=n:=by omega
   have t:=hI (zbM (zdp s.out));go_wp2;go_ret;exact⟨by rw[t.out];rfl,a⟩
theorem zml (f:Option Addr)(n c:Nat)(S:Nat->ql)(x:Int)(g:Nat)(w:World)(j:n<=1048576)(l:qO w f n S)(k:w.cell? ⟨g,0,none⟩=some (int i64 x)) :
  Calls Tryz.prog 103 #[.slice f n c,.func (.func 104) #[] #[.pointer (some ⟨g,0,none⟩)]] w fun e w'=>qX (Has (zlk S) n x) e/\Below w.heap.size w w':=by
 obtain⟨r,hr⟩:∃ r,r=Zv (zlk S) x n:=⟨_,rfl⟩;have d:=hI hr;clear hr;go_enter Tryz.func103,Tryz.ntmps103;go_wp2_with fail;refine(zjk f n c S x g _ j l k).mono ?_;rw[← d.out];rintro e w1 ⟨rfl,a⟩
 by_cases h:Has (zlk S) n x
 ·have i:decide (0<=r)=true:=by rw[d.out];unfold Zv;rw[if_pos ((zdo _ _ _).1 h)];simp
  have b:=hI h;clear h;go_wp2;go_ret;exact⟨zR b.out,a⟩
 ·have i:decide (0<=r)=false:=by rw[d.out,zbM h];rfl
  have b:=hI h;clear h;go_wp2;go_ret;exact⟨zl b.out,a⟩
theorem zcZ (i:Option Addr)(n c:Nat)(S:Nat->ql)(x:Int)(w:World)(s:n<=1048576)(z:qO w i n S) :
  Calls Tryz.prog 50 #[.slice i n c,int i64 x] w fun e w'=>qX (In x 1 9999/\¬ Has (zlk S) n x) e/\Below w.heap.size w w':=by
 have a:Below w.heap.size w (w.alloc (.cells #[int i64 x] 3)):=zk bZ _;have q:=hI (z.below a);have y:=za (heap_alloc_new w (.cells #[int i64 x] 3)) 0 _ rfl;have r:∀ (m:Fn) (first d:Array Value) (w:World),(Instr.makeFunc m first d).run Tryz.prog w=.ok (.func m first d) w:=fun _ _ _ _=>rfl
 go_enter Tryz.func50,Tryz.ntmps50;go_wp2_with fail;obtain⟨t,j⟩:∃ t,t=decide (In x 1 9999):=⟨_,rfl⟩;refine(Qg _ _).mono ?_;rw[← j];have g:Hid (t=true↔In x 1 9999):=by show t=true↔In x 1 9999;rw[j,decide_eq_true_eq]
 clear j;rintro e v ⟨rfl,k⟩;have k:=k.symm;subst k
 cases t with
 | false =>
  have b:Hid (¬ (In x 1 9999/\¬ Has (zlk S) n x)):=fun h=>by have:=g.out.2 h.1;cases this
  go_wp2;go_ret;exact⟨zl b.out,a⟩
 | true =>
  have p:Hid (In x 1 9999):=g.out.1 rfl;clear g;go_wp2_with fail;refine(zml i n c S x _ _ s q.out y).mono ?_;rintro e w1 ⟨⟨u,rfl,o⟩,f⟩;have l:=hI o;clear o
  cases u with
  | true =>
   have b:Hid (¬ (In x 1 9999/\¬ Has (zlk S) n x)):=fun h=>h.2 (l.out.1 rfl)
   go_wp2;go_ret;exact⟨zl b.out,ze a f⟩
  | false =>
   have b:Hid (In x 1 9999/\¬ Has (zlk S) n x):=⟨p.out,fun h=>by have:=l.out.2 h;cases this⟩
   go_wp2;go_ret;exact⟨zR b.out,ze a f⟩
def zhH (N:Nat)(S:Nat->Zj)(b:ql):Prop:=Zg b.own/\zad N S b.lgn b.lg/\qI b.p/\In b.state 1 4/\zaA b/\In b.price 0 1000000
theorem zdB (N:Nat)(S:Nat->Zj)(o:Option Addr)(q:Nat)(b:ql)(k:Option Addr)(l:Nat)(w:World)(C:N<=1048576)(V:QL N S 1048576)(G:ql.Short b 1048576)(D:QJ N S)(X:qB w o N S)(Y:zT w k b.lgn b.lg) :
  Calls Tryz.prog 181 #[.slice o N q,.agg #[int i64 b.name,int i64 b.who,.string b.own,.slice k b.lgn l,int i64 b.pe,int i64 b.len,int i64 b.hei,int i64 b.cl,.bool b.all,int i64 b.be,int i64 b.state,int i64 b.unt,int i64 b.price]] w fun e w'=>qX (zhH N S b) e/\Below w.heap.size w w':=by
 have t:=hI X;have s:=hI Y;have u:=hI V;have i:=hI G;have F:=hI D;clear X Y V G D;obtain⟨K,J⟩:∃ K,K=decide (b.state=1∨b.state=4):=⟨_,rfl⟩;obtain⟨T,D⟩:∃ T,T=decide (In b.unt 0 10000):=⟨_,rfl⟩;obtain⟨Z,hZ⟩:∃ Z,(b.unt == 0)=Z:=⟨_,rfl⟩;have I:=hI J;have p:=hI D;have U:Hid ((if K then T else Z)=true↔zaA b):=by
  show(if K then T else Z)=true↔zaA b
  unfold zaA
  by_cases c:b.state=1∨b.state=4
  ·rw[J,decide_eq_true c,if_pos rfl,if_pos c,D,decide_eq_true_eq]
  ·rw[J,decide_eq_false c,if_neg (by decide),if_neg c,← hZ,beq_iff_eq]
 clear J D;have d:Below w.heap.size w (w.alloc (.cells #[int i64 b.name,int i64 b.who,.string b.own,.slice k b.lgn l,int i64 b.pe,int i64 b.len,int i64 b.hei,int i64 b.cl,.bool b.all,int i64 b.be,int i64 b.state,int i64 b.unt,int i64 b.price] 150)):=zk bZ _;have n:=heap_alloc_new w (.cells #[int i64 b.name,int i64 b.who,.string b.own,.slice k b.lgn l,int i64 b.pe,int i64 b.len,int i64 b.hei,int i64 b.cl,.bool b.all,int i64 b.be,int i64 b.state,int i64 b.unt,int i64 b.price] 150);go_enter Tryz.func181,Tryz.ntmps181;go_upto_region 1 with fail;generalize hBx:w.heap.size=r at n ⊢;generalize w.alloc (.cells #[int i64 b.name,int i64 b.who,.string b.own,.slice k b.lgn l,int i64 b.pe,int i64 b.len,int i64 b.hei,int i64 b.cl,.bool b.all,int i64 b.be,int i64 b.state,int i64 b.unt,int i64 b.price] 150)=W at d n ⊢;have R:=za n 10 _ rfl;go_cut [5] (fun v wx=>v=.bool K/\wx=W)
 case first =>
  by_cases s1:b.state=1
  ·have e1:(b.state == 1)=true:=by simpa using s1
   have x:Hid (K=true):=by show K=true;rw[I.out];exact decide_eq_true (.inl s1)
   clear s1;go_wp2;go_meet;exact⟨by rw[x.out],rfl⟩
  ·have e1:(b.state == 1)=false:=by simpa using s1
   by_cases s4:b.state=4
   ·have e4:(b.state == 4)=true:=by simpa using s4
    have x:Hid (K=true):=by show K=true;rw[I.out];exact decide_eq_true (.inr s4)
    clear s1 s4;go_wp2;go_meet;exact⟨by rw[x.out],rfl⟩
   ·have e4:(b.state == 4)=false:=by simpa using s4
    have x:Hid (K=false):=by show K=false;rw[I.out];exact decide_eq_false (by intro h;rcases h with h|h;exact s1 h;exact s4 h)
    clear s1 s4;go_wp2;go_meet;exact⟨by rw[x.out],rfl⟩
 case rest =>
 obtain⟨rfl,B⟩:=hcut;have B:=B.symm;subst B;clear R I;have j:r<W.heap.size:=zM n;have z0:∀ g:zn W,g.val.cell? ⟨r,0,none⟩=some (int i64 b.name):=fun g=>(g.bel.cell j).trans (za n 0 _ rfl)
 have z1:∀ g:zn W,g.val.cell? ⟨r,1,none⟩=some (int i64 b.who):=fun g=>(g.bel.cell j).trans (za n 1 _ rfl)
 have z2:∀ g:zn W,g.val.cell? ⟨r,2,none⟩=some (.string b.own):=fun g=>(g.bel.cell j).trans (za n 2 _ rfl)
 have z3:∀ g:zn W,g.val.cell? ⟨r,3,none⟩=some (.slice k b.lgn l):=fun g=>(g.bel.cell j).trans (za n 3 _ rfl)
 have z4:∀ g:zn W,g.val.cell? ⟨r,4,none⟩=some (int i64 b.pe):=fun g=>(g.bel.cell j).trans (za n 4 _ rfl)
 have z5:∀ g:zn W,g.val.cell? ⟨r,5,none⟩=some (int i64 b.len):=fun g=>(g.bel.cell j).trans (za n 5 _ rfl)
 have z6:∀ g:zn W,g.val.cell? ⟨r,6,none⟩=some (int i64 b.hei):=fun g=>(g.bel.cell j).trans (za n 6 _ rfl)
 have z7:∀ g:zn W,g.val.cell? ⟨r,7,none⟩=some (int i64 b.cl):=fun g=>(g.bel.cell j).trans (za n 7 _ rfl)
 have z8:∀ g:zn W,g.val.cell? ⟨r,8,none⟩=some (.bool b.all):=fun g=>(g.bel.cell j).trans (za n 8 _ rfl)
 have z9:∀ g:zn W,g.val.cell? ⟨r,9,none⟩=some (int i64 b.be):=fun g=>(g.bel.cell j).trans (za n 9 _ rfl)
 have a0:∀ g:zn W,g.val.cell? ⟨r,10,none⟩=some (int i64 b.state):=fun g=>(g.bel.cell j).trans (za n 10 _ rfl)
 have a1:∀ g:zn W,g.val.cell? ⟨r,11,none⟩=some (int i64 b.unt):=fun g=>(g.bel.cell j).trans (za n 11 _ rfl)
 have a2:∀ g:zn W,g.val.cell? ⟨r,12,none⟩=some (int i64 b.price):=fun g=>(g.bel.cell j).trans (za n 12 _ rfl)
 clear n hBx;go_upto_region 2 with fail
 by_cases p1:Zg b.own
 case neg =>
  have M:=hI p1;have z:Hid (decide (Zg b.own)=false):=decide_eq_false p1;clear p1;refine zh (by kernel_rfl) (by kernel_rfl) ?_
  repeat(first|go_big_quiet_skip|(go_big_quiet_want;go_big_quiet_op;first|go_big_quiet_on|(apply Exists.intro;refine⟨fun g=>?_,?_⟩;(focus(go_at_call 239;refine zf (v:=.bool false) ((Zi _ _ (by have:=i.out.1;omega)).mono ?_);rintro e f ⟨rfl,rfl⟩;exact⟨by rw[z.out],bZ⟩));go_big_quiet_on)|(apply Exists.intro;refine⟨fun g=>?_,?_⟩;(focus(go_at_call 242;refine zf (v:=.bool T) ((Qo b.unt _).mono ?_);rintro e f ⟨rfl,rfl⟩;exact⟨by rw[p.out],bZ⟩));go_big_quiet_on)))
  refine wpQuiet_nil ?_;rintro _ ⟨g,rfl⟩;go_wp2;go_ret;exact⟨zl (fun h=>M.out (by unfold zhH at h;exact h.1)),ze d g.bel⟩
 have M:=hI p1;have z:Hid (decide (Zg b.own)=true):=decide_eq_true p1;clear p1
 by_cases p2:zad N S b.lgn b.lg
 case neg =>
  have y:=hI p2;clear p2;refine zh (by kernel_rfl) (by kernel_rfl) ?_
  repeat(first|go_big_quiet_skip|(go_big_quiet_want;go_big_quiet_op;first|go_big_quiet_on|(apply Exists.intro;refine⟨fun g=>?_,?_⟩;(focus(go_at_call 239;refine zf (v:=.bool true) ((Zi _ _ (by have:=i.out.1;omega)).mono ?_);rintro e f ⟨rfl,rfl⟩;exact⟨by rw[z.out],bZ⟩));go_big_quiet_on)|(apply Exists.intro;refine⟨fun g=>?_,?_⟩;(focus(go_at_call 195;refine zf (v:=.bool false) ((Q0 o k N b.lgn q l S b.lg _ C i.out.2 u.out (t.out.below (ze d g.bel)) (s.out.below (ze d g.bel))).mono ?_);rintro e f ⟨⟨bb,rfl,m⟩,a⟩;obtain rfl:=Bool.eq_false_iff.2 (fun e=>y.out (m.1 e).2);exact⟨rfl,a⟩));go_big_quiet_on)|(apply Exists.intro;refine⟨fun g=>?_,?_⟩;(focus(go_at_call 242;refine zf (v:=.bool T) ((Qo b.unt _).mono ?_);rintro e f ⟨rfl,rfl⟩;exact⟨by rw[p.out],bZ⟩));go_big_quiet_on)))
  refine wpQuiet_nil ?_;rintro _ ⟨g,rfl⟩;go_wp2;go_ret;exact⟨zl (fun h=>y.out (by unfold zhH at h;exact h.2.1)),ze d g.bel⟩
 have y:=hI p2;clear p2
 by_cases p3:qI b.p
 case neg =>
  have A:=hI p3;clear p3;refine zh (by kernel_rfl) (by kernel_rfl) ?_
  repeat(first|go_big_quiet_skip|(go_big_quiet_want;go_big_quiet_op;first|go_big_quiet_on|(apply Exists.intro;refine⟨fun g=>?_,?_⟩;(focus(go_at_call 239;refine zf (v:=.bool true) ((Zi _ _ (by have:=i.out.1;omega)).mono ?_);rintro e f ⟨rfl,rfl⟩;exact⟨by rw[z.out],bZ⟩));go_big_quiet_on)|(apply Exists.intro;refine⟨fun g=>?_,?_⟩;(focus(go_at_call 195;refine zf (v:=.bool true) ((Q0 o k N b.lgn q l S b.lg _ C i.out.2 u.out (t.out.below (ze d g.bel)) (s.out.below (ze d g.bel))).mono ?_);rintro e f ⟨⟨bb,rfl,m⟩,a⟩;obtain rfl:=m.2 ⟨F.out,y.out⟩;exact⟨rfl,a⟩));go_big_quiet_on)|(apply Exists.intro;refine⟨fun g=>?_,?_⟩;(focus(go_at_call 240;refine zf (v:=.bool false) ((Qw b.pe b.len b.hei b.cl b.all b.be _).mono ?_);rintro e f ⟨⟨bb,rfl,m⟩,a⟩;obtain rfl:=Bool.eq_false_iff.2 (fun e=>A.out (m.1 e));exact⟨rfl,a⟩));go_big_quiet_on)|(apply Exists.intro;refine⟨fun g=>?_,?_⟩;(focus(go_at_call 242;refine zf (v:=.bool T) ((Qo b.unt _).mono ?_);rintro e f ⟨rfl,rfl⟩;exact⟨by rw[p.out],bZ⟩));go_big_quiet_on)))
  refine wpQuiet_nil ?_;rintro _ ⟨g,rfl⟩;go_wp2;go_ret;exact⟨zl (fun h=>A.out (by unfold zhH at h;exact h.2.2.1)),ze d g.bel⟩
 have A:=hI p3;clear p3
 by_cases p4:In b.state 1 4
 case neg =>
  have O:=hI p4;have E:Hid (decide (In b.state 1 4)=false):=decide_eq_false p4;clear p4;refine zh (by kernel_rfl) (by kernel_rfl) ?_
  repeat(first|go_big_quiet_skip|(go_big_quiet_want;go_big_quiet_op;first|go_big_quiet_on|(apply Exists.intro;refine⟨fun g=>?_,?_⟩;(focus(go_at_call 239;refine zf (v:=.bool true) ((Zi _ _ (by have:=i.out.1;omega)).mono ?_);rintro e f ⟨rfl,rfl⟩;exact⟨by rw[z.out],bZ⟩));go_big_quiet_on)|(apply Exists.intro;refine⟨fun g=>?_,?_⟩;(focus(go_at_call 195;refine zf (v:=.bool true) ((Q0 o k N b.lgn q l S b.lg _ C i.out.2 u.out (t.out.below (ze d g.bel)) (s.out.below (ze d g.bel))).mono ?_);rintro e f ⟨⟨bb,rfl,m⟩,a⟩;obtain rfl:=m.2 ⟨F.out,y.out⟩;exact⟨rfl,a⟩));go_big_quiet_on)|(apply Exists.intro;refine⟨fun g=>?_,?_⟩;(focus(go_at_call 240;refine zf (v:=.bool true) ((Qw b.pe b.len b.hei b.cl b.all b.be _).mono ?_);rintro e f ⟨⟨bb,rfl,m⟩,a⟩;obtain rfl:=m.2 A.out;exact⟨rfl,a⟩));go_big_quiet_on)|(apply Exists.intro;refine⟨fun g=>?_,?_⟩;(focus(go_at_call 191;with_reducible refine zf (v:=.bool false) (Calls.mono (zz b.state 1 4 _) ?_);rintro e f ⟨rfl,rfl⟩;exact⟨by rw[E.out],bZ⟩));go_big_quiet_on)|(apply Exists.intro;refine⟨fun g=>?_,?_⟩;(focus(go_at_call 242;refine zf (v:=.bool T) ((Qo b.unt _).mono ?_);rintro e f ⟨rfl,rfl⟩;exact⟨by rw[p.out],bZ⟩));go_big_quiet_on)))
  refine wpQuiet_nil ?_;rintro _ ⟨g,rfl⟩;go_wp2;go_ret;exact⟨zl (fun h=>O.out (by unfold zhH at h;exact h.2.2.2.1)),ze d g.bel⟩
 have O:=hI p4;have E:Hid (decide (In b.state 1 4)=true):=decide_eq_true p4;clear p4
 by_cases p5:zaA b
 case neg =>
  have P:=hI p5;have H:Hid ((if K then T else Z)=false):=Bool.eq_false_iff.2 (fun h=>p5 (U.out.1 h))
  clear p5;refine zh (by kernel_rfl) (by kernel_rfl) ?_
  repeat(first|go_big_quiet_skip|(go_big_quiet_want;go_big_quiet_op;first|go_big_quiet_on|(apply Exists.intro;refine⟨fun g=>?_,?_⟩;(focus(go_at_call 239;refine zf (v:=.bool true) ((Zi _ _ (by have:=i.out.1;omega)).mono ?_);rintro e f ⟨rfl,rfl⟩;exact⟨by rw[z.out],bZ⟩));go_big_quiet_on)|(apply Exists.intro;refine⟨fun g=>?_,?_⟩;(focus(go_at_call 195;refine zf (v:=.bool true) ((Q0 o k N b.lgn q l S b.lg _ C i.out.2 u.out (t.out.below (ze d g.bel)) (s.out.below (ze d g.bel))).mono ?_);rintro e f ⟨⟨bb,rfl,m⟩,a⟩;obtain rfl:=m.2 ⟨F.out,y.out⟩;exact⟨rfl,a⟩));go_big_quiet_on)|(apply Exists.intro;refine⟨fun g=>?_,?_⟩;(focus(go_at_call 240;refine zf (v:=.bool true) ((Qw b.pe b.len b.hei b.cl b.all b.be _).mono ?_);rintro e f ⟨⟨bb,rfl,m⟩,a⟩;obtain rfl:=m.2 A.out;exact⟨rfl,a⟩));go_big_quiet_on)|(apply Exists.intro;refine⟨fun g=>?_,?_⟩;(focus(go_at_call 191;with_reducible refine zf (v:=.bool true) (Calls.mono (zz b.state 1 4 _) ?_);rintro e f ⟨rfl,rfl⟩;exact⟨by rw[E.out],bZ⟩));go_big_quiet_on)|(apply Exists.intro;refine⟨fun g=>?_,?_⟩;(focus(go_at_call 241;refine zf (v:=.bool false) ((zN K T Z _).mono ?_);rintro e f ⟨rfl,rfl⟩;exact⟨by rw[H.out],bZ⟩));go_big_quiet_on)|(apply Exists.intro;refine⟨fun g=>?_,?_⟩;(focus(go_at_call 242;refine zf (v:=.bool T) ((Qo b.unt _).mono ?_);rintro e f ⟨rfl,rfl⟩;exact⟨by rw[p.out],bZ⟩));go_big_quiet_on)))
  refine wpQuiet_nil ?_;rintro _ ⟨g,rfl⟩;go_wp2;go_ret;exact⟨zl (fun h=>P.out (by unfold zhH at h;exact h.2.2.2.2.1)),ze d g.bel⟩
 have P:=hI p5;have H:=hI (U.out.2 p5);clear p5
 by_cases p6:In b.price 0 1000000
 case neg =>
  have Q:=hI p6;have L:Hid (decide (In b.price 0 1000000)=false):=decide_eq_false p6;clear p6;refine zh (by kernel_rfl) (by kernel_rfl) ?_
  repeat(first|go_big_quiet_skip|(go_big_quiet_want;go_big_quiet_op;first|go_big_quiet_on|(apply Exists.intro;refine⟨fun g=>?_,?_⟩;(focus(go_at_call 239;refine zf (v:=.bool true) ((Zi _ _ (by have:=i.out.1;omega)).mono ?_);rintro e f ⟨rfl,rfl⟩;exact⟨by rw[z.out],bZ⟩));go_big_quiet_on)|(apply Exists.intro;refine⟨fun g=>?_,?_⟩;(focus(go_at_call 195;refine zf (v:=.bool true) ((Q0 o k N b.lgn q l S b.lg _ C i.out.2 u.out (t.out.below (ze d g.bel)) (s.out.below (ze d g.bel))).mono ?_);rintro e f ⟨⟨bb,rfl,m⟩,a⟩;obtain rfl:=m.2 ⟨F.out,y.out⟩;exact⟨rfl,a⟩));go_big_quiet_on)|(apply Exists.intro;refine⟨fun g=>?_,?_⟩;(focus(go_at_call 240;refine zf (v:=.bool true) ((Qw b.pe b.len b.hei b.cl b.all b.be _).mono ?_);rintro e f ⟨⟨bb,rfl,m⟩,a⟩;obtain rfl:=m.2 A.out;exact⟨rfl,a⟩));go_big_quiet_on)|(apply Exists.intro;refine⟨fun g=>?_,?_⟩;(focus(go_at_call 191;with_reducible refine zf (v:=.bool true) (Calls.mono (zz b.state 1 4 _) ?_);rintro e f ⟨rfl,rfl⟩;exact⟨by rw[E.out],bZ⟩));go_big_quiet_on)|(apply Exists.intro;refine⟨fun g=>?_,?_⟩;(focus(go_at_call 241;refine zf (v:=.bool true) ((zN K T Z _).mono ?_);rintro e f ⟨rfl,rfl⟩;exact⟨by rw[H.out],bZ⟩));go_big_quiet_on)|(apply Exists.intro;refine⟨fun g=>?_,?_⟩;(focus(go_at_call 191;with_reducible refine zf (v:=.bool false) (Calls.mono (zz b.price 0 1000000 _) ?_);rintro e f ⟨rfl,rfl⟩;exact⟨by rw[L.out],bZ⟩));go_big_quiet_on)|(apply Exists.intro;refine⟨fun g=>?_,?_⟩;(focus(go_at_call 242;refine zf (v:=.bool T) ((Qo b.unt _).mono ?_);rintro e f ⟨rfl,rfl⟩;exact⟨by rw[p.out],bZ⟩));go_big_quiet_on)))
  refine wpQuiet_nil ?_;rintro _ ⟨g,rfl⟩;go_wp2;go_ret;exact⟨zl (fun h=>Q.out (by unfold zhH at h;exact h.2.2.2.2.2)),ze d g.bel⟩
 have Q:=hI p6;have L:Hid (decide (In b.price 0 1000000)=true):=decide_eq_true p6;clear p6;refine zh (by kernel_rfl) (by kernel_rfl) ?_
 repeat(first|go_big_quiet_skip|(go_big_quiet_want;go_big_quiet_op;first|go_big_quiet_on|(apply Exists.intro;refine⟨fun g=>?_,?_⟩;(focus(go_at_call 239;refine zf (v:=.bool true) ((Zi _ _ (by have:=i.out.1;omega)).mono ?_);rintro e f ⟨rfl,rfl⟩;exact⟨by rw[z.out],bZ⟩));go_big_quiet_on)|(apply Exists.intro;refine⟨fun g=>?_,?_⟩;(focus(go_at_call 195;refine zf (v:=.bool true) ((Q0 o k N b.lgn q l S b.lg _ C i.out.2 u.out (t.out.below (ze d g.bel)) (s.out.below (ze d g.bel))).mono ?_);rintro e f ⟨⟨bb,rfl,m⟩,a⟩;obtain rfl:=m.2 ⟨F.out,y.out⟩;exact⟨rfl,a⟩));go_big_quiet_on)|(apply Exists.intro;refine⟨fun g=>?_,?_⟩;(focus(go_at_call 240;refine zf (v:=.bool true) ((Qw b.pe b.len b.hei b.cl b.all b.be _).mono ?_);rintro e f ⟨⟨bb,rfl,m⟩,a⟩;obtain rfl:=m.2 A.out;exact⟨rfl,a⟩));go_big_quiet_on)|(apply Exists.intro;refine⟨fun g=>?_,?_⟩;(focus(go_at_call 191;with_reducible refine zf (v:=.bool true) (Calls.mono (zz b.state 1 4 _) ?_);rintro e f ⟨rfl,rfl⟩;exact⟨by rw[E.out],bZ⟩));go_big_quiet_on)|(apply Exists.intro;refine⟨fun g=>?_,?_⟩;(focus(go_at_call 241;refine zf (v:=.bool true) ((zN K T Z _).mono ?_);rintro e f ⟨rfl,rfl⟩;exact⟨by rw[H.out],bZ⟩));go_big_quiet_on)|(apply Exists.intro;refine⟨fun g=>?_,?_⟩;(focus(go_at_call 191;with_reducible refine zf (v:=.bool true) (Calls.mono (zz b.price 0 1000000 _) ?_);rintro e f ⟨rfl,rfl⟩;exact⟨by rw[L.out],bZ⟩));go_big_quiet_on)|(apply Exists.intro;refine⟨fun g=>?_,?_⟩;(focus(go_at_call 242;refine zf (v:=.bool T) ((Qo b.unt _).mono ?_);rintro e f ⟨rfl,rfl⟩;exact⟨by rw[p.out],bZ⟩));go_big_quiet_on)))
 refine wpQuiet_nil ?_;rintro _ ⟨g,rfl⟩;go_wp2;go_ret;exact⟨zR ⟨M.out,y.out,A.out,O.out,P.out,Q.out⟩,ze d g.bel⟩
theorem zjl (s:Zj)(l:zY)(m:Nat)(B:Nat->ql)(C:Nat->List Value)(d1 a0 a3 a1 a2 f1:Option Addr)(d2 a7 b0 a8 a9 f9:Nat)(w:World)(hm:m<=1048576)(hl:zY.Short l 1048576)
  (e7:∀ j,j<l.ron->0<=(l.ro j).cab/\(l.ro j).cab<s.ca.n) (f2:zG w a0 s.ca) (f5:qw w a3 l.stn l.st) (f3:qp w a1 l.ron l.ro) (f4:qE w a2 l.sen l.se) (hC:QT w f1 m 13 C) (hI:∀ k,k<m->ql.Is w (C k) (B k)) :
  Calls Tryz.prog 100 #[.agg #[int i64 s.id,.string s.fr,.string s.dst,int i64 s.dep,int i64 s.arr,.slice d1 s.la.n d2,.slice a0 s.ca.n a7,int i64 s.most],.agg #[.slice a3 l.stn b0,.slice a1 l.ron a8,.slice a2 l.sen a9],.slice f1 m f9] w fun e w'=>qX (zgV s l m B) e/\Below w.heap.size w w':=by
 have d4:=hI f2;have d8:=hI f5;have d6:=hI f3;have d7:=hI f4;have HC:=hI hC;have HI:=hI hI;have d5:=hI e7;have Z:=hI hl;clear f2 f5 f3 f4 hC hI e7 hl;have o:Below w.heap.size w ((w.alloc (.cells #[int i64 s.id,.string s.fr,.string s.dst,int i64 s.dep,int i64 s.arr,.slice d1 s.la.n d2,.slice a0 s.ca.n a7,int i64 s.most] 140)).alloc (.cells #[.slice a3 l.stn b0,.slice a1 l.ron a8,.slice a2 l.sen a9] 145)):=zk (zk bZ _) _;have bS:((w.alloc (.cells #[int i64 s.id,.string s.fr,.string s.dst,int i64 s.dep,int i64 s.arr,.slice d1 s.la.n d2,.slice a0 s.ca.n a7,int i64 s.most] 140)).alloc (.cells #[.slice a3 l.stn b0,.slice a1 l.ron a8,.slice a2 l.sen a9] 145)).heap[w.heap.size]?=some (.cells #[int i64 s.id,.string s.fr,.string s.dst,int i64 s.dep,int i64 s.arr,.slice d1 s.la.n d2,.slice a0 s.ca.n a7,int i64 s.most] 140 (0,0)):=zd (heap_alloc_new w _) _;have bL:((w.alloc (.cells #[int i64 s.id,.string s.fr,.string s.dst,int i64 s.dep,int i64 s.arr,.slice d1 s.la.n d2,.slice a0 s.ca.n a7,int i64 s.most] 140)).alloc (.cells #[.slice a3 l.stn b0,.slice a1 l.ron a8,.slice a2 l.sen a9] 145)).heap[w.heap.size+1]?=some (.cells #[.slice a3 l.stn b0,.slice a1 l.ron a8,.slice a2 l.sen a9] 145 (0,0)):=by simpa using heap_alloc_new (w.alloc _) _
 go_enter Tryz.func100,Tryz.ntmps100;go_wp2;generalize (w.alloc (.cells #[int i64 s.id,.string s.fr,.string s.dst,int i64 s.dep,int i64 s.arr,.slice d1 s.la.n d2,.slice a0 s.ca.n a7,int i64 s.most] 140)).alloc (.cells #[.slice a3 l.stn b0,.slice a1 l.ron a8,.slice a2 l.sen a9] 145)=V at o bS bL ⊢;have X:=hI bS;have N:=hI bL;clear bS bL;go_loopw [7,8,10,13] (fun n1 n2 _ i wr=>∃ k:Nat,k<=m/\i=int i64 k/\n1=int i64 (cnt (fun j=>¬ zcR (B j)) k:Nat)/\n2=int i64 (cnt (fun j=>¬ zca (B j)) k:Nat)/\(∀ j,j<k->Holds s l (B j))/\Below V.heap.size V wr) (fun _ _ _ i _=>m - (intOf i).toNat)
 case atStart=>exact⟨0,Nat.zero_le _,rfl,rfl,rfl,fun j hj=>by omega,bZ⟩
 case round =>
  obtain⟨k,hk,rfl,rfl,rfl,e6,b1⟩:=hrel;have HA:=hI e6;clear e6;obtain⟨m1,e4⟩:∃ x,x=cnt (fun j=>¬ zcR (B j)) k:=⟨_,rfl⟩
  obtain⟨m2,e5⟩:∃ x,x=cnt (fun j=>¬ zca (B j)) k:=⟨_,rfl⟩
  have l1:m1<=k:=by rw[e4];exact zhT _ _
  have l2:m2<=k:=by rw[e5];exact zhT _ _
  rw[← e4,← e5];have b9:=hI e4;have d0:=hI e5;clear e4 e5
  by_cases hlt2:k<m
  ·have M:=ze o b1
   obtain⟨bb,bo,rfl,hc⟩:=HC.out k hlt2;obtain⟨G,H,eC,_,_⟩:=HI.out k hlt2;obtain⟨b,hb⟩:∃ b,b=B k:=⟨_,rfl⟩;rw[← hb] at eC;have HB:=hI hb;have E:bb<w.heap.size:=World.block_lt_of_cell? w _ (hc 0 (by decide))
   have c0:wr.cell? ⟨bb,bo+k*13,none⟩=some (int i64 b.name):=(M.cell (p:=⟨bb,bo+k*13,none⟩) E).trans (by have:=hc 0 (by decide);rw[eC] at this;exact this)
   have c1:wr.cell? ⟨bb,bo+k*13+1,none⟩=some (int i64 b.who):=(M.cell (p:=⟨bb,bo+k*13+1,none⟩) E).trans (by have:=hc 1 (by decide);rw[eC] at this;exact this)
   have c2:wr.cell? ⟨bb,bo+k*13+2,none⟩=some (.string b.own):=(M.cell (p:=⟨bb,bo+k*13+2,none⟩) E).trans (by have:=hc 2 (by decide);rw[eC] at this;exact this)
   have c3:wr.cell? ⟨bb,bo+k*13+3,none⟩=some (.slice G b.lgn H):=(M.cell (p:=⟨bb,bo+k*13+3,none⟩) E).trans (by have:=hc 3 (by decide);rw[eC] at this;exact this)
   have c4:wr.cell? ⟨bb,bo+k*13+4,none⟩=some (int i64 b.pe):=(M.cell (p:=⟨bb,bo+k*13+4,none⟩) E).trans (by have:=hc 4 (by decide);rw[eC] at this;exact this)
   have c5:wr.cell? ⟨bb,bo+k*13+5,none⟩=some (int i64 b.len):=(M.cell (p:=⟨bb,bo+k*13+5,none⟩) E).trans (by have:=hc 5 (by decide);rw[eC] at this;exact this)
   have c6:wr.cell? ⟨bb,bo+k*13+6,none⟩=some (int i64 b.hei):=(M.cell (p:=⟨bb,bo+k*13+6,none⟩) E).trans (by have:=hc 6 (by decide);rw[eC] at this;exact this)
   have c7:wr.cell? ⟨bb,bo+k*13+7,none⟩=some (int i64 b.cl):=(M.cell (p:=⟨bb,bo+k*13+7,none⟩) E).trans (by have:=hc 7 (by decide);rw[eC] at this;exact this)
   have c8:wr.cell? ⟨bb,bo+k*13+8,none⟩=some (.bool b.all):=(M.cell (p:=⟨bb,bo+k*13+8,none⟩) E).trans (by have:=hc 8 (by decide);rw[eC] at this;exact this)
   have c9:wr.cell? ⟨bb,bo+k*13+9,none⟩=some (int i64 b.be):=(M.cell (p:=⟨bb,bo+k*13+9,none⟩) E).trans (by have:=hc 9 (by decide);rw[eC] at this;exact this)
   have f6:wr.cell? ⟨bb,bo+k*13+10,none⟩=some (int i64 b.state):=(M.cell (p:=⟨bb,bo+k*13+10,none⟩) E).trans (by have:=hc 10 (by decide);rw[eC] at this;exact this)
   have f7:wr.cell? ⟨bb,bo+k*13+11,none⟩=some (int i64 b.unt):=(M.cell (p:=⟨bb,bo+k*13+11,none⟩) E).trans (by have:=hc 11 (by decide);rw[eC] at this;exact this)
   have f8:wr.cell? ⟨bb,bo+k*13+12,none⟩=some (int i64 b.price):=(M.cell (p:=⟨bb,bo+k*13+12,none⟩) E).trans (by have:=hc 12 (by decide);rw[eC] at this;exact this)
   clear hc eC hb;have e8:=zk b1 (.cells #[int i64 b.name,int i64 b.who,.string b.own,.slice G b.lgn H,int i64 b.pe,int i64 b.len,int i64 b.hei,int i64 b.cl,.bool b.all,int i64 b.be,int i64 b.state,int i64 b.unt,int i64 b.price] 150);have b7:=heap_alloc_new wr (.cells #[int i64 b.name,int i64 b.who,.string b.own,.slice G b.lgn H,int i64 b.pe,int i64 b.len,int i64 b.hei,int i64 b.cl,.bool b.all,int i64 b.be,int i64 b.state,int i64 b.unt,int i64 b.price] 150);go_wp2_with fail;generalize hBx:wr.heap.size=Bx at b7 ⊢;generalize wr.alloc (.cells #[int i64 b.name,int i64 b.who,.string b.own,.slice G b.lgn H,int i64 b.pe,int i64 b.len,int i64 b.hei,int i64 b.cl,.bool b.all,int i64 b.be,int i64 b.state,int i64 b.unt,int i64 b.price] 150)=W at e8 b7 ⊢;clear hBx c0 c1 c2 c3 c4 c5 c6 c7 c8 c9 f6 f7 f8 b1 M;obtain⟨t1,e9⟩:∃ c,c=decide (¬ (b.len=0/\b.hei=0)):=⟨_,rfl⟩;have H1:Hid (t1=true↔¬ zcR b):=by show t1=true↔¬ zcR b;rw[e9,decide_eq_true_eq];exact Iff.rfl
   refine(zcE b.pe b.len b.hei b.cl b.all b.be _).mono ?_;rw[← e9];clear e9;rintro e W1 ⟨rfl,a⟩;have b8:=ze e8 a;have g:=zb b7 a;clear e8 b7 a W;obtain⟨t2,f0⟩:∃ c,c=decide (¬ (b.cl=0/\b.all=false/\b.be=0)):=⟨_,rfl⟩;have H2:Hid (t2=true↔¬ zca b):=by show t2=true↔¬ zca b;rw[f0,decide_eq_true_eq];exact Iff.rfl
   have d9:=hI f0;clear f0;have g0:IntKind.i64.wrap ((m1:Int)+1)=(m1:Int)+1:=by rw[IntKind.wrap_i64];omega
   have g1:IntKind.i64.wrap ((m2:Int)+1)=(m2:Int)+1:=by rw[IntKind.wrap_i64];omega
   have Y:=hI hlt2
   cases t1 with
   | true =>
    have d3:Hid (¬ zcR b):=H1.out.1 rfl;clear H1;have O:=za g 4 _ rfl;have Q:=za g 5 _ rfl;have R:=za g 6 _ rfl;have S:=za g 7 _ rfl;have T:=za g 8 _ rfl;have U:=za g 9 _ rfl;go_wp2_with fail;refine(Q7 b.pe b.len b.hei b.cl b.all b.be _).mono ?_;rw[← d9.out];rintro e W2 ⟨rfl,a⟩;have n:=ze b8 a;have t:=zb g a;clear O Q R S T U b8 g a W1 d9
    cases t2 with
    | true =>
     have b5:Hid (¬ zca b):=H2.out.1 rfl;clear H2;obtain⟨y0,y1,y2,y3,O,Q,R,S,T,U,z,A,D⟩:=zeX t;have s6:=za (zb X.out n) 6 _ rfl;obtain⟨u,v,y⟩:=ce3 (zb N.out n);go_wp2_with fail;refine(zbP b G H l a3 b0 _ Z.out.1 (d8.out.below (ze o n))).mono ?_;rintro e W3 ⟨⟨u0,rfl,a4⟩,a⟩;have J:=hI a4;have d:=ze n a;have q:=zb t a;clear y0 y1 y2 y3 O Q R S T U z A D s6 u v y n t a a4 W2
     cases u0 with
     | false =>
      have I:Hid (¬ zgV s l m B):=fun h=>by have h1:=(h.1 k Y.out).1;rw[← HB.out] at h1;have:=J.out.2 h1;cases this
      go_wp2;go_ret;exact⟨zl I.out,ze o d⟩
     | true =>
     have b2:Hid (zfQ l b):=J.out.1 rfl;clear J;obtain⟨y0,y1,y2,y3,O,Q,R,S,T,U,z,A,D⟩:=zeX q;have s6:=za (zb X.out d) 6 _ rfl;obtain⟨u,v,y⟩:=ce3 (zb N.out d);go_wp2_with fail;refine(zaX b G H s l a0 a1 a7 a8 _ Z.out.2.1 d5.out (d4.out.below (ze o d)) (d6.out.below (ze o d))).mono ?_;rintro e W4 ⟨⟨u1,rfl,a5⟩,a⟩;have K:=hI a5;have f:=ze d a;have r:=zb q a;clear y0 y1 y2 y3 O Q R S T U z A D s6 u v y d q a a5 W3
     cases u1 with
     | false =>
      have I:Hid (¬ zgV s l m B):=fun h=>by have h1:=(h.1 k Y.out).2.1;rw[← HB.out] at h1;have:=K.out.2 h1;cases this
      go_wp2;go_ret;exact⟨zl I.out,ze o f⟩
     | true =>
     have b3:Hid (zeI s l b):=K.out.1 rfl;clear K;obtain⟨y0,y1,y2,y3,O,Q,R,S,T,U,z,A,D⟩:=zeX r;have s6:=za (zb X.out f) 6 _ rfl;obtain⟨u,v,y⟩:=ce3 (zb N.out f);go_wp2_with fail;refine(zaW b G H l a2 a9 _ Z.out.2.2 (d7.out.below (ze o f))).mono ?_;rintro e W5 ⟨⟨u2,rfl,a6⟩,a⟩;have L:=hI a6;have F:=ze f a;have b6:=zb r a;clear y0 y1 y2 y3 O Q R S T U z A D s6 u v y f r a a6 W4
     cases u2 with
     | false =>
      have I:Hid (¬ zgV s l m B):=fun h=>by have h1:=(h.1 k Y.out).2.2;rw[← HB.out] at h1;have:=L.out.2 h1;cases this
      go_wp2;go_ret;exact⟨zl I.out,ze o F⟩
     | true =>
     have b4:Hid (zfR l b):=L.out.1 rfl;clear L;go_wp2;go_roundw
     case rel=>exact⟨k+1,by omega,by go_num,by rw[Qy (P:=fun j=>¬ zcR (B j)) (by rw[← HB.out];exact d3.out),← b9.out];simp,by rw[Qy (P:=fun j=>¬ zca (B j)) (by rw[← HB.out];exact b5.out),← d0.out];simp,fun j hj=>by
      by_cases e:j=k
      ·subst e;rw[← HB.out];exact⟨b2.out,b3.out,b4.out⟩
      ·exact HA.out j (by omega),F⟩
     case measure=>simp[intOf];omega
    | false =>
     have b5:Hid (¬ ¬ zca b):=fun h=>by have:=H2.out.2 h;cases this
     clear H2;obtain⟨y0,y1,y2,y3,O,Q,R,S,T,U,z,A,D⟩:=zeX t;have s6:=za (zb X.out n) 6 _ rfl;obtain⟨u,v,y⟩:=ce3 (zb N.out n);go_wp2_with fail;refine(zbP b G H l a3 b0 _ Z.out.1 (d8.out.below (ze o n))).mono ?_;rintro e W3 ⟨⟨u0,rfl,a4⟩,a⟩;have J:=hI a4;have d:=ze n a;have q:=zb t a;clear y0 y1 y2 y3 O Q R S T U z A D s6 u v y n t a a4 W2
     cases u0 with
     | false =>
      have I:Hid (¬ zgV s l m B):=fun h=>by have h1:=(h.1 k Y.out).1;rw[← HB.out] at h1;have:=J.out.2 h1;cases this
      go_wp2;go_ret;exact⟨zl I.out,ze o d⟩
     | true =>
     have b2:Hid (zfQ l b):=J.out.1 rfl;clear J;obtain⟨y0,y1,y2,y3,O,Q,R,S,T,U,z,A,D⟩:=zeX q;have s6:=za (zb X.out d) 6 _ rfl;obtain⟨u,v,y⟩:=ce3 (zb N.out d);go_wp2_with fail;refine(zaX b G H s l a0 a1 a7 a8 _ Z.out.2.1 d5.out (d4.out.below (ze o d)) (d6.out.below (ze o d))).mono ?_;rintro e W4 ⟨⟨u1,rfl,a5⟩,a⟩;have K:=hI a5;have f:=ze d a;have r:=zb q a;clear y0 y1 y2 y3 O Q R S T U z A D s6 u v y d q a a5 W3
     cases u1 with
     | false =>
      have I:Hid (¬ zgV s l m B):=fun h=>by have h1:=(h.1 k Y.out).2.1;rw[← HB.out] at h1;have:=K.out.2 h1;cases this
      go_wp2;go_ret;exact⟨zl I.out,ze o f⟩
     | true =>
     have b3:Hid (zeI s l b):=K.out.1 rfl;clear K;obtain⟨y0,y1,y2,y3,O,Q,R,S,T,U,z,A,D⟩:=zeX r;have s6:=za (zb X.out f) 6 _ rfl;obtain⟨u,v,y⟩:=ce3 (zb N.out f);go_wp2_with fail;refine(zaW b G H l a2 a9 _ Z.out.2.2 (d7.out.below (ze o f))).mono ?_;rintro e W5 ⟨⟨u2,rfl,a6⟩,a⟩;have L:=hI a6;have F:=ze f a;have b6:=zb r a;clear y0 y1 y2 y3 O Q R S T U z A D s6 u v y f r a a6 W4
     cases u2 with
     | false =>
      have I:Hid (¬ zgV s l m B):=fun h=>by have h1:=(h.1 k Y.out).2.2;rw[← HB.out] at h1;have:=L.out.2 h1;cases this
      go_wp2;go_ret;exact⟨zl I.out,ze o F⟩
     | true =>
     have b4:Hid (zfR l b):=L.out.1 rfl;clear L;go_wp2;go_roundw
     case rel=>exact⟨k+1,by omega,by go_num,by rw[Qy (P:=fun j=>¬ zcR (B j)) (by rw[← HB.out];exact d3.out),← b9.out];simp,by rw[zae (P:=fun j=>¬ zca (B j)) (by rw[← HB.out];exact b5.out),← d0.out],fun j hj=>by
      by_cases e:j=k
      ·subst e;rw[← HB.out];exact⟨b2.out,b3.out,b4.out⟩
      ·exact HA.out j (by omega),F⟩
     case measure=>simp[intOf];omega
   | false =>
    have d3:Hid (¬ ¬ zcR b):=fun h=>by have:=H1.out.2 h;cases this
    clear H1;have O:=za g 4 _ rfl;have Q:=za g 5 _ rfl;have R:=za g 6 _ rfl;have S:=za g 7 _ rfl;have T:=za g 8 _ rfl;have U:=za g 9 _ rfl;go_wp2_with fail;refine(Q7 b.pe b.len b.hei b.cl b.all b.be _).mono ?_;rw[← d9.out];rintro e W2 ⟨rfl,a⟩;have n:=ze b8 a;have t:=zb g a;clear O Q R S T U b8 g a W1 d9
    cases t2 with
    | true =>
     have b5:Hid (¬ zca b):=H2.out.1 rfl;clear H2;obtain⟨y0,y1,y2,y3,O,Q,R,S,T,U,z,A,D⟩:=zeX t;have s6:=za (zb X.out n) 6 _ rfl;obtain⟨u,v,y⟩:=ce3 (zb N.out n);go_wp2_with fail;refine(zbP b G H l a3 b0 _ Z.out.1 (d8.out.below (ze o n))).mono ?_;rintro e W3 ⟨⟨u0,rfl,a4⟩,a⟩;have J:=hI a4;have d:=ze n a;have q:=zb t a;clear y0 y1 y2 y3 O Q R S T U z A D s6 u v y n t a a4 W2
     cases u0 with
     | false =>
      have I:Hid (¬ zgV s l m B):=fun h=>by have h1:=(h.1 k Y.out).1;rw[← HB.out] at h1;have:=J.out.2 h1;cases this
      go_wp2;go_ret;exact⟨zl I.out,ze o d⟩
     | true =>
     have b2:Hid (zfQ l b):=J.out.1 rfl;clear J;obtain⟨y0,y1,y2,y3,O,Q,R,S,T,U,z,A,D⟩:=zeX q;have s6:=za (zb X.out d) 6 _ rfl;obtain⟨u,v,y⟩:=ce3 (zb N.out d);go_wp2_with fail;refine(zaX b G H s l a0 a1 a7 a8 _ Z.out.2.1 d5.out (d4.out.below (ze o d)) (d6.out.below (ze o d))).mono ?_;rintro e W4 ⟨⟨u1,rfl,a5⟩,a⟩;have K:=hI a5;have f:=ze d a;have r:=zb q a;clear y0 y1 y2 y3 O Q R S T U z A D s6 u v y d q a a5 W3
     cases u1 with
     | false =>
      have I:Hid (¬ zgV s l m B):=fun h=>by have h1:=(h.1 k Y.out).2.1;rw[← HB.out] at h1;have:=K.out.2 h1;cases this
      go_wp2;go_ret;exact⟨zl I.out,ze o f⟩
     | true =>
     have b3:Hid (zeI s l b):=K.out.1 rfl;clear K;obtain⟨y0,y1,y2,y3,O,Q,R,S,T,U,z,A,D⟩:=zeX r;have s6:=za (zb X.out f) 6 _ rfl;obtain⟨u,v,y⟩:=ce3 (zb N.out f);go_wp2_with fail;refine(zaW b G H l a2 a9 _ Z.out.2.2 (d7.out.below (ze o f))).mono ?_;rintro e W5 ⟨⟨u2,rfl,a6⟩,a⟩;have L:=hI a6;have F:=ze f a;have b6:=zb r a;clear y0 y1 y2 y3 O Q R S T U z A D s6 u v y f r a a6 W4
     cases u2 with
     | false =>
      have I:Hid (¬ zgV s l m B):=fun h=>by have h1:=(h.1 k Y.out).2.2;rw[← HB.out] at h1;have:=L.out.2 h1;cases this
      go_wp2;go_ret;exact⟨zl I.out,ze o F⟩
     | true =>
     have b4:Hid (zfR l b):=L.out.1 rfl;clear L;go_wp2;go_roundw
     case rel=>exact⟨k+1,by omega,by go_num,by rw[zae (P:=fun j=>¬ zcR (B j)) (by rw[← HB.out];exact d3.out),← b9.out],by rw[Qy (P:=fun j=>¬ zca (B j)) (by rw[← HB.out];exact b5.out),← d0.out];simp,fun j hj=>by
      by_cases e:j=k
      ·subst e;rw[← HB.out];exact⟨b2.out,b3.out,b4.out⟩
      ·exact HA.out j (by omega),F⟩
     case measure=>simp[intOf];omega
    | false =>
     have b5:Hid (¬ ¬ zca b):=fun h=>by have:=H2.out.2 h;cases this
     clear H2;obtain⟨y0,y1,y2,y3,O,Q,R,S,T,U,z,A,D⟩:=zeX t;have s6:=za (zb X.out n) 6 _ rfl;obtain⟨u,v,y⟩:=ce3 (zb N.out n);go_wp2_with fail;refine(zbP b G H l a3 b0 _ Z.out.1 (d8.out.below (ze o n))).mono ?_;rintro e W3 ⟨⟨u0,rfl,a4⟩,a⟩;have J:=hI a4;have d:=ze n a;have q:=zb t a;clear y0 y1 y2 y3 O Q R S T U z A D s6 u v y n t a a4 W2
     cases u0 with
     | false =>
      have I:Hid (¬ zgV s l m B):=fun h=>by have h1:=(h.1 k Y.out).1;rw[← HB.out] at h1;have:=J.out.2 h1;cases this
      go_wp2;go_ret;exact⟨zl I.out,ze o d⟩
     | true =>
     have b2:Hid (zfQ l b):=J.out.1 rfl;clear J;obtain⟨y0,y1,y2,y3,O,Q,R,S,T,U,z,A,D⟩:=zeX q;have s6:=za (zb X.out d) 6 _ rfl;obtain⟨u,v,y⟩:=ce3 (zb N.out d);go_wp2_with fail;refine(zaX b G H s l a0 a1 a7 a8 _ Z.out.2.1 d5.out (d4.out.below (ze o d)) (d6.out.below (ze o d))).mono ?_;rintro e W4 ⟨⟨u1,rfl,a5⟩,a⟩;have K:=hI a5;have f:=ze d a;have r:=zb q a;clear y0 y1 y2 y3 O Q R S T U z A D s6 u v y d q a a5 W3
     cases u1 with
     | false =>
      have I:Hid (¬ zgV s l m B):=fun h=>by have h1:=(h.1 k Y.out).2.1;rw[← HB.out] at h1;have:=K.out.2 h1;cases this
      go_wp2;go_ret;exact⟨zl I.out,ze o f⟩
     | true =>
     have b3:Hid (zeI s l b):=K.out.1 rfl;clear K;obtain⟨y0,y1,y2,y3,O,Q,R,S,T,U,z,A,D⟩:=zeX r;have s6:=za (zb X.out f) 6 _ rfl;obtain⟨u,v,y⟩:=ce3 (zb N.out f);go_wp2_with fail;refine(zaW b G H l a2 a9 _ Z.out.2.2 (d7.out.below (ze o f))).mono ?_;rintro e W5 ⟨⟨u2,rfl,a6⟩,a⟩;have L:=hI a6;have F:=ze f a;have b6:=zb r a;clear y0 y1 y2 y3 O Q R S T U z A D s6 u v y f r a a6 W4
     cases u2 with
     | false =>
      have I:Hid (¬ zgV s l m B):=fun h=>by have h1:=(h.1 k Y.out).2.2;rw[← HB.out] at h1;have:=L.out.2 h1;cases this
      go_wp2;go_ret;exact⟨zl I.out,ze o F⟩
     | true =>
     have b4:Hid (zfR l b):=L.out.1 rfl;clear L;go_wp2;go_roundw
     case rel=>exact⟨k+1,by omega,by go_num,by rw[zae (P:=fun j=>¬ zcR (B j)) (by rw[← HB.out];exact d3.out),← b9.out],by rw[zae (P:=fun j=>¬ zca (B j)) (by rw[← HB.out];exact b5.out),← d0.out],fun j hj=>by
      by_cases e:j=k
      ·subst e;rw[← HB.out];exact⟨b2.out,b3.out,b4.out⟩
      ·exact HA.out j (by omega),F⟩
     case measure=>simp[intOf];omega
  ·obtain rfl:k=m:=by omega
   obtain⟨u,v,y⟩:=ce3 (zb N.out b1);have HJ:Hid (zgV s l k B↔l.stn=m1/\l.ron=m2/\l.sen=k):=by
    show zgV s l k B↔l.stn=m1/\l.ron=m2/\l.sen=k
    unfold zgV;rw[← b9.out,← d0.out];exact⟨fun h=>h.2,fun h=>⟨HA.out,h⟩⟩
   have e0:=ze o b1;clear b1 b9 d0 HA
   by_cases v1:l.stn=m1
   case neg =>
    have e1:((l.stn:Int) == (m1:Int))=false:=by simp;omega
    have I:Hid (¬ zgV s l k B):=fun h=>v1 (HJ.out.1 h).1
    clear v1;go_wp2;go_ret;exact⟨zl I.out,e0⟩
   have e1:((l.stn:Int) == (m1:Int))=true:=by simp;omega
   by_cases v2:l.ron=m2
   case neg =>
    have e2:((l.ron:Int) == (m2:Int))=false:=by simp;omega
    have I:Hid (¬ zgV s l k B):=fun h=>v2 (HJ.out.1 h).2.1
    clear v1 v2;go_wp2;go_ret;exact⟨zl I.out,e0⟩
   have e2:((l.ron:Int) == (m2:Int))=true:=by simp;omega
   by_cases v3:l.sen=k
   case neg =>
    have e3:((l.sen:Int) == (k:Int))=false:=by simp;omega
    have I:Hid (¬ zgV s l k B):=fun h=>v3 (HJ.out.1 h).2.2
    clear v1 v2 v3;go_wp2;go_ret;exact⟨zl I.out,e0⟩
   have e3:((l.sen:Int) == (k:Int))=true:=by simp;omega
   have I:Hid (zgV s l k B):=HJ.out.2 ⟨v1,v2,v3⟩;clear v1 v2 v3;go_wp2;go_ret;exact⟨zR I.out,e0⟩
theorem zkZ (g bo:Option Addr)(m k n c:Nat)(p:zH)(S:Nat->Zp)(w:World)(h:p.n=m)(s:m<=1048576)(t:n<=1048576)(r:n<=c)(i:zG w g p)(j:qw w bo n S) :
  Calls Tryz.prog 178 #[.slice g m k,.slice bo n c] w fun e w'=>qX (zfj p n S) e/\Below w.heap.size w w':=by
 have o:=hI i;have q:=hI j;have l:=hI h;clear i j h;go_enter Tryz.func178,Tryz.ntmps178;go_wp2_with fail;refine(zee g bo m k n c p S _ l.out s t r o.out q.out).mono ?_;rintro e w1 ⟨a,b⟩;unfold zlX zmH at a
 rcases a with⟨d,rfl⟩|⟨d,rfl⟩
 ·have f:=hI d
  clear d;go_wp2;go_ret;exact⟨zR f.out,zk b _⟩
 ·have f:=hI d
  clear d;go_wp2;go_ret;exact⟨zl f.out,zk b _⟩
theorem zjm (g bo:Option Addr)(m l n c:Nat)(p:zH)(S:Nat->qN)(w:World)(i:p.n=m)(t:m<=1048576)(u:n<=1048576)(s:n<=c)(j:zG w g p)(k:qp w bo n S) :
  Calls Tryz.prog 179 #[.slice g m l,.slice bo n c] w fun e w'=>qX (Qr p n S) e/\Below w.heap.size w w':=by
 have q:=hI j;have r:=hI k;have o:=hI i;clear j k i;go_enter Tryz.func179,Tryz.ntmps179;go_wp2_with fail;refine(zbh g bo m l n c p S _ o.out t u s q.out r.out).mono ?_;rintro e w1 ⟨b,a⟩;unfold zmI six at b
 rcases b with⟨d,rfl⟩|⟨d,rfl⟩
 ·have f:=hI (zct.1 d)
  clear d;go_wp2;go_ret;exact⟨zR f.out,(by first|exact a|exact zk a _)⟩
 ·have f:Hid (¬ Qr p n S):=fun h=>d (zct.2 h)
  clear d;go_wp2;go_ret;exact⟨zl f.out,(by first|exact a|exact zk a _)⟩
theorem zjn (x:Off)(a7 a6:Option Addr)(d4 d3:Nat)(w:World)(hs:Off.Short x 1048576)(a8:qB w a7 x.san x.sa)(A:ZG w a6 x.ldn x.ld) :
  Calls Tryz.prog 98 #[.slice a7 x.san d4,.slice a6 x.ldn d3] w fun e w'=>qX (x.ldn=x.san/\∀ k,k<x.san->qm (x.sa k) (x.ld k)) e/\Below w.heap.size w w':=by
 have c9:=hI a8;have b6:=hI A;have a3:=hI hs;have n1:x.san<=1048576:=hs.1.1;clear a8 A hs
 by_cases g1:x.ldn=x.san
 case neg =>
  have e1:((x.ldn:Int) != (x.san:Int))=true:=by simp;omega
  have K:Hid (¬ (x.ldn=x.san/\∀ k,k<x.san->qm (x.sa k) (x.ld k))):=fun h=>g1 h.1
  clear g1;go_enter Tryz.func98,Tryz.ntmps98;go_wp2;go_ret;exact⟨zl K.out,bZ⟩
 have e1:((x.ldn:Int) != (x.san:Int))=false:=by simp;omega
 have HE:=hI g1;clear g1;go_enter Tryz.func98,Tryz.ntmps98;go_wp2;clear e1;go_loopw [5,6,7,15] (fun _ _ _ i wr=>∃ k:Nat,k<=x.san/\i=int i64 k/\(∀ j,j<k->qm (x.sa j) (x.ld j))/\Below w.heap.size w wr) (fun _ _ _ i _=>x.san - (intOf i).toNat)
 case atStart=>exact⟨0,Nat.zero_le _,rfl,fun j hj=>by omega,bZ⟩
 case round =>
  obtain⟨k,hk,rfl,G,a⟩:=hrel;have HA:=hI G;clear G
  by_cases hlt:k<x.san
  ·obtain⟨H,I,la,lc,ca,cc,rfl,f0,f1,f2,f3,f4,f5,f6,f7,P,O,b3,b2⟩:=c9.out k hlt
   obtain⟨s,S⟩:∃ s,s=x.sa k:=⟨_,rfl⟩;have F:=a3.out.1.2 k hlt;rw[← S] at f0 f1 f2 f3 f4 f5 f6 f7 P O b3 b2 F;have D:=hI S;have v:=World.block_lt_of_cell? w _ f0;have c0:=(a.cell (p:=⟨H,I+k*8,none⟩) v).trans f0;have c1:=(a.cell (p:=⟨H,I+k*8+1,none⟩) v).trans f1;have c2:=(a.cell (p:=⟨H,I+k*8+2,none⟩) v).trans f2;have c3:=(a.cell (p:=⟨H,I+k*8+3,none⟩) v).trans f3;have c4:=(a.cell (p:=⟨H,I+k*8+4,none⟩) v).trans f4;have c5:=(a.cell (p:=⟨H,I+k*8+5,none⟩) v).trans f5;have c6:=(a.cell (p:=⟨H,I+k*8+6,none⟩) v).trans f6;have c7:=(a.cell (p:=⟨H,I+k*8+7,none⟩) v).trans f7;obtain⟨C,hC,hI⟩:=b6.out;have E:k<x.ldn:=by have:=HE.out;omega
   obtain⟨W,lo,rfl,hc⟩:=hC k E;obtain⟨l,A⟩:∃ l,l=x.ld k:=⟨_,rfl⟩;have Q:=a3.out.2.1.2 k E;obtain⟨m,u,f,r,g,t,eC,U,a0,R,Y,T,Z⟩:=hI k E;rw[← A] at eC U a0 R Y T Z Q;have B:=hI A;have X:W<w.heap.size:=World.block_lt_of_cell? w _ (hc 0 (by decide))
   have d0:∀ o,(wr.alloc o).cell? ⟨W,lo+k*3,none⟩=some (.slice m l.stn u):=fun o=>((zk a o).cell (p:=⟨W,lo+k*3,none⟩) X).trans (by have:=hc 0 (by decide);rw[eC] at this;exact this)
   have d1:∀ o,(wr.alloc o).cell? ⟨W,lo+k*3+1,none⟩=some (.slice f l.ron r):=fun o=>((zk a o).cell (p:=⟨W,lo+k*3+1,none⟩) X).trans (by have:=hc 1 (by decide);rw[eC] at this;exact this)
   have d2:∀ o,(wr.alloc o).cell? ⟨W,lo+k*3+2,none⟩=some (.slice g l.sen t):=fun o=>((zk a o).cell (p:=⟨W,lo+k*3+2,none⟩) X).trans (by have:=hc 2 (by decide);rw[eC] at this;exact this)
   have b5:=hI P;have b4:=hI O;have a5:Hid (qw w m l.stn l.st/\l.stn<=u):=⟨U,a0.1⟩;have a1:Hid (qp w f l.ron l.ro/\l.ron<=r):=⟨R,Y.1⟩;have a2:Hid (qE w g l.sen l.se/\l.sen<=t):=⟨T,Z.1⟩;have J:=hI Q;have a4:Hid (s.la.n<=1048576/\s.ca.n<=1048576):=⟨F.2.2.1,F.2.2.2⟩;have h0:(0:Int)<=(k:Int):=by omega
   have h1:(k:Int)<(x.ldn:Int):=by omega
   clear hC hI hc eC S A f0 f1 f2 f3 f4 f5 f6 f7 P O b3 b2 U a0 R Y T Z Q F E;have b:=zk (zk a (.cells #[int i64 s.id,.string s.fr,.string s.dst,int i64 s.dep,int i64 s.arr,.slice la s.la.n lc,.slice ca s.ca.n cc,int i64 s.most] 140)) (.cells #[.slice m l.stn u,.slice f l.ron r,.slice g l.sen t] 145);have z:((wr.alloc (.cells #[int i64 s.id,.string s.fr,.string s.dst,int i64 s.dep,int i64 s.arr,.slice la s.la.n lc,.slice ca s.ca.n cc,int i64 s.most] 140)).alloc (.cells #[.slice m l.stn u,.slice f l.ron r,.slice g l.sen t] 145)).heap[wr.heap.size]?=some (.cells #[int i64 s.id,.string s.fr,.string s.dst,int i64 s.dep,int i64 s.arr,.slice la s.la.n lc,.slice ca s.ca.n cc,int i64 s.most] 140 (0,0)):=zd (heap_alloc_new wr _) _;have y:((wr.alloc (.cells #[int i64 s.id,.string s.fr,.string s.dst,int i64 s.dep,int i64 s.arr,.slice la s.la.n lc,.slice ca s.ca.n cc,int i64 s.most] 140)).alloc (.cells #[.slice m l.stn u,.slice f l.ron r,.slice g l.sen t] 145)).heap[wr.heap.size+1]?=some (.cells #[.slice m l.stn u,.slice f l.ron r,.slice g l.sen t] 145 (0,0)):=by simpa using heap_alloc_new (wr.alloc _) _
   have y5:=za z 5 _ rfl;have m0:=za y 0 _ rfl;go_wp2_with fail;generalize hBx:wr.heap.size=Bx at z y y5 m0 ⊢;generalize (wr.alloc (.cells #[int i64 s.id,.string s.fr,.string s.dst,int i64 s.dep,int i64 s.arr,.slice la s.la.n lc,.slice ca s.ca.n cc,int i64 s.most] 140)).alloc (.cells #[.slice m l.stn u,.slice f l.ron r,.slice g l.sen t] 145)=V at b z y y5 m0 ⊢;clear hBx c0 c1 c2 c3 c4 c5 c6 c7 d0 d1 d2 y5 m0 a;refine(zkZ la m s.la.n lc l.stn u s.la l.st _ rfl a4.out.1 J.out.1 a5.out.2 (b5.out.below b) (a5.out.1.below b)).mono ?_;rintro e V0 ⟨⟨t0,rfl,a9⟩,c⟩;have L:=hI a9;have q:=zb z c;have n:=zb y c;have d:=ze b c;clear z y b c a9;have z:=q;have y:=n;have b:=d;clear q n d
   cases t0 with
   | false =>
    have K:Hid (¬ (x.ldn=x.san/\∀ k,k<x.san->qm (x.sa k) (x.ld k))):=fun h=>by have h:=h.2 k hlt;rw[← D.out,← B.out] at h;have:=L.out.2 ((QO _ _ _).1 h.1);cases this
    go_wp2;go_ret;exact⟨zl K.out,b⟩
   | true =>
   have b7:Hid (zfj s.la l.stn l.st):=L.out.1 rfl;clear L;have y6:=za z 6 _ rfl;have m1:=za y 1 _ rfl;go_wp2_with fail;clear y6 m1;refine(zjm ca f s.ca.n cc l.ron r s.ca l.ro _ rfl a4.out.2 J.out.2.1 a1.out.2 (b4.out.below b) (a1.out.1.below b)).mono ?_;rintro e V1 ⟨⟨t1,rfl,b0⟩,c⟩;have M:=hI b0;have q:=zb z c;have n:=zb y c;have d:=ze b c;clear z y b c b0;have z:=q;have y:=n;have b:=d;clear q n d
   cases t1 with
   | false =>
    have K:Hid (¬ (x.ldn=x.san/\∀ k,k<x.san->qm (x.sa k) (x.ld k))):=fun h=>by have h:=h.2 k hlt;rw[← D.out,← B.out] at h;have:=M.out.2 (h.2.1);cases this
    go_wp2;go_ret;exact⟨zl K.out,b⟩
   | true =>
   have b8:Hid (Qr s.ca l.ron l.ro):=M.out.1 rfl;clear M;have m2:=za y 2 _ rfl;have y7:=za z 7 _ rfl;go_wp2_with fail;clear y7 m2;refine(zeG s.most g l.sen t l.se _ (by have:=J.out.2.2;omega) a2.out.2 (a2.out.1.below b)).mono ?_
   rintro e V2 ⟨⟨t2,rfl,b1⟩,c⟩;have N:=hI b1;have q:=zb z c;have n:=zb y c;have d:=ze b c;clear z y b c b1;have z:=q;have y:=n;have b:=d;clear q n d
   cases t2 with
   | false =>
    have K:Hid (¬ (x.ldn=x.san/\∀ k,k<x.san->qm (x.sa k) (x.ld k))):=fun h=>by have h:=h.2 k hlt;rw[← D.out,← B.out] at h;have:=N.out.2 (h.2.2);cases this
    go_wp2;go_ret;exact⟨zl K.out,b⟩
   | true =>
   have b9:Hid (Qx s.most l.sen l.se):=N.out.1 rfl;clear N;go_wp2;go_roundw
   case rel=>exact⟨k+1,by omega,by go_num,fun j hj=>by
    by_cases e:j=k
    ·subst e;rw[← D.out,← B.out];exact⟨(QO _ _ _).2 b7.out,b8.out,b9.out⟩
    ·exact HA.out j (by omega),b⟩
   case measure=>simp[intOf];omega
  ·obtain rfl:k=x.san:=by omega
   go_wp2;go_ret;exact⟨zR ⟨HE.out,HA.out⟩,a⟩
theorem zgg {x:Off}{i:Nat}:Zt x i↔(x.bk i).name=i+1/\(In (x.bk i).who 1 9999/\¬ Has (zlk x.bk) i (x.bk i).who)/\zhH x.san x.sa (x.bk i):=by
 unfold Zt zhH
 constructor
 ·rintro⟨h1,h2,h3,a,b,c,d,h8,h9⟩
  exact⟨h1,⟨h2,fun ⟨j,f,e⟩=>h8 j f e⟩,h3,a,b,c,h9,d⟩
 ·rintro⟨h1,⟨h2,h8⟩,h3,a,b,c,h9,d⟩
  exact⟨h1,h2,h3,a,b,c,d,fun j f e=>h8 ⟨j,f,e⟩,h9⟩
theorem zfX (x:Off)(u J:Option Addr)(D o:Nat)(w:World)(Y:Off.Short x 1048576)(hT:QJ x.san x.sa)(K:qB w u x.san x.sa)(X:qO w J x.bkn x.bk)(a1:x.bkn<=o) :
  Calls Tryz.prog 99 #[.slice u x.san D,.slice J x.bkn o] w fun e w'=>qX (x.bkn<=30/\∀ i,i<x.bkn->Zt x i) e/\Below w.heap.size w w':=by
 have G:=hI K;have B:=hI Y;have HT:=hI hT;have n1:x.san<=1048576:=Y.1.1;obtain⟨C,hC,hI⟩:=X;have M:=hI hC;have N:=hI hI;clear K Y hT hC hI
 by_cases g1:x.bkn<=30
 case neg =>
  have O:decide ((30:Int)<(x.bkn:Int))=true:=by simp;omega
  have A:Hid (¬ (x.bkn<=30/\∀ i,i<x.bkn->Zt x i)):=fun h=>g1 h.1
  clear g1;go_enter Tryz.func99,Tryz.ntmps99;go_wp2;go_ret;exact⟨zl A.out,bZ⟩
 have O:decide ((30:Int)<(x.bkn:Int))=false:=by simp;omega
 go_enter Tryz.func99,Tryz.ntmps99;go_wp2;clear O;go_loopw [5,6,12] (fun _ _ i wr=>∃ k:Nat,k<=x.bkn/\i=int i64 k/\(∀ j,j<k->Zt x j)/\Below w.heap.size w wr) (fun _ _ i _=>x.bkn - (intOf i).toNat)
 case atStart=>exact⟨0,Nat.zero_le _,rfl,fun j Q=>by omega,bZ⟩
 case round =>
  obtain⟨k,hk,rfl,z,c⟩:=hrel;have Z:=hI z;clear z
  by_cases hlt:k<x.bkn
  ·obtain⟨bb,bo,rfl,s⟩:=M.out k hlt
   obtain⟨n,q,r,E,_⟩:=N.out k hlt;obtain⟨b,P⟩:∃ b,b=x.bk k:=⟨_,rfl⟩;rw[← P] at r E;have L:=hI P;have F:=hI E;have H:Hid (ql.Short b 1048576):=by rw[P];exact B.out.2.2.2 k hlt
   have d:bb<w.heap.size:=World.block_lt_of_cell? w _ (s 0 (by decide))
   have c0:wr.cell? ⟨bb,bo+k*13,none⟩=some (int i64 b.name):=(c.cell (p:=⟨bb,bo+k*13,none⟩) d).trans (by have:=s 0 (by decide);rw[r] at this;exact this)
   have c1:wr.cell? ⟨bb,bo+k*13+1,none⟩=some (int i64 b.who):=(c.cell (p:=⟨bb,bo+k*13+1,none⟩) d).trans (by have:=s 1 (by decide);rw[r] at this;exact this)
   have c2:wr.cell? ⟨bb,bo+k*13+2,none⟩=some (.string b.own):=(c.cell (p:=⟨bb,bo+k*13+2,none⟩) d).trans (by have:=s 2 (by decide);rw[r] at this;exact this)
   have c3:wr.cell? ⟨bb,bo+k*13+3,none⟩=some (.slice n b.lgn q):=(c.cell (p:=⟨bb,bo+k*13+3,none⟩) d).trans (by have:=s 3 (by decide);rw[r] at this;exact this)
   have c4:wr.cell? ⟨bb,bo+k*13+4,none⟩=some (int i64 b.pe):=(c.cell (p:=⟨bb,bo+k*13+4,none⟩) d).trans (by have:=s 4 (by decide);rw[r] at this;exact this)
   have c5:wr.cell? ⟨bb,bo+k*13+5,none⟩=some (int i64 b.len):=(c.cell (p:=⟨bb,bo+k*13+5,none⟩) d).trans (by have:=s 5 (by decide);rw[r] at this;exact this)
   have c6:wr.cell? ⟨bb,bo+k*13+6,none⟩=some (int i64 b.hei):=(c.cell (p:=⟨bb,bo+k*13+6,none⟩) d).trans (by have:=s 6 (by decide);rw[r] at this;exact this)
   have c7:wr.cell? ⟨bb,bo+k*13+7,none⟩=some (int i64 b.cl):=(c.cell (p:=⟨bb,bo+k*13+7,none⟩) d).trans (by have:=s 7 (by decide);rw[r] at this;exact this)
   have c8:wr.cell? ⟨bb,bo+k*13+8,none⟩=some (.bool b.all):=(c.cell (p:=⟨bb,bo+k*13+8,none⟩) d).trans (by have:=s 8 (by decide);rw[r] at this;exact this)
   have c9:wr.cell? ⟨bb,bo+k*13+9,none⟩=some (int i64 b.be):=(c.cell (p:=⟨bb,bo+k*13+9,none⟩) d).trans (by have:=s 9 (by decide);rw[r] at this;exact this)
   have T:wr.cell? ⟨bb,bo+k*13+10,none⟩=some (int i64 b.state):=(c.cell (p:=⟨bb,bo+k*13+10,none⟩) d).trans (by have:=s 10 (by decide);rw[r] at this;exact this)
   have U:wr.cell? ⟨bb,bo+k*13+11,none⟩=some (int i64 b.unt):=(c.cell (p:=⟨bb,bo+k*13+11,none⟩) d).trans (by have:=s 11 (by decide);rw[r] at this;exact this)
   have V:wr.cell? ⟨bb,bo+k*13+12,none⟩=some (int i64 b.price):=(c.cell (p:=⟨bb,bo+k*13+12,none⟩) d).trans (by have:=s 12 (by decide);rw[r] at this;exact this)
   clear s r P E;have f:=zk c (.cells #[int i64 b.name,int i64 b.who,.string b.own,.slice n b.lgn q,int i64 b.pe,int i64 b.len,int i64 b.hei,int i64 b.cl,.bool b.all,int i64 b.be,int i64 b.state,int i64 b.unt,int i64 b.price] 150);have a:=heap_alloc_new wr (.cells #[int i64 b.name,int i64 b.who,.string b.own,.slice n b.lgn q,int i64 b.pe,int i64 b.len,int i64 b.hei,int i64 b.cl,.bool b.all,int i64 b.be,int i64 b.state,int i64 b.unt,int i64 b.price] 150);go_upto_region 6 with fail;generalize hBx:wr.heap.size=t at a ⊢;generalize wr.alloc (.cells #[int i64 b.name,int i64 b.who,.string b.own,.slice n b.lgn q,int i64 b.pe,int i64 b.len,int i64 b.hei,int i64 b.cl,.bool b.all,int i64 b.be,int i64 b.state,int i64 b.unt,int i64 b.price] 150)=W at f a ⊢;clear hBx c0 c1 c2 c3 c4 c5 c6 c7 c8 c9 T U V;have l:t<W.heap.size:=zM a;have z0:∀ g:zn W,g.val.cell? ⟨t,0,none⟩=some (int i64 b.name):=fun g=>(g.bel.cell l).trans (za a 0 _ rfl)
   have z1:∀ g:zn W,g.val.cell? ⟨t,1,none⟩=some (int i64 b.who):=fun g=>(g.bel.cell l).trans (za a 1 _ rfl)
   have z2:∀ g:zn W,g.val.cell? ⟨t,2,none⟩=some (.string b.own):=fun g=>(g.bel.cell l).trans (za a 2 _ rfl)
   have z3:∀ g:zn W,g.val.cell? ⟨t,3,none⟩=some (.slice n b.lgn q):=fun g=>(g.bel.cell l).trans (za a 3 _ rfl)
   have z4:∀ g:zn W,g.val.cell? ⟨t,4,none⟩=some (int i64 b.pe):=fun g=>(g.bel.cell l).trans (za a 4 _ rfl)
   have z5:∀ g:zn W,g.val.cell? ⟨t,5,none⟩=some (int i64 b.len):=fun g=>(g.bel.cell l).trans (za a 5 _ rfl)
   have z6:∀ g:zn W,g.val.cell? ⟨t,6,none⟩=some (int i64 b.hei):=fun g=>(g.bel.cell l).trans (za a 6 _ rfl)
   have z7:∀ g:zn W,g.val.cell? ⟨t,7,none⟩=some (int i64 b.cl):=fun g=>(g.bel.cell l).trans (za a 7 _ rfl)
   have z8:∀ g:zn W,g.val.cell? ⟨t,8,none⟩=some (.bool b.all):=fun g=>(g.bel.cell l).trans (za a 8 _ rfl)
   have z9:∀ g:zn W,g.val.cell? ⟨t,9,none⟩=some (int i64 b.be):=fun g=>(g.bel.cell l).trans (za a 9 _ rfl)
   have a5:∀ g:zn W,g.val.cell? ⟨t,10,none⟩=some (int i64 b.state):=fun g=>(g.bel.cell l).trans (za a 10 _ rfl)
   have a6:∀ g:zn W,g.val.cell? ⟨t,11,none⟩=some (int i64 b.unt):=fun g=>(g.bel.cell l).trans (za a 11 _ rfl)
   have a7:∀ g:zn W,g.val.cell? ⟨t,12,none⟩=some (int i64 b.price):=fun g=>(g.bel.cell l).trans (za a 12 _ rfl)
   clear a;have a4:IntKind.i64.wrap ((k:Int)+1)=(k:Int)+1:=by rw[IntKind.wrap_i64];omega
   have a2:(0:Int)<=(k:Int):=by omega
   have a3:(k:Int)<=(o:Int):=by omega
   have a0:k<=o:=by omega
   by_cases p1:b.name=(k:Int)+1
   case neg =>
    have O:(b.name != (k:Int)+1)=true:=by simpa using p1
    have A:Hid (¬ (x.bkn<=30/\∀ i,i<x.bkn->Zt x i)):=fun h=>p1 (by rw[L.out];exact(zgg.1 (h.2 k hlt)).1)
    clear p1;refine zh (by kernel_rfl) (by kernel_rfl) ?_
    repeat(first|go_big_quiet_skip|(go_big_quiet_want;go_big_quiet_op;first|go_big_quiet_on))
    refine wpQuiet_nil ?_;rintro _ ⟨g,rfl⟩;go_wp2;go_ret;exact⟨zl A.out,ze f g.bel⟩
   have O:(b.name != (k:Int)+1)=false:=by simpa using p1
   have P1:=hI p1;clear p1
   by_cases p2:In b.who 1 9999/\¬ Has (zlk x.bk) k b.who
   case neg =>
    have I:=hI p2;have A:Hid (¬ (x.bkn<=30/\∀ i,i<x.bkn->Zt x i)):=fun h=>p2 (by rw[L.out];exact(zgg.1 (h.2 k hlt)).2.1)
    clear p2;refine zh (by kernel_rfl) (by kernel_rfl) ?_
    repeat(first|go_big_quiet_skip|(go_big_quiet_want;go_big_quiet_op;first|go_big_quiet_on|(apply Exists.intro;refine⟨fun g=>?_,?_⟩;(focus(go_at_call 50;refine zf (v:=.bool false) ((zcZ _ k o x.bk b.who _ (by omega) ⟨C,(M.out.upto (by omega)).below (ze f g.bel),fun j Q=>(N.out j (by omega)).below (ze f g.bel)⟩).mono ?_);rintro e R ⟨⟨bb,rfl,y⟩,m⟩;obtain rfl:=Bool.eq_false_iff.2 (fun e=>I.out (y.1 e));exact⟨rfl,m⟩));go_big_quiet_on)))
    refine wpQuiet_nil ?_;rintro _ ⟨g,rfl⟩;go_wp2;go_ret;exact⟨zl A.out,ze f g.bel⟩
   have I:=hI p2;clear p2
   by_cases p3:zhH x.san x.sa b
   case neg =>
    have S:=hI p3;have A:Hid (¬ (x.bkn<=30/\∀ i,i<x.bkn->Zt x i)):=fun h=>p3 (by rw[L.out];exact(zgg.1 (h.2 k hlt)).2.2)
    clear p3;refine zh (by kernel_rfl) (by kernel_rfl) ?_
    repeat(first|go_big_quiet_skip|(go_big_quiet_want;go_big_quiet_op;first|go_big_quiet_on|(apply Exists.intro;refine⟨fun g=>?_,?_⟩;(focus(go_at_call 50;refine zf (v:=.bool true) ((zcZ _ k o x.bk b.who _ (by omega) ⟨C,(M.out.upto (by omega)).below (ze f g.bel),fun j Q=>(N.out j (by omega)).below (ze f g.bel)⟩).mono ?_);rintro e R ⟨⟨bb,rfl,y⟩,m⟩;obtain rfl:=y.2 I.out;exact⟨rfl,m⟩));go_big_quiet_on)|(apply Exists.intro;refine⟨fun g=>?_,?_⟩;(focus(go_at_call 181;refine zf (v:=.bool false) ((zdB x.san x.sa u D b n q _ n1 B.out.1.2 H.out HT.out (G.out.below (ze f g.bel)) (F.out.below (ze f g.bel))).mono ?_);rintro e R ⟨⟨bb,rfl,y⟩,m⟩;obtain rfl:=Bool.eq_false_iff.2 (fun e=>S.out (y.1 e));exact⟨rfl,m⟩));go_big_quiet_on)))
    refine wpQuiet_nil ?_;rintro _ ⟨g,rfl⟩;go_wp2;go_ret;exact⟨zl A.out,ze f g.bel⟩
   have S:=hI p3;have HK:Hid (Zt x k):=zgg.2 (by rw[← L.out];exact⟨P1.out,I.out,p3⟩)
   clear p3;refine zh (by kernel_rfl) (by kernel_rfl) ?_
   repeat(first|go_big_quiet_skip|(go_big_quiet_want;go_big_quiet_op;first|go_big_quiet_on|(apply Exists.intro;refine⟨fun g=>?_,?_⟩;(focus(go_at_call 50;refine zf (v:=.bool true) ((zcZ _ k o x.bk b.who _ (by omega) ⟨C,(M.out.upto (by omega)).below (ze f g.bel),fun j Q=>(N.out j (by omega)).below (ze f g.bel)⟩).mono ?_);rintro e R ⟨⟨bb,rfl,y⟩,m⟩;obtain rfl:=y.2 I.out;exact⟨rfl,m⟩));go_big_quiet_on)|(apply Exists.intro;refine⟨fun g=>?_,?_⟩;(focus(go_at_call 181;refine zf (v:=.bool true) ((zdB x.san x.sa u D b n q _ n1 B.out.1.2 H.out HT.out (G.out.below (ze f g.bel)) (F.out.below (ze f g.bel))).mono ?_);rintro e R ⟨⟨bb,rfl,y⟩,m⟩;obtain rfl:=y.2 S.out;exact⟨rfl,m⟩));go_big_quiet_on)))
   refine wpQuiet_nil ?_;rintro _ ⟨g,rfl⟩;go_wp2;go_roundw
   case rel=>exact⟨k+1,by omega,by go_num,fun j Q=>by
    by_cases e:j=k
    ·subst e;exact HK.out
    ·exact Z.out j (by omega),ze f g.bel⟩
   case measure=>simp[intOf];omega
  ·obtain rfl:k=x.bkn:=by omega
   go_wp2;go_ret;exact⟨zR ⟨g1,Z.out⟩,c⟩
theorem zmm (x:Off)(v K q:Option Addr)(F E r:Nat)(w:World)(hs:Off.Short x 1048576)(d5:qB w v x.san x.sa)(G:ZG w K x.ldn x.ld)(d3:qO w q x.bkn x.bk)(g5:x.bkn<=r) :
  Calls Tryz.prog 49 #[.agg #[.slice v x.san F,.slice K x.ldn E,.slice q x.bkn r]] w fun e w'=>qX (Zk x) e/\Below w.heap.size w w':=by
 have W:=hI d5;have b8:=hI G;have b5:=hI d3;have B:=hI hs;have n1:x.san<=1048576:=hs.1.1;clear d5 G d3 hs;have f:Below w.heap.size w (w.alloc (.cells #[.slice v x.san F,.slice K x.ldn E,.slice q x.bkn r] 38)):=zk bZ _;have u:=heap_alloc_new w (.cells #[.slice v x.san F,.slice K x.ldn E,.slice q x.bkn r] 38);go_enter Tryz.func49,Tryz.ntmps49;go_wp2_with fail;generalize w.alloc (.cells #[.slice v x.san F,.slice K x.ldn E,.slice q x.bkn r] 38)=V at f u ⊢;refine(zhf v x.san F x.sa _ n1 B.out.1.2 (W.out.below f)).mono ?_;rintro e V0 ⟨⟨t0,rfl,d6⟩,m⟩;have a5:=hI d6;have y:=zb u m;have g:=ze f m;clear u f m d6;have u:=y;have f:=g;clear y g;obtain⟨o0,o1,o2⟩:=ce3 u
 cases t0 with
 | false =>
  have HN:Hid (¬ Zk x):=fun h=>by have:=a5.out.2 (h.1);cases this
  go_wp2;go_ret;exact⟨zl HN.out,f⟩
 | true =>
 have d0:Hid (QJ x.san x.sa):=a5.out.1 rfl;clear a5;go_wp2_with fail;clear o0 o1 o2;refine(zjn x v K F E _ B.out (W.out.below f) (b8.out.below f)).mono ?_;rintro e V1 ⟨⟨t1,rfl,d7⟩,m⟩;have a6:=hI d7;have y:=zb u m;have g:=ze f m;clear u f m d7;have u:=y;have f:=g;clear y g;obtain⟨o0,o1,o2⟩:=ce3 u
 cases t1 with
 | false =>
  have HN:Hid (¬ Zk x):=fun h=>by have:=a6.out.2 (⟨h.2.1,h.2.2.2.1⟩);cases this
  go_wp2;go_ret;exact⟨zl HN.out,f⟩
 | true =>
 have U:Hid (x.ldn=x.san/\∀ k,k<x.san->qm (x.sa k) (x.ld k)):=a6.out.1 rfl;clear a6;go_wp2_with fail;clear o0 o1 o2;refine(zfX x v q F r _ B.out d0.out (W.out.below f) (b5.out.below f) g5).mono ?_;rintro e V2 ⟨⟨t2,rfl,d8⟩,m⟩;have a7:=hI d8;have y:=zb u m;have g:=ze f m;clear u f m d8;have u:=y;have f:=g;clear y g;obtain⟨o0,o1,o2⟩:=ce3 u
 cases t2 with
 | false =>
  have HN:Hid (¬ Zk x):=fun h=>by have:=a7.out.2 (⟨h.2.2.1,h.2.2.2.2.1⟩);cases this
  go_wp2;go_ret;exact⟨zl HN.out,f⟩
 | true =>
 have a4:Hid (x.bkn<=30/\∀ i,i<x.bkn->Zt x i):=a7.out.1 rfl;clear a7;go_wp2;clear o0 o1 o2;obtain⟨C,hC,hI⟩:=b5.out;have HC:=hI hC;have HI:=hI hI;have e5:=hI u;have a3:=hI f;clear hC hI u f;go_loopw [3,4,28] (fun _ _ i wr=>∃ k:Nat,k<=x.san/\i=int i64 k/\(∀ j,j<k->zaQ x j)/\Below V2.heap.size V2 wr) (fun _ _ i _=>x.san - (intOf i).toNat)
 case atStart=>exact⟨0,Nat.zero_le _,rfl,fun j hj=>by omega,bZ⟩
 case round =>
  obtain⟨k,hk,rfl,a2,I⟩:=hrel;have HA:=hI a2;clear a2
  by_cases hlt:k<x.san
  ·have n:=ze a3.out I
   obtain⟨sb,so,la,lc,ca,cc,rfl,f0,f1,f2,f3,f4,f5,f6,f7,d4,a8,e1,e0⟩:=W.out k hlt;obtain⟨s,a1⟩:∃ s,s=x.sa k:=⟨_,rfl⟩;rw[← a1] at f0 f1 f2 f3 f4 f5 f6 f7 d4 a8 e1 e0;have d1:=hI a1;have z:=World.block_lt_of_cell? w _ f0;have c0:=(n.cell (p:=⟨sb,so+k*8,none⟩) z).trans f0;have c1:=(n.cell (p:=⟨sb,so+k*8+1,none⟩) z).trans f1;have c2:=(n.cell (p:=⟨sb,so+k*8+2,none⟩) z).trans f2;have c3:=(n.cell (p:=⟨sb,so+k*8+3,none⟩) z).trans f3;have c4:=(n.cell (p:=⟨sb,so+k*8+4,none⟩) z).trans f4;have c5:=(n.cell (p:=⟨sb,so+k*8+5,none⟩) z).trans f5;have c6:=(n.cell (p:=⟨sb,so+k*8+6,none⟩) z).trans f6;have c7:=(n.cell (p:=⟨sb,so+k*8+7,none⟩) z).trans f7;obtain⟨D,hD,hJ⟩:=b8.out;have a0:k<x.ldn:=by have:=U.out.1;omega
   obtain⟨H,lo,rfl,hc⟩:=hD k a0;obtain⟨l,G⟩:∃ l,l=x.ld k:=⟨_,rfl⟩;have a9:=B.out.2.1.2 k a0;obtain⟨O,S,M,Q,N,R,eC,b3,e4,b1,e2,b2,e3⟩:=hJ k a0;rw[← G] at eC b3 e4 b1 e2 b2 e3 a9;have b9:=hI G;have b4:H<w.heap.size:=World.block_lt_of_cell? w _ (hc 0 (by decide))
   have HD:Hid (∀ w',Below w.heap.size w w'->w'.cell? ⟨H,lo+k*3,none⟩=some (.slice O l.stn S)/\w'.cell? ⟨H,lo+k*3+1,none⟩=some (.slice M l.ron Q)/\w'.cell? ⟨H,lo+k*3+2,none⟩=some (.slice N l.sen R)):=fun w' h =>
    ⟨(h.cell (p:=⟨H,lo+k*3,none⟩) b4).trans (by have:=hc 0 (by decide);rw[eC] at this;exact this),(h.cell (p:=⟨H,lo+k*3+1,none⟩) b4).trans (by have:=hc 1 (by decide);rw[eC] at this;exact this),(h.cell (p:=⟨H,lo+k*3+2,none⟩) b4).trans (by have:=hc 2 (by decide);rw[eC] at this;exact this)⟩
   have e6:=hI a8;have f8:=hI b3;have e8:=hI b1;have e9:=hI b2;have e7:=hI a9;have b0:=U.out.2 k hlt;rw[← a1,← G] at b0;have c9:=hI b0;have h0:(0:Int)<=(k:Int):=by omega
   have h1:(k:Int)<(x.ldn:Int):=by omega
   clear hD hJ hc eC a1 G f0 f1 f2 f3 f4 f5 f6 f7 d4 a8 e1 e0 b3 e4 b1 e2 b2 e3 a9 a0 b0;have Z:=zk I (.cells #[int i64 s.id,.string s.fr,.string s.dst,int i64 s.dep,int i64 s.arr,.slice la s.la.n lc,.slice ca s.ca.n cc,int i64 s.most] 140);have J:=heap_alloc_new wr (.cells #[int i64 s.id,.string s.fr,.string s.dst,int i64 s.dep,int i64 s.arr,.slice la s.la.n lc,.slice ca s.ca.n cc,int i64 s.most] 140);go_upto_region 6 with fail;generalize hBx:wr.heap.size=A at J ⊢;generalize wr.alloc (.cells #[int i64 s.id,.string s.fr,.string s.dst,int i64 s.dep,int i64 s.arr,.slice la s.la.n lc,.slice ca s.ca.n cc,int i64 s.most] 140)=X at Z J ⊢;clear hBx c0 c1 c2 c3 c4 c5 c6 c7 I n;have u:=zb e5.out Z;have d2:=ze a3.out Z;have BW:Hid (∀ w',Below X.heap.size X w'->Below w.heap.size w w'):=fun w' h=>ze d2 h
   have KS:Hid (∀ w',Below X.heap.size X w'->(w'.cell? ⟨A,0,none⟩=some (int i64 s.id)/\w'.cell? ⟨A,1,none⟩=some (.string s.fr)/\w'.cell? ⟨A,2,none⟩=some (.string s.dst)/\w'.cell? ⟨A,3,none⟩=some (int i64 s.dep)/\w'.cell? ⟨A,4,none⟩=some (int i64 s.arr)/\w'.cell? ⟨A,5,none⟩=some (.slice la s.la.n lc)/\w'.cell? ⟨A,6,none⟩=some (.slice ca s.ca.n cc)/\w'.cell? ⟨A,7,none⟩=some (int i64 s.most) /\
     w'.cell? ⟨w.heap.size,1,none⟩=some (.slice (some ⟨H,lo,none⟩) x.ldn E)/\w'.cell? ⟨w.heap.size,2,none⟩=some (.slice q x.bkn r) /\
     w'.cell? ⟨H,lo+k*3,none⟩=some (.slice O l.stn S)/\w'.cell? ⟨H,lo+k*3+1,none⟩=some (.slice M l.ron Q)/\w'.cell? ⟨H,lo+k*3+2,none⟩=some (.slice N l.sen R))):=fun w' h=>by
    have g1:=zb J h;have g2:=zb u h;have g3:=HD.out w' (ze d2 h);exact⟨za g1 0 _ rfl,za g1 1 _ rfl,za g1 2 _ rfl,za g1 3 _ rfl,za g1 4 _ rfl,za g1 5 _ rfl,za g1 6 _ rfl,za g1 7 _ rfl,za g2 1 _ rfl,za g2 2 _ rfl,g3.1,g3.2.1,g3.2.2⟩
   obtain⟨P,hP⟩:∃ P:Nat->Prop,P=fun i=>OnB (x.bk i) s.id:=⟨_,rfl⟩
   have b6:Hid (∀ w',Below w.heap.size w w'->Calls Tryz.prog 101 #[.slice q x.bkn r,int i64 s.id] w' fun e w2=>(∃ Y c,e=.returned (.slice Y (onL P x.bkn).length c)/\w2.ownsRow w.heap.size 150 13 (.slice Y (onL P x.bkn).length c) (onL P x.bkn).length (zgY C P x.bkn))/\Below w'.heap.size w' w2):=fun w' h =>
    (zeg q x.bkn r x.bk C s.id w' B.out.2.2.1 B.out.2.2.2 (HC.out.below h) (fun j hj=>(HI.out j hj).below h)).mono fun _ _ ⟨⟨Y,c,a,_,b⟩,d⟩=>by
     rw[hP];exact⟨⟨Y,c,a,zu b h.size⟩,d⟩
   have b7:Hid (∀ w' Y c,Below w.heap.size w w'->w'.ownsRow w.heap.size 150 13 (.slice Y (onL P x.bkn).length c) (onL P x.bkn).length (zgY C P x.bkn)->Calls Tryz.prog 100 #[.agg #[int i64 s.id,.string s.fr,.string s.dst,int i64 s.dep,int i64 s.arr,.slice la s.la.n lc,.slice ca s.ca.n cc,int i64 s.most],.agg #[.slice O l.stn S,.slice M l.ron Q,.slice N l.sen R],.slice Y (onL P x.bkn).length c] w' fun e w2=>qX (zaQ x k) e/\Below w'.heap.size w' w2):=fun w' Y c h ho=>by
    have g7:zgV s l (onL P x.bkn).length (fun j=>x.bk (onI P x.bkn j))↔zaQ x k:=by
     have:=just_iff (o:=x) (k:=k) (by rw[← d1.out,← b9.out];exact c9.out) (fun i hi=>(a4.out.2 i hi).2.2.2.2.1)
     rw[hP,d1.out,b9.out];exact this
    refine(zjl s l (onL P x.bkn).length (fun j=>x.bk (onI P x.bkn j)) (fun j=>C (onI P x.bkn j)) la ca O M N Y lc cc S Q R c w' (Nat.le_trans (onL_le P _) B.out.2.2.1) e7.out (zki c9.out.2.1) (e6.out.below h) (f8.out.below h) (e8.out.below h) (e9.out.below h) (QT.of_own ho) (fun j hj=>(HI.out _ (zmJ P x.bkn j hj).1).below h)).mono ?_
    rintro e w2 ⟨⟨b,rfl,hb⟩,hd⟩;exact⟨⟨b,rfl,by rw[hb,g7]⟩,hd⟩
   clear hP u J;go_cut [28,45] (fun i c wx=>i=int i64 k/\zll (zaQ x k) c/\Below w.heap.size w wx/\Below V2.heap.size V2 wx)
   case first =>
    go_region_held3 (fun w'=>w'.cell? ⟨A,0,none⟩=some (int i64 s.id)/\w'.cell? ⟨A,1,none⟩=some (.string s.fr)/\w'.cell? ⟨A,2,none⟩=some (.string s.dst)/\w'.cell? ⟨A,3,none⟩=some (int i64 s.dep)/\w'.cell? ⟨A,4,none⟩=some (int i64 s.arr)/\w'.cell? ⟨A,5,none⟩=some (.slice la s.la.n lc)/\w'.cell? ⟨A,6,none⟩=some (.slice ca s.ca.n cc)/\w'.cell? ⟨A,7,none⟩=some (int i64 s.most) /\
      w'.cell? ⟨w.heap.size,1,none⟩=some (.slice (some ⟨H,lo,none⟩) x.ldn E)/\w'.cell? ⟨w.heap.size,2,none⟩=some (.slice q x.bkn r) /\
      w'.cell? ⟨H,lo+k*3,none⟩=some (.slice O l.stn S)/\w'.cell? ⟨H,lo+k*3+1,none⟩=some (.slice M l.ron Q)/\w'.cell? ⟨H,lo+k*3+2,none⟩=some (.slice N l.sen R))
     ((refine KS.out _ ?_;exact(by repeat(first|exact bZ|refine Below.drew ?_|refine ze ?_ T|refine ze ?_ L))))
     (first
      | (go_at_call 101;refine Calls.mono (b6.out _ (BW.out _ (by repeat(first | exact bZ | refine Below.drew ?_ | refine ze ?_ T | refine ze ?_ L)))) ?_;rintro e w4 ⟨⟨f9,c4,rfl,g6⟩,T⟩)
      | (go_at_call 100;refine Calls.mono (b7.out _ f9 c4 (BW.out _ (by repeat(first | exact bZ | refine Below.drew ?_ | refine ze ?_ T | refine ze ?_ L))) (zo (w:=w4) (by repeat(first | exact bZ | refine Below.drew ?_ | refine ze ?_ L)) g6)) ?_;rintro e w5 ⟨⟨t5,rfl,d9⟩,L⟩))
    all_goals
     go_wp2;go_meet;refine⟨rfl,?_,BW.out _ (by repeat(first|exact bZ|refine Below.drew ?_|refine ze ?_ T|refine ze ?_ L)),ze Z (by repeat(first|exact bZ|refine Below.drew ?_|refine ze ?_ T|refine ze ?_ L))⟩
     cases t5 with
     | true=>exact Q5 (d9.1 rfl)
     | false=>exact QP (fun h=>by have:=d9.2 h;cases this)
   case rest =>
    obtain⟨rfl,⟨t,rfl,ht⟩,g0,g4⟩:=hcut;have HT:=hI ht;clear ht KS BW b6 b7 HD
    cases t with
    | true =>
     have HN:Hid (¬ Zk x):=fun h=>by have:=HT.out.2 (h.2.2.2.2.2 k hlt);cases this
     go_wp2;go_ret;exact⟨zl HN.out,g0⟩
    | false =>
     have HK:Hid (zaQ x k):=HT.out.1 rfl;clear HT;go_wp2;go_roundw
     case rel=>exact⟨k+1,by omega,by go_num,fun j hj=>by
      by_cases e:j=k
      ·subst e;exact HK.out
      ·exact HA.out j (by omega),g4⟩
     case measure=>simp[intOf];omega
  ·obtain rfl:k=x.san:=by omega
   have HY:Hid (Zk x):=⟨d0.out,U.out.1,a4.out.1,U.out.2,a4.out.2,HA.out⟩;have n:=ze a3.out I;clear HA;go_wp2;go_ret;exact⟨zR HY.out,n⟩
end Go.Proofs.YtmdnjgihooflfaaGreatDoor
