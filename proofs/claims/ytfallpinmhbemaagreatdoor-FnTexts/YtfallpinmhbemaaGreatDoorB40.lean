/-
  OWN TEXT: KindR, OpInI, PlainBk, PlainBl, PlainBm.
-/
import Derived.Test.YtfallpinmhbemaaGreatDoorB39
namespace Go.Proofs.YtfallpinmhbemaaGreatDoor
open Go.RowKit
open Go.Value (int)
open Go.IntKind (i64)
set_option maxHeartbeats 64000000
set_option maxRecDepth 100000
def zcO (s:ByteArray):Nat->Nat
 | 0=>0
 | n+1=>if zcO s n<n then zcO s n else if zP n=s then n else n+1
def Zl (s:ByteArray):Nat:=if zcO s 10<10 then zcO s 10 else 0
theorem zeA {s:ByteArray}{n:Nat}(h:∀ j,j<n->zP j≠s):zcO s n=n:=by
 induction n with
 | zero=>rfl
 | succ n ih =>
  unfold zcO;rw[ih (fun j hj=>h j (by omega)),if_neg (by omega),if_neg (h n (by omega))]
theorem kindTo_at {s:ByteArray}{n k:Nat}(hk:k<n)(a:zP k=s)(h:∀ j,j<k->zP j≠s):zcO s n=k:=by
 induction n with
 | zero=>omega
 | succ n ih =>
  unfold zcO
  by_cases c:k<n
  ·rw[ih c,if_pos c]
  ·obtain rfl:k=n:=by omega
   rw[zeA h,if_neg (by omega),if_pos a]
theorem kindOf_lt (s:ByteArray):Zl s<10:=by
 unfold Zl
 split <;> omega
theorem zhy:∀ {k:Nat},k<10->Zl (zP k)=k:=by decide
theorem ten_0 (w:World):(Instr.index 84 (.agg #[.string (zP 0),.string (zP 1),.string (zP 2),.string (zP 3),.string (zP 4),.string (zP 5),.string (zP 6),.string (zP 7),.string (zP 8),.string (zP 9)]) (int i64 0)).run Tryz.prog w=.ok (.string (zP 0)) w:=by kernel_rfl
theorem ten_1 (w:World):(Instr.index 84 (.agg #[.string (zP 0),.string (zP 1),.string (zP 2),.string (zP 3),.string (zP 4),.string (zP 5),.string (zP 6),.string (zP 7),.string (zP 8),.string (zP 9)]) (int i64 1)).run Tryz.prog w=.ok (.string (zP 1)) w:=by kernel_rfl
theorem ten_2 (w:World):(Instr.index 84 (.agg #[.string (zP 0),.string (zP 1),.string (zP 2),.string (zP 3),.string (zP 4),.string (zP 5),.string (zP 6),.string (zP 7),.string (zP 8),.string (zP 9)]) (int i64 2)).run Tryz.prog w=.ok (.string (zP 2)) w:=by kernel_rfl
theorem ten_3 (w:World):(Instr.index 84 (.agg #[.string (zP 0),.string (zP 1),.string (zP 2),.string (zP 3),.string (zP 4),.string (zP 5),.string (zP 6),.string (zP 7),.string (zP 8),.string (zP 9)]) (int i64 3)).run Tryz.prog w=.ok (.string (zP 3)) w:=by kernel_rfl
theorem ten_4 (w:World):(Instr.index 84 (.agg #[.string (zP 0),.string (zP 1),.string (zP 2),.string (zP 3),.string (zP 4),.string (zP 5),.string (zP 6),.string (zP 7),.string (zP 8),.string (zP 9)]) (int i64 4)).run Tryz.prog w=.ok (.string (zP 4)) w:=by kernel_rfl
theorem ten_5 (w:World):(Instr.index 84 (.agg #[.string (zP 0),.string (zP 1),.string (zP 2),.string (zP 3),.string (zP 4),.string (zP 5),.string (zP 6),.string (zP 7),.string (zP 8),.string (zP 9)]) (int i64 5)).run Tryz.prog w=.ok (.string (zP 5)) w:=by kernel_rfl
theorem ten_6 (w:World):(Instr.index 84 (.agg #[.string (zP 0),.string (zP 1),.string (zP 2),.string (zP 3),.string (zP 4),.string (zP 5),.string (zP 6),.string (zP 7),.string (zP 8),.string (zP 9)]) (int i64 6)).run Tryz.prog w=.ok (.string (zP 6)) w:=by kernel_rfl
theorem ten_7 (w:World):(Instr.index 84 (.agg #[.string (zP 0),.string (zP 1),.string (zP 2),.string (zP 3),.string (zP 4),.string (zP 5),.string (zP 6),.string (zP 7),.string (zP 8),.string (zP 9)]) (int i64 7)).run Tryz.prog w=.ok (.string (zP 7)) w:=by kernel_rfl
theorem ten_8 (w:World):(Instr.index 84 (.agg #[.string (zP 0),.string (zP 1),.string (zP 2),.string (zP 3),.string (zP 4),.string (zP 5),.string (zP 6),.string (zP 7),.string (zP 8),.string (zP 9)]) (int i64 8)).run Tryz.prog w=.ok (.string (zP 8)) w:=by kernel_rfl
theorem ten_9 (w:World):(Instr.index 84 (.agg #[.string (zP 0),.string (zP 1),.string (zP 2),.string (zP 3),.string (zP 4),.string (zP 5),.string (zP 6),.string (zP 7),.string (zP 8),.string (zP 9)]) (int i64 9)).run Tryz.prog w=.ok (.string (zP 9)) w:=by kernel_rfl
theorem ten_at (w:World)(k:Nat)(hk:k<10):(Instr.index 84 (.agg #[.string (zP 0),.string (zP 1),.string (zP 2),.string (zP 3),.string (zP 4),.string (zP 5),.string (zP 6),.string (zP 7),.string (zP 8),.string (zP 9)]) (int i64 k)).run Tryz.prog w=.ok (.string (zP k)) w:=by
 have a:k=0∨k=1∨k=2∨k=3∨k=4∨k=5∨k=6∨k=7∨k=8∨k=9:=by omega
 rcases a with rfl|rfl|rfl|rfl|rfl|rfl|rfl|rfl|rfl|rfl
 ·exact ten_0 w
 ·exact ten_1 w
 ·exact ten_2 w
 ·exact ten_3 w
 ·exact ten_4 w
 ·exact ten_5 w
 ·exact ten_6 w
 ·exact ten_7 w
 ·exact ten_8 w
 ·exact ten_9 w
theorem zgx (s:ByteArray)(w:World)(a:Qc w) :
  Calls Tryz.prog 50 #[.string s] w fun e w'=>e=.returned (int i64 (Zl s))/\Below w.heap.size w w':=by
 have o:=a 0 (by decide)
 have p:=a 1 (by decide)
 have q:=a 2 (by decide)
 have r:=a 3 (by decide)
 have t:=a 4 (by decide)
 have u:=a 5 (by decide)
 have v:=a 6 (by decide)
 have x:=a 7 (by decide)
 have y:=a 8 (by decide)
 have A:=a 9 (by decide)
 clear a;have l:Hid (∀ k:Nat,k<10->∀ W:World,(Instr.index 84 (.agg #[.string (zP 0),.string (zP 1),.string (zP 2),.string (zP 3),.string (zP 4),.string (zP 5),.string (zP 6),.string (zP 7),.string (zP 8),.string (zP 9)]) (int i64 k)).run Tryz.prog W=.ok (.string (zP k)) W):=fun k h W=>ten_at W k h
 go_enter Tryz.func50,Tryz.ntmps50;go_wp2;clear o p q r t u v x y A;go_loopw [3,4,6] (fun _ _ i B=>∃ k:Nat,k<=10/\i=int i64 k/\Hid (∀ j,j<k->zP j≠s)/\B=w) (fun _ _ i _=>10 - (intOf i).toNat)
 case atStart=>exact⟨0,Nat.zero_le _,rfl,fun j n=>by omega,rfl⟩
 case round =>
  obtain⟨k,h,rfl,c,b⟩:=hrel;have b:=b.symm;subst b
  by_cases hlt:k<10
  ·have hx:=l.out k hlt
   have d1:decide ((k:Int)<10)=true:=decide_eq_true (by omega)
   by_cases he:zP k=s
   ·have m:(s.toList == (zP k).toList)=true:=Q4.2 he.symm
    have f:Hid ((k:Int)=(Zl s:Int)):=by
     have g:=kindTo_at hlt he c.out
     show(k:Int)=(Zl s:Int)
     unfold Zl;rw[g,if_pos hlt]
    clear he;go_wp2;go_ret;exact⟨congrArg (fun z=>Ending.returned (Value.int .i64 z)) f.out,bZ⟩
   ·have m:(s.toList == (zP k).toList)=false:=zaz.2 (fun e=>he e.symm)
    have d:Hid (∀ j,j<k+1->zP j≠s):=fun j n=>by
     by_cases e:j=k
     ·rw[e];exact he
     ·exact c.out j (by omega)
    clear he;go_wp2;go_roundw
    case rel=>exact⟨k+1,by omega,by go_num,d,trivial⟩
    case measure=>simp[intOf];omega
  ·have d1:decide ((k:Int)<10)=false:=decide_eq_false (by omega)
   have f:Hid (0=(Zl s:Int)):=by
    obtain rfl:k=10:=by omega
    have g:=zeA c.out
    show 0=(Zl s:Int)
    unfold Zl;rw[g,if_neg (by omega)]
    rfl
   go_wp2;go_ret;exact⟨congrArg (fun z=>Ending.returned (Value.int .i64 z)) f.out,bZ⟩
section
open Go.RowKit
structure OpR where
 kind:Int
 own:ByteArray
 name:Int
 v:Value
 L:List Int
 p:Zf
 unt:Int
 now:Int
def OpR.cs (x:OpR):Array Value:=#[int i64 x.kind,.string x.own,int i64 x.name,x.v,int i64 x.p.pe,int i64 x.p.len,int i64 x.p.hei,int i64 x.p.cl,.bool x.p.all,int i64 x.p.be,int i64 x.unt,int i64 x.now]
def OpR.d (x:OpR):OpD:=⟨x.kind,x.own,x.name,x.L.length,getI x.L,x.p.pe,x.p.len,x.p.hei,x.p.cl,x.p.all,x.p.be,x.unt,x.now⟩
def ZA:Zf:=⟨0,0,0,0,false,0⟩
def nx (b:Bool)(l:List ByteArray):List ByteArray:=if b then l.tail else l
def hd (l:List ByteArray):ByteArray:=l.headD ⟨#[]⟩
def wd1 (l:List ByteArray):List ByteArray:=l.tail
def wd2 (k:Nat)(l:List ByteArray):List ByteArray:=nx (qM k) (wd1 l)
def wd3 (k:Nat)(l:List ByteArray):List ByteArray:=nx (qr k) (wd2 k l)
def wd4 (k:Nat)(l:List ByteArray):List ByteArray:=nx (decide (0<qx k)) (wd3 k l)
def wd5 (k:Nat)(l:List ByteArray):List ByteArray:=nx (qp k) (wd4 k l)
def wd6 (k:Nat)(l:List ByteArray):List ByteArray:=nx (qs k) (wd5 k l)
def wd7 (k:Nat)(l:List ByteArray):List ByteArray:=nx (Qg k) (wd6 k l)
theorem zfu (b:Nat)(l:List ByteArray)(w:World)(h:WSt w b l) :
  Calls Tryz.prog 51 #[.pointer (some ⟨b,0,none⟩)] w fun e w'=>e=.returned (.string (hd l))/\Hid (WSt w' b l.tail)/\zA w w' (fun k=>k=b):=zbm b l w h
theorem name_hd (b:Nat)(l:List ByteArray)(w:World)(h:WSt w b l)(hl:(hd l).size<=1048576) :
  Calls Tryz.prog 53 #[.pointer (some ⟨b,0,none⟩)] w fun e w'=>e=.returned (.string (hd l))/\Hid (WSt w' b l.tail)/\zA w w' (fun k=>k=b):=name_any b l w h (by unfold hd at hl;omega)
theorem zcc (b:Nat)(l:List ByteArray)(w:World)(h:WSt w b l)(a:Ze w)(c:4≠b) :
  Calls Tryz.prog 52 #[.pointer (some ⟨b,0,none⟩)] w fun e w'=>e=.returned (int i64 (zI (hd l)))/\Hid (WSt w' b l.tail)/\zA w w' (fun k=>k=b):=ziz b l w h a c
structure zhR (l:List ByteArray)(x:OpR):Prop where
 kind:x.kind=(Zl (hd l):Int)
 name:x.name=if qM (Zl (hd l)) then zI (hd (wd1 l)) else 0
 own:x.own=if qr (Zl (hd l)) then hd (wd2 (Zl (hd l)) l) else ⟨#[]⟩
 legs:(decide (0<qx (Zl (hd l)))=true->zbr (hd (wd3 (Zl (hd l)) l)) x.L)/\(decide (0<qx (Zl (hd l)))=false->x.L=[])
 party:x.p=if qp (Zl (hd l)) then zcb (hd (wd4 (Zl (hd l)) l)) else ZA
 unt:x.unt=if qs (Zl (hd l)) then zI (hd (wd5 (Zl (hd l)) l)) else 0
 now:x.now=if Qg (Zl (hd l)) then zI (hd (wd6 (Zl (hd l)) l)) else 0
structure OSt (w a:World)(b d c e:Nat)(k:Nat)(x:OpR)(L:List ByteArray):Prop where
 r:a.heap[d]?=some (.cells #[int i64 0,.string ⟨#[]⟩,int i64 0,.slice none 0 0,int i64 0,int i64 0,int i64 0,int i64 0,.bool false,int i64 0,int i64 0,int i64 0] 27 (0,0))
 o:a.heap[c]?=some (.cells x.cs 27 (0,0))
 f:a.heap[e]?=some (.cells #[.bool (qr k),.bool (qM k),int i64 (qx k),.bool (qp k),.bool (qs k),.bool (Qg k),.bool (Zc k)] 69 (0,0))
 ws:WSt a b L
 ne:d≠c
 lo:w.heap.size<=d/\w.heap.size<=c/\w.heap.size<=e
 leg:a.ownsRow w.heap.size 3 1 x.v x.L.length (QK x.L)
 kept:zA w a (fun g=>g=b)
section
variable {w wx wy : World} {b rb ob fb k : Nat} {x : OpR} {L L' : List ByteArray}
theorem OSt.below (h:OSt w wx b rb ob fb k x L)(a:Below wx.heap.size wx wy):OSt w wy b rb ob fb k x L :=
 ⟨zc h.r a,zc h.o a,zc h.f a,h.ws.below a,h.ne,h.lo,zm a h.leg,h.kept.trans (zA.of_below a)⟩
theorem QT {w:World}{b g t:Nat}{L:List ByteArray}{cs:Array Value}(h:WSt w b L)(c:w.heap[g]?=some (.cells cs t (0,0)))(d:t≠94):¬ g=b:=by
 rintro rfl;obtain⟨_,_,a,_⟩:=h;rw[c] at a;simp only[Option.some.injEq,Obj.cells.injEq] at a;exact d a.2.1
theorem OSt.words (h:OSt w wx b rb ob fb k x L)(d:WSt wy b L')(a:zA wx wy (fun g=>g=b)):OSt w wy b rb ob fb k x L':=by
 obtain⟨_,_,c,_⟩:=id h.ws;exact⟨a.blk h.r (QT h.ws h.r (by decide)),a.blk h.o (QT h.ws h.o (by decide)),a.blk h.f (QT h.ws h.f (by decide)),d,h.ne,h.lo,a.own h.leg (Zt h.leg c (by decide)),h.kept.trans a⟩
theorem OSt.store (h:OSt w wx b rb ob fb k x L)(i:Nat)(u:Value)(y:OpR)(l:y.cs=x.cs.setIfInBounds i u)(hl:wx.ownsRow w.heap.size 3 1 y.v y.L.length (QK y.L)):OSt w (wx.setCell ⟨ob,i,none⟩ u) b rb ob fb k y L:=by
 have d:zA wx (wx.setCell ⟨ob,i,none⟩ u) (fun g=>g=ob):=(zA.refl wx (fun g=>g=ob)).set (a:=⟨ob,i,none⟩) rfl u
 have j:¬ fb=ob:=by
  rintro rfl;have f:=h.f;rw[h.o] at f;simp only[Option.some.injEq,Obj.cells.injEq] at f;exact absurd f.2.1 (by decide)
 refine⟨d.blk h.r h.ne,?_,d.blk h.f j,?_,h.ne,h.lo,d.own hl (Zt hl h.o (by decide)),?_⟩
 ·rw[l]
  exact zy h.o i u
 ·refine h.ws.kept d (fun e=>QT h.ws h.o (by decide) e.symm) (fun g cur c e=>?_)
  have e:g=ob:=e;rw[e,h.o] at c;simp only[Option.some.injEq,Obj.cells.injEq] at c;exact absurd c.2.1 (by decide)
 ·refine⟨h.kept.os,h.kept.tape,h.kept.output,by rw[World.size_setCell];exact h.kept.size,fun g c hn=>?_⟩
  rw[d.block g (by have:=h.kept.size;omega) (fun e=>by have e:g=ob:=e;have:=h.lo.2.1;omega)]
  exact h.kept.block g c hn
end
theorem opDone {w d z:World}{b c j f k:Nat}{x:OpR}{L:List ByteArray}(h:OSt w d b c j f k x L)(a:zA d z (fun g=>g=c)):z.ownsRow w.heap.size 3 1 x.v x.L.length (QK x.L)/\zA w z (fun g=>g=b):=by
 refine⟨a.own h.leg (Zt h.leg h.r (by decide)),⟨a.os.trans h.kept.os,a.tape.trans h.kept.tape,a.output.trans h.kept.output,Nat.le_trans h.kept.size a.size,fun g i hn=>?_⟩⟩
 rw[a.block g (by have:=h.kept.size;omega) (fun e=>by have e:g=c:=e;have:=h.lo.1;omega)]
 exact h.kept.block g i hn
theorem opIn_any (b:Nat)(l:List ByteArray)(w:World)(hl:∀ q,q ∈ l->q.size<=1048576)(h:WSt w b l)(hP:Ze w)(hF:Qb w)(hW:Qc w)(a8:4≠b)(i1:0≠b)(i2:1≠b) :
  Calls Tryz.prog 21 #[.pointer (some ⟨b,0,none⟩)] w fun e w'=>∃ x:OpR,e=.returned (.agg x.cs)/\w'.ownsRow w.heap.size 3 1 x.v x.L.length (QK x.L)/\Hid (zhR l x)/\zA w w' (fun g=>g=b):=by
 have O:Hid (∀ o,zA w o (fun g=>g=b)->Ze o):=fun o hk=>zfs (S:=fun g=>g=b) hP hk a8
 have i0:Hid (∀ o,zA w o (fun g=>g=b)->Qc o):=fun o hk j hj=>by
  rw[← hW j hj];exact World.cell?_of_block (hk.block _ hW.lt i2)
 have g7:Hid (∀ o,zA w o (fun g=>g=b)->Qb o):=fun o hk=>by
  have e:=hk.block _ hF.lt i1;intro j hj;obtain⟨h0,h1,h2,h3,h4,h5,h6⟩:=hF j hj;exact⟨(World.cell?_of_block e).trans h0,(World.cell?_of_block e).trans h1,(World.cell?_of_block e).trans h2,(World.cell?_of_block e).trans h3,(World.cell?_of_block e).trans h4,(World.cell?_of_block e).trans h5,(World.cell?_of_block e).trans h6⟩
 have c1:Hid (∀ L:List ByteArray,(∀ q,q ∈ L->q ∈ l)->(hd L).size<=1048576):=fun L hL=>by
  unfold hd
  cases L with
  | nil=>exact Nat.zero_le _
  | cons q r=>exact hl q (hL q (by simp))
 have D:∀ q,q ∈ wd1 l->q ∈ l:=fun q hq=>List.mem_of_mem_tail hq
 have G:∀ (b:Bool) (L:List ByteArray),(∀ q,q ∈ L->q ∈ l)->∀ q,q ∈ nx b L->q ∈ l:=fun b L hL q hq=>by
  unfold nx at hq
  split at hq
  ·exact hL q (List.mem_of_mem_tail hq)
  ·exact hL q hq
 have c0:Hid ((∀ q,q ∈ wd1 l->q ∈ l)/\(∀ q,q ∈ wd2 (Zl (hd l)) l->q ∈ l)/\(∀ q,q ∈ wd3 (Zl (hd l)) l->q ∈ l)/\(∀ q,q ∈ wd4 (Zl (hd l)) l->q ∈ l)) :=
  ⟨D,G _ _ D,G _ _ (G _ _ D),G _ _ (G _ _ (G _ _ D))⟩
 have hr:=heap_alloc_new w (.cells #[int i64 0,.string ⟨#[]⟩,int i64 0,.slice none 0 0,int i64 0,int i64 0,int i64 0,int i64 0,.bool false,int i64 0,int i64 0,int i64 0] 27);have a7:Below w.heap.size w (w.alloc (.cells #[int i64 0,.string ⟨#[]⟩,int i64 0,.slice none 0 0,int i64 0,int i64 0,int i64 0,int i64 0,.bool false,int i64 0,int i64 0,int i64 0] 27)):=zr bZ _;have a5:=hI (h.below a7);clear h hP hF hW D G hl;go_enter Tryz.func21,Tryz.ntmps21;go_upto_region 1 with fail;generalize w.alloc (.cells #[int i64 0,.string ⟨#[]⟩,int i64 0,.slice none 0 0,int i64 0,int i64 0,int i64 0,int i64 0,.bool false,int i64 0,int i64 0,int i64 0] 27)=W at hr a7 a5 ⊢;have e5:zA w W (fun g=>g=b):=zA.of_below a7
 go_wp2_with fail;refine(zfu b l _ a5.out).mono ?_;rintro e w2 ⟨rfl,e2,c3⟩;have i6:¬ w.heap.size=b:=QT a5.out hr (by decide)
 have e9:=c3.blk hr i6;have c2:=e5.trans c3;clear hr a7 a5 e5 c3;go_wp2_with fail;refine(zgx (hd l) _ (i0.out _ c2)).mono ?_;rintro e w3 ⟨rfl,hb⟩;have d5:=zc e9 hb;have e4:=c2.trans (zA.of_below (S:=fun g=>g=b) hb)
 have e3:=hI (e2.out.below hb);have e6:=kindOf_lt (hd l);have e7:=zZ d5;obtain⟨k,hk⟩:∃ k,k=Zl (hd l):=⟨_,rfl⟩;have V:=hI hk.symm;rw[← hk] at e6 ⊢;clear e9 hb c2 e2 hk;have b4:=heap_alloc_new w3 (.cells #[int i64 (k:Int),.string ⟨#[]⟩,int i64 0,.slice none 0 0,int i64 0,int i64 0,int i64 0,int i64 0,.bool false,int i64 0,int i64 0,int i64 0] 27);have p4:Below w3.heap.size w3 (w3.alloc (.cells #[int i64 (k:Int),.string ⟨#[]⟩,int i64 0,.slice none 0 0,int i64 0,int i64 0,int i64 0,int i64 0,.bool false,int i64 0,int i64 0,int i64 0] 27)):=zr bZ _;go_upto_region 2 with fail;generalize w3.alloc (.cells #[int i64 (k:Int),.string ⟨#[]⟩,int i64 0,.slice none 0 0,int i64 0,int i64 0,int i64 0,int i64 0,.bool false,int i64 0,int i64 0,int i64 0] 27)=B at b4 p4 ⊢;have a6:=e4.trans (zA.of_below (S:=fun g=>g=b) p4)
 have f0:=zc d5 p4;have A:=hI (e3.out.below p4);have C:=g7.out B a6;have t0:B.cell? ⟨0,k*7,none⟩=some (.bool (qr k)):=(C k (by omega)).1
 have t1:B.cell? ⟨0,k*7+1,none⟩=some (.bool (qM k)):=(C k (by omega)).2.1
 have t2:B.cell? ⟨0,k*7+2,none⟩=some (int i64 (qx k)):=(C k (by omega)).2.2.1
 have t3:B.cell? ⟨0,k*7+3,none⟩=some (.bool (qp k)):=(C k (by omega)).2.2.2.1
 have t4:B.cell? ⟨0,k*7+4,none⟩=some (.bool (qs k)):=(C k (by omega)).2.2.2.2.1
 have t5:B.cell? ⟨0,k*7+5,none⟩=some (.bool (Qg k)):=(C k (by omega)).2.2.2.2.2.1
 have t6:B.cell? ⟨0,k*7+6,none⟩=some (.bool (Zc k)):=(C k (by omega)).2.2.2.2.2.2
 have y0:=za b4 0 _ rfl;have i3:(0:Int)<=(k:Int):=by omega
 have i4:(k:Int)<10:=by omega
 have b5:=heap_alloc_new B (.cells #[.bool (qr k),.bool (qM k),int i64 (qx k),.bool (qp k),.bool (qs k),.bool (Qg k),.bool (Zc k)] 69);have p5:Below B.heap.size B (B.alloc (.cells #[.bool (qr k),.bool (qM k),int i64 (qx k),.bool (qp k),.bool (qs k),.bool (Qg k),.bool (Zc k)] 69)):=zr bZ _;have i5:=zZ b4;have p:Hid (OSt w (B.alloc (.cells #[.bool (qr k),.bool (qM k),int i64 (qx k),.bool (qp k),.bool (qs k),.bool (Qg k),.bool (Zc k)] 69)) b w.heap.size w3.heap.size B.heap.size k ⟨k,⟨#[]⟩,0,.slice none 0 0,[],ZA,0,0⟩ (wd1 l)) :=
  ⟨zc f0 p5,zc b4 p5,b5,A.out.below p5,by omega,⟨Nat.le_refl _,by omega,by have:=a6.size;omega⟩,World.ownsRow_nil _ _ _ _,a6.trans (zA.of_below p5)⟩
 clear d5 e4 e3 f0 b4 p4 b5 p5 A C;go_upto_region 3 with fail;generalize B.alloc (.cells #[.bool (qr k),.bool (qM k),int i64 (qx k),.bool (qp k),.bool (qs k),.bool (Qg k),.bool (Zc k)] 69)=W5 at p ⊢;generalize B.heap.size=y at p ⊢;generalize w3.heap.size=t at p ⊢;clear t0 t1 t2 t3 t4 t5 t6 y0 i3 i4 a6 i5 e7;clear B w3 w2 W;generalize w.heap.size=u at p ⊢;have f1:=za p.out.f 1 _ rfl;obtain⟨q1,c5⟩:∃ q,q=qM k:=⟨_,rfl⟩;have X:=hI c5.symm;rw[← c5] at f1;clear c5;go_upto_if 14 with fail;go_cut [] (fun o=>∃ c,Hid (OSt w o b u t y k ⟨(k:Int),⟨#[]⟩,c,(.slice none 0 0),[],ZA,0,0⟩ (wd2 k l)/\(c=if qM k then zI (hd (wd1 l)) else 0)))
 case first =>
  clear f1
  cases q1 with
  | false =>
   go_wp2;go_meet;exact⟨0,(show OSt w _ b u t y k ⟨(k:Int),⟨#[]⟩,0,(.slice none 0 0),[],ZA,0,0⟩ (wd2 k l) from by unfold wd2 nx;rw[X.out];exact p.out),by rw[X.out];rfl⟩
  | true =>
   have M:Hid (wd2 k l=(wd1 l).tail):=by show wd2 k l=(wd1 l).tail;unfold wd2 nx;rw[X.out];rfl
   go_wp2_with fail;refine(zcc b (wd1 l) _ p.out.ws (O.out _ p.out.kept) a8).mono ?_;rintro e w5 ⟨rfl,E,F⟩;have m:Hid (OSt w w5 b u t y k ⟨(k:Int),⟨#[]⟩,0,(.slice none 0 0),[],ZA,0,0⟩ (wd2 k l)):=p.out.words (by rw[M.out];exact E.out) F
   have d:=m.out.o;have x5:=za d 2 _ rfl;have g5:=zg d 2;have N:Hid _:=m.out.store 2 (int i64 (zI (hd (wd1 l)))) ⟨(k:Int),⟨#[]⟩,(zI (hd (wd1 l))),(.slice none 0 0),[],ZA,0,0⟩ rfl m.out.leg;clear d m;go_wp2;go_meet;exact⟨_,N.out,by rw[X.out];rfl⟩
 case rest =>
 obtain⟨c,a9⟩:=hcut;have P:=hI a9.out.1;have d6:=hI a9.out.2;clear a9 p f1;have f2:=za P.out.f 0 _ rfl;obtain⟨q2,c6⟩:∃ q,q=qr k:=⟨_,rfl⟩;have Y:=hI c6.symm;rw[← c6] at f2;clear c6;go_upto_if 19 with fail;go_cut [] (fun o=>∃ i,Hid (OSt w o b u t y k ⟨(k:Int),i,c,(.slice none 0 0),[],ZA,0,0⟩ (wd3 k l)/\(i=if qr k then hd (wd2 k l) else ⟨#[]⟩)))
 case first =>
  clear f2
  cases q2 with
  | false =>
   go_wp2;go_meet;exact⟨⟨#[]⟩,(show OSt w _ b u t y k ⟨(k:Int),⟨#[]⟩,c,(.slice none 0 0),[],ZA,0,0⟩ (wd3 k l) from by unfold wd3 nx;rw[Y.out];exact P.out),by rw[Y.out];rfl⟩
  | true =>
   have M:Hid (wd3 k l=(wd2 k l).tail):=by show wd3 k l=(wd2 k l).tail;unfold wd3 nx;rw[Y.out];rfl
   go_wp2_with fail;refine(name_hd b (wd2 k l) _ P.out.ws (c1.out (wd2 k l) (by rw[← V.out];exact c0.out.2.1))).mono ?_
   rintro e w5 ⟨rfl,E,F⟩;have m:Hid (OSt w w5 b u t y k ⟨(k:Int),⟨#[]⟩,c,(.slice none 0 0),[],ZA,0,0⟩ (wd3 k l)):=P.out.words (by rw[M.out];exact E.out) F
   have d:=m.out.o;have x5:=za d 1 _ rfl;have g5:=zg d 1;have N:Hid _:=m.out.store 1 (.string (hd (wd2 k l))) ⟨(k:Int),(hd (wd2 k l)),c,(.slice none 0 0),[],ZA,0,0⟩ rfl m.out.leg;clear d m;go_wp2;go_meet;exact⟨_,N.out,by rw[Y.out];rfl⟩
 case rest =>
 obtain⟨i,b0⟩:=hcut;have Q:=hI b0.out.1;have d7:=hI b0.out.2;clear b0 P f2;have f3:=za Q.out.f 2 _ rfl;obtain⟨q3,c7⟩:∃ q,q=decide (0<qx k):=⟨_,rfl⟩;have Z:=hI c7.symm;have e8:decide ((0:Int)<qx k)=q3:=c7.symm;clear c7;go_upto_if 25 with fail;go_cut [] (fun o=>∃ s f,Hid (OSt w o b u t y k ⟨(k:Int),i,c,s,f,ZA,0,0⟩ (wd4 k l)/\((decide (0<qx k)=true->zbr (hd (wd3 k l)) f)/\(decide (0<qx k)=false->f=[]))))
 case first =>
  clear f3
  cases q3 with
  | false =>
   go_wp2;go_meet;exact⟨_,[],(show OSt w _ b u t y k ⟨(k:Int),i,c,(.slice none 0 0),[],ZA,0,0⟩ (wd4 k l) from by unfold wd4 nx;rw[Z.out];exact Q.out),fun h=>(by rw[Z.out] at h;cases h),fun _=>rfl⟩
  | true =>
   have M:Hid (wd4 k l=(wd3 k l).tail):=by show wd4 k l=(wd3 k l).tail;unfold wd4 nx;rw[Z.out];rfl
   go_wp2_with fail;refine(zfu b (wd3 k l) _ Q.out.ws).mono ?_;rintro e w4 ⟨rfl,A,U⟩;have H4:Hid (OSt w w4 b u t y k ⟨(k:Int),i,c,(.slice none 0 0),[],ZA,0,0⟩ (wd4 k l)):=Q.out.words (by rw[M.out];exact A.out) U
   clear A U;go_wp2_with fail;refine(ziA (hd (wd3 k l)) _ (c1.out (wd3 k l) (by rw[← V.out];exact c0.out.2.2.1)) (O.out _ H4.out.kept)).mono ?_
   rintro e w5 ⟨vl,yl,rfl,c4,g8,T⟩;have m:=hI (H4.out.below T);have g9:=hI (zE c4 H4.out.kept.size);obtain⟨f9,g6,rfl,_⟩:=zt c4;clear H4 c4 T;have d:=m.out.o;have x5:=za d 3 _ rfl;have g5:=zg d 3;have N:Hid _:=m.out.store 3 (.slice f9 yl.length g6) ⟨(k:Int),i,c,(.slice f9 yl.length g6),yl,ZA,0,0⟩ rfl g9.out;clear d m;go_wp2;go_meet;exact⟨_,yl,N.out,fun _=>g8.out,fun h=>(by rw[Z.out] at h;cases h)⟩
 case rest =>
 obtain⟨s,f,b6⟩:=hcut;have R:=hI b6.out.1;have d8:=hI b6.out.2;clear b6 Q f3 e8;have f4:=za R.out.f 3 _ rfl;obtain⟨q4,c8⟩:∃ q,q=qp k:=⟨_,rfl⟩;have a0:=hI c8.symm;rw[← c8] at f4;clear c8;go_upto_if 31 with fail;go_cut [] (fun o=>∃ a,Hid (OSt w o b u t y k ⟨(k:Int),i,c,s,f,a,0,0⟩ (wd5 k l)/\(a=if qp k then zcb (hd (wd4 k l)) else ZA)))
 case first =>
  clear f4
  cases q4 with
  | false =>
   go_wp2;go_meet;exact⟨ZA,(show OSt w _ b u t y k ⟨(k:Int),i,c,s,f,ZA,0,0⟩ (wd5 k l) from by unfold wd5 nx;rw[a0.out];exact R.out),by rw[a0.out];rfl⟩
  | true =>
   have M:Hid (wd5 k l=(wd4 k l).tail):=by show wd5 k l=(wd4 k l).tail;unfold wd5 nx;rw[a0.out];rfl
   go_wp2_with fail;refine(zfu b (wd4 k l) _ R.out.ws).mono ?_;rintro e w4 ⟨rfl,A,U⟩;have H4:Hid (OSt w w4 b u t y k ⟨(k:Int),i,c,s,f,ZA,0,0⟩ (wd5 k l)):=R.out.words (by rw[M.out];exact A.out) U
   clear A U;go_wp2_with fail;refine(zhx (hd (wd4 k l)) _ (by have:=c1.out (wd4 k l) (by rw[← V.out];exact c0.out.2.2.2);omega) (O.out _ H4.out.kept)).mono ?_
   rintro e w5 ⟨rfl,T⟩;have m:=hI (H4.out.below T);clear H4 T;have d:=m.out.o;have x0:=za d 4 _ rfl;have x1:=za d 5 _ rfl;have x2:=za d 6 _ rfl;have x3:=za d 7 _ rfl;have x4:=za d 8 _ rfl;have x5:=za d 9 _ rfl;have g0:=zg d 4;have g1:=zg d 5;have g2:=zg d 6;have g3:=zg d 7;have g4:=zg d 8;have g5:=zg d 9;generalize hz:zcb (hd (wd4 k l))=z;have K0:=m.out.store 4 (int i64 z.pe) ⟨(k:Int),i,c,s,f,⟨z.pe,0,0,0,false,0⟩,0,0⟩ rfl m.out.leg;have K1:=K0.store 5 (int i64 z.len) ⟨(k:Int),i,c,s,f,⟨z.pe,z.len,0,0,false,0⟩,0,0⟩ rfl K0.leg;have K2:=K1.store 6 (int i64 z.hei) ⟨(k:Int),i,c,s,f,⟨z.pe,z.len,z.hei,0,false,0⟩,0,0⟩ rfl K1.leg;have K3:=K2.store 7 (int i64 z.cl) ⟨(k:Int),i,c,s,f,⟨z.pe,z.len,z.hei,z.cl,false,0⟩,0,0⟩ rfl K2.leg;have K4:=K3.store 8 (.bool z.all) ⟨(k:Int),i,c,s,f,⟨z.pe,z.len,z.hei,z.cl,z.all,0⟩,0,0⟩ rfl K3.leg;have K5:=K4.store 9 (int i64 z.be) ⟨(k:Int),i,c,s,f,⟨z.pe,z.len,z.hei,z.cl,z.all,z.be⟩,0,0⟩ rfl K4.leg;have N:Hid _:=K5;clear K0 K1 K2 K3 K4 K5 d m;go_wp2;go_meet;exact⟨z,N.out,by rw[a0.out,hz];rfl⟩
 case rest =>
 obtain⟨a,b7⟩:=hcut;have H:=hI b7.out.1;have d9:=hI b7.out.2;clear b7 R f4;have f5:=za H.out.f 4 _ rfl;obtain⟨q5,c9⟩:∃ q,q=qs k:=⟨_,rfl⟩;have a1:=hI c9.symm;rw[← c9] at f5;clear c9;go_upto_if 37 with fail;go_cut [] (fun o=>∃ K,Hid (OSt w o b u t y k ⟨(k:Int),i,c,s,f,a,K,0⟩ (wd6 k l)/\(K=if qs k then zI (hd (wd5 k l)) else 0)))
 case first =>
  clear f5
  cases q5 with
  | false =>
   go_wp2;go_meet;exact⟨0,(show OSt w _ b u t y k ⟨(k:Int),i,c,s,f,a,0,0⟩ (wd6 k l) from by unfold wd6 nx;rw[a1.out];exact H.out),by rw[a1.out];rfl⟩
  | true =>
   have M:Hid (wd6 k l=(wd5 k l).tail):=by show wd6 k l=(wd5 k l).tail;unfold wd6 nx;rw[a1.out];rfl
   go_wp2_with fail;refine(zcc b (wd5 k l) _ H.out.ws (O.out _ H.out.kept) a8).mono ?_;rintro e w5 ⟨rfl,E,F⟩;have m:Hid (OSt w w5 b u t y k ⟨(k:Int),i,c,s,f,a,0,0⟩ (wd6 k l)):=H.out.words (by rw[M.out];exact E.out) F
   have d:=m.out.o;have x5:=za d 10 _ rfl;have g5:=zg d 10;have N:Hid _:=m.out.store 10 (int i64 (zI (hd (wd5 k l)))) ⟨(k:Int),i,c,s,f,a,(zI (hd (wd5 k l))),0⟩ rfl m.out.leg;clear d m;go_wp2;go_meet;exact⟨_,N.out,by rw[a1.out];rfl⟩
 case rest =>
 obtain⟨K,b8⟩:=hcut;have I:=hI b8.out.1;have e0:=hI b8.out.2;clear b8 H f5;have f6:=za I.out.f 5 _ rfl;obtain⟨q6,d0⟩:∃ q,q=Qg k:=⟨_,rfl⟩;have a2:=hI d0.symm;rw[← d0] at f6;clear d0;go_upto_if 42 with fail;go_cut [] (fun o=>∃ z6,Hid (OSt w o b u t y k ⟨(k:Int),i,c,s,f,a,K,z6⟩ (wd7 k l)/\(z6=if Qg k then zI (hd (wd6 k l)) else 0)))
 case first =>
  clear f6
  cases q6 with
  | false =>
   go_wp2;go_meet;exact⟨0,(show OSt w _ b u t y k ⟨(k:Int),i,c,s,f,a,K,0⟩ (wd7 k l) from by unfold wd7 nx;rw[a2.out];exact I.out),by rw[a2.out];rfl⟩
  | true =>
   have M:Hid (wd7 k l=(wd6 k l).tail):=by show wd7 k l=(wd6 k l).tail;unfold wd7 nx;rw[a2.out];rfl
   go_wp2_with fail;refine(zcc b (wd6 k l) _ I.out.ws (O.out _ I.out.kept) a8).mono ?_;rintro e w5 ⟨rfl,E,F⟩;have m:Hid (OSt w w5 b u t y k ⟨(k:Int),i,c,s,f,a,K,0⟩ (wd7 k l)):=I.out.words (by rw[M.out];exact E.out) F
   have d:=m.out.o;have x5:=za d 11 _ rfl;have g5:=zg d 11;have N:Hid _:=m.out.store 11 (int i64 (zI (hd (wd6 k l)))) ⟨(k:Int),i,c,s,f,a,K,(zI (hd (wd6 k l)))⟩ rfl m.out.leg;clear d m;go_wp2;go_meet;exact⟨_,N.out,by rw[a2.out];rfl⟩
 case rest =>
 obtain⟨z6,b9⟩:=hcut;have a3:=hI b9.out.1;have e1:=hI b9.out.2;clear b9 I f6;have h9:Hid (zhR l ⟨(k:Int),i,c,s,f,a,K,z6⟩):=by
  constructor
  ·rw[V.out]
  ·rw[V.out];exact d6.out
  ·rw[V.out];exact d7.out
  ·rw[V.out];exact d8.out
  ·rw[V.out];exact d9.out
  ·rw[V.out];exact e0.out
  ·rw[V.out];exact e1.out
 obtain⟨va,vc,rfl,_⟩:=zt (show wc.ownsRow w.heap.size 3 1 s f.length (QK f) from a3.out.leg);have J:wc.heap[t]?=some (.cells #[int i64 (k:Int),.string i,int i64 c,.slice va f.length vc,int i64 a.pe,int i64 a.len,int i64 a.hei,int i64 a.cl,.bool a.all,int i64 a.be,int i64 K,int i64 z6] 27 (0,0)):=a3.out.o;have n:=a3.out.r;have p0:=za J 0 _ rfl;have r0:=za n 0 _ rfl;have s0:=zg n 0;have p1:=za J 1 _ rfl;have r1:=za n 1 _ rfl;have s1:=zg n 1;have p2:=za J 2 _ rfl;have r2:=za n 2 _ rfl;have s2:=zg n 2;have p3:=za J 3 _ rfl;have r3:=za n 3 _ rfl;have s3:=zg n 3;have p4:=za J 4 _ rfl;have r4:=za n 4 _ rfl;have s4:=zg n 4;have p5:=za J 5 _ rfl;have r5:=za n 5 _ rfl;have s5:=zg n 5;have p6:=za J 6 _ rfl;have r6:=za n 6 _ rfl;have s6:=zg n 6;have p7:=za J 7 _ rfl;have r7:=za n 7 _ rfl;have s7:=zg n 7;have p8:=za J 8 _ rfl;have r8:=za n 8 _ rfl;have s8:=zg n 8;have p9:=za J 9 _ rfl;have r9:=za n 9 _ rfl;have s9:=zg n 9;have j7:=za J 10 _ rfl;have j9:=za n 10 _ rfl;have k4:=zg n 10;have j8:=za J 11 _ rfl;have k0:=za n 11 _ rfl;have k5:=zg n 11;have rF:=box_12 n (int i64 (k:Int)) (.string i) (int i64 c) (.slice va f.length vc) (int i64 a.pe) (int i64 a.len) (int i64 a.hei) (int i64 a.cl) (.bool a.all) (int i64 a.be) (int i64 K) (int i64 z6);have kF:=zhw wc u (int i64 (k:Int)) (.string i) (int i64 c) (.slice va f.length vc) (int i64 a.pe) (int i64 a.len) (int i64 a.hei) (int i64 a.cl) (.bool a.all) (int i64 a.be) (int i64 K) (int i64 z6);have HF:Hid _:=opDone a3.out kF;clear J n kF d6 d7 d8 d9 e0 e1;go_wp2;obtain⟨i7,i8,i9,j0,j1,j2,j3,j4,j5,j6,f7,f8⟩:=ce12 rF;refine bodyPost_ret (v:=.agg #[int i64 (k:Int),.string i,int i64 c,.slice va f.length vc,int i64 a.pe,int i64 a.len,int i64 a.hei,int i64 a.cl,.bool a.all,int i64 a.be,int i64 K,int i64 z6]) (by simp[results,Tryz.results21,go_sem,i7,i8,i9,j0,j1,j2,j3,j4,j5,j6,f7,f8]) rfl ?_
 exact⟨OpR.mk (k:Int) i c (.slice va f.length vc) f a K z6,rfl,HF.out.1,h9.out,HF.out.2⟩
end
theorem zfv (p:UInt8):∀ (l:List (List UInt8))(q:List UInt8),q ∈ l->q.length<=(Lib.join l [p]).length
 | [],_,h=>by cases h
 | [a],q,h=>by simp at h;rw[Lib.join_one,h];exact Nat.le_refl _
 | a :: b :: r,q,h=>by
  rw[zaN]
  rcases List.mem_cons.1 h with h|h
  ·rw[h];simp
  ·have:=zfv p (b :: r) q h
   simp
   omega
theorem zdd {p:UInt8}{s:ByteArray}{l:List ByteArray}(h:Q2 p s l):∀ q,q ∈ l->q.size<=s.size:=fun q b=>by
 have a:=zfv p (l.map (·.data.toList)) q.data.toList (List.mem_map.2 ⟨q,b,rfl⟩);rw[h.list.2.1] at a
 simpa using a
def zgy (x y:OpD):Prop:=x.kind=y.kind/\x.own=y.own/\x.name=y.name/\x.lgn=y.lgn/\(∀ i,i<y.lgn->x.lg i=y.lg i)/\x.p=y.p/\x.unt=y.unt/\x.now=y.now
def zbF (p:UInt8)(s:ByteArray):Prop:=p∉s.data.toList
theorem qB {p:UInt8}(b:¬ ZS p){m:Int}(h:0<=m):zbF p (qf m):=fun a=>by
 rw[zay h] at a;exact b (zex _ p a)
theorem Zu {p:UInt8}{a b:ByteArray}(c:zbF p a)(d:zbF p b):zbF p (a++b):=by
 unfold zbF at *;simp[c,d]
theorem zae {p q:UInt8}(h:p≠q):zbF p ⟨#[q]⟩:=by
 unfold zbF
 simpa using h
theorem zcd (p:UInt8):zbF p ⟨#[]⟩:=by
 unfold zbF;simp
theorem zdC {p:UInt8}{s:ByteArray}(h:qK s)(g:¬ Qx (p.toNat:Int)):zbF p s:=fun f=>by
 obtain⟨i,b⟩:=List.mem_iff_getElem?.1 f;have a:i<s.size:=by
  rcases Nat.lt_or_ge i s.data.toList.length with c|c
  ·rwa [Array.length_toList] at c
  ·rw[List.getElem?_eq_none c] at b;cases b
 rw[zez a] at b;have d:=h.2.2 i a;rw[← zbG s i a] at d;have e:s[i]'hlt=p:=by simpa using b
 rw[e] at d;exact g d
theorem zgz {p q:UInt8}(g:p≠q):∀ (l:List ByteArray),(∀ x,x ∈ l->zbF p x)->zbF p (qD (oneT q) l):=by
 intro l hl;have o:∀ m:List (List UInt8),(∀ x,x ∈ m->p∉x)->p∉Lib.join m [q]:=by
  intro m
  match m with
  | []=>intro _;simp[Lib.join_nil]
  | [a]=>intro h;rw[Lib.join_one];exact h a (by simp)
  | a :: b :: r =>
   intro h;have n:=fun s=>(show p∉Lib.join (b :: r) [q] from by
    have:∀ k:List (List UInt8),k.length<=(b :: r).length->(∀ x,x ∈ k->p∉x)->p∉Lib.join k [q]:=by
     intro k
     induction k with
     | nil=>intro _ _;simp[Lib.join_nil]
     | cons c t n =>
      intro f e
      cases t with
      | nil=>rw[Lib.join_one];exact e c (by simp)
      | cons d u =>
       rw[zaN];have v:=n (by simp at f ⊢;omega) (fun x i=>e x (by simp at i ⊢;exact .inr i))
       have j:=e c (by simp)
       simp[v,j,g]
    exact this (b :: r) (Nat.le_refl _) s)
   rw[zaN];have j:=h a (by simp)
   have w:=n (fun x e=>h x (by simp at e ⊢;exact .inr e))
   simp[j,w,g]
 have:=o (l.map (·.data.toList)) (fun x e=>by
  obtain⟨y,z,rfl⟩:=List.mem_map.1 e;exact hl y z)
 unfold zbF qD oneT
 simpa using this
theorem zcP {p:UInt8}{s a b:ByteArray}{f:Bool}(h:zgv p s a b f):Z4 p s=a/\Z5 p s=b/\zbw p s=f:=cut_one (cut_is p s) h
theorem zfw {p:UInt8}{s:ByteArray}(h:zbF p s):zgv p s s ⟨#[]⟩ false:=⟨h,.inr ⟨rfl,rfl,rfl⟩⟩
theorem zgA {p:UInt8}{s a b:ByteArray}(h:zbF p a)(e:s=a++(⟨#[p]⟩++b)):zgv p s a b true:=⟨h,.inl ⟨rfl,by rw[e];simp⟩⟩
theorem nd64:¬ ZS 64:=by unfold ZS;decide
theorem nd43:¬ ZS 43:=by unfold ZS;decide
theorem nd47:¬ ZS 47:=by unfold ZS;decide
theorem nd120:¬ ZS 120:=by unfold ZS;decide
theorem nd44:¬ ZS 44:=by unfold ZS;decide
theorem nd32:¬ ZS 32:=by unfold ZS;decide
theorem ziB {p:Zf}(n:qI p):zcb (qC p)=p:=by
 obtain⟨pe,len,hei,cl,all,be⟩:=p;have r:=n;unfold qI Q3 zbH In at n;dsimp only at n;have i:0<=pe/\pe<=99999:=by omega
 have b1:0<=len/\len<=99999:=by omega
 have b2:0<=hei/\hei<=99999:=by omega
 have b3:0<=cl/\cl<=99999:=by omega
 have b4:0<=be/\be<=99999:=by omega
 have g:∀ q:UInt8,¬ ZS q->q≠43->q≠47->zbF q (zaS ⟨pe,len,hei,cl,all,be⟩):=fun q d j f=>by
  unfold zaS
  split
  ·exact zcd q
  ·exact Zu (zae j) (Zu (Zu (qB d b1.1) (zae f)) (qB d b2.1))
 -- ahead of the cabin: people and car
 have k:Z4 43 (qf pe++zaS ⟨pe,len,hei,cl,all,be⟩)=qf pe/\(if zbw 43 (qf pe++zaS ⟨pe,len,hei,cl,all,be⟩) then zI (Z4 47 (Z5 43 (qf pe++zaS ⟨pe,len,hei,cl,all,be⟩))) else 0)=len/\(if zbw 43 (qf pe++zaS ⟨pe,len,hei,cl,all,be⟩) then zI (Z5 47 (Z5 43 (qf pe++zaS ⟨pe,len,hei,cl,all,be⟩))) else 0)=hei:=by
  by_cases c:len=0/\hei=0
  ·have e:qf pe++zaS ⟨pe,len,hei,cl,all,be⟩=qf pe:=by
    unfold zaS;rw[if_pos c];exact ByteArray.append_empty
   rw[e];obtain⟨d,_,f⟩:=zcP (zfw (qB nd43 i.1));rw[d,f];exact⟨rfl,c.1.symm,c.2.symm⟩
  ·have e:zaS ⟨pe,len,hei,cl,all,be⟩=⟨#[43]⟩++(qf len++⟨#[47]⟩++qf hei):=by unfold zaS;rw[if_neg c]
   rw[e];obtain⟨d,j,f⟩:=zcP (zgA (p:=43) (a:=qf pe) (b:=qf len++⟨#[47]⟩++qf hei) (qB nd43 i.1) rfl);obtain⟨k1,k2,_⟩:=zcP (zgA (p:=47) (s:=qf len++⟨#[47]⟩++qf hei) (a:=qf len) (b:=qf hei) (qB nd47 b1.1) (by rw[ByteArray.append_assoc]))
   rw[d,j,f,k1,k2];exact⟨rfl,qH b1,qH b2⟩
 by_cases c:cl=0
 ·have e:qC ⟨pe,len,hei,cl,all,be⟩=qf pe++zaS ⟨pe,len,hei,cl,all,be⟩:=by unfold qC;rw[if_pos c]
  have m:zbF 64 (qf pe++zaS ⟨pe,len,hei,cl,all,be⟩):=Zu (qB nd64 i.1) (g 64 nd64 (by decide) (by decide))
  obtain⟨d,j,f⟩:=zcP (zfw m);have o:all=false/\be=0:=by
   rcases r.2.2 with h|h
   ·exact h.2
   ·have:=h.1.1
    have:1<=cl:=this
    omega
  rw[e];unfold zcb;rw[d,f,k.1,k.2.1,k.2.2,qH i];obtain⟨rfl,rfl⟩:=o;subst c
  rfl
 ·have e:qC ⟨pe,len,hei,cl,all,be⟩=(qf pe++zaS ⟨pe,len,hei,cl,all,be⟩)++(⟨#[64]⟩++(qf cl++zhN ⟨pe,len,hei,cl,all,be⟩)):=by
   unfold qC cabT;rw[if_neg c,if_neg c];simp only[ByteArray.append_assoc]
  have m:zbF 64 (qf pe++zaS ⟨pe,len,hei,cl,all,be⟩):=Zu (qB nd64 i.1) (g 64 nd64 (by decide) (by decide))
  obtain⟨d,j,f⟩:=zcP (zgA m rfl);have o:=r.2.2;rw[e];unfold zcb;rw[d,j,f,k.1,k.2.1,k.2.2,qH i]
  cases all with
  | true =>
   have l:qf cl++zhN ⟨pe,len,hei,cl,true,be⟩=qf cl:=by
    unfold zhN;rw[if_pos rfl];exact ByteArray.append_empty
   obtain⟨k1,k2,k3⟩:=zcP (zfw (qB nd120 b3.1));rw[l,k1,k3,qH b3];have t:be=0:=by
    rcases o with h|h
    ·exact absurd h.1 c
    ·rcases h.2 with h|h
     ·exact h.2
     ·exact absurd h.1 (by simp)
   subst t
   rfl
  | false =>
   have l:qf cl++zhN ⟨pe,len,hei,cl,false,be⟩=qf cl++(⟨#[120]⟩++qf be):=by
    unfold zhN;rw[if_neg (by simp)]
   obtain⟨k1,k2,k3⟩:=zcP (zgA (p:=120) (a:=qf cl) (b:=qf be) (qB nd120 b3.1) rfl);rw[l,k1,k2,k3,qH b3,qH b4]
   rfl
theorem zeB {n:Nat}{f:Nat->Int}(hn:0<n)(h:∀ i,i<n->In (f i) 0 99999):Q2 44 (ZB n f) ((List.range n).map (fun i=>qf (f i))):=by
 refine⟨by intro e;have:=congrArg List.length e;simp at this;omega,rfl,fun q b=>?_⟩
 obtain⟨i,a,rfl⟩:=List.mem_map.1 b;exact qB nd44 (h i (by simpa using a)).1
theorem legs_not {n:Nat}{f:Nat->Int}(hn:0<n)(h:∀ i,i<n->In (f i) 0 99999):ZB n f≠⟨#[45]⟩:=fun e=>by
 have c:=zeB hn h;rw[e] at c;have a:Q2 44 ⟨#[45]⟩ [⟨#[45]⟩]:=⟨by simp,ZH _ _,fun q a=>by simp at a;rw[a];simp⟩
 have d:=zax c a;have b:((List.range n).map (fun i=>qf (f i)))[0]?=some (qf (f 0)):=by
  rw[List.getElem?_map,List.getElem?_range hn]
  rfl
 rw[d] at b;have g:(⟨#[45]⟩:ByteArray)=qf (f 0):=by simpa using b
 have:zbF 45 (qf (f 0)):=qB (by unfold ZS;decide) (h 0 hn).1
 rw[← g] at this;exact this (by simp)
theorem legs_back {n:Nat}{f:Nat->Int}{L:List Int}(hn:0<n)(h:∀ i,i<n->In (f i) 0 99999)(b:zbr (ZB n f) L):L.length=n/\∀ i,i<n->getI L i=f i:=by
 rcases b.2 with⟨e,_⟩|⟨_,l,hl,rfl⟩
 ·exact absurd e (legs_not hn h)
 ·have e:=zax hl (zeB hn h)
  subst e;refine⟨by simp,fun i a=>?_⟩
  unfold getI;rw[List.getD_eq_getElem?_getD,List.getElem?_map,List.getElem?_map,List.getElem?_range a];exact qH (h i a)
theorem free_word:∀ k,k<10->zbF 32 (zP k):=by
 intro k hk;unfold zbF;have a:k=0∨k=1∨k=2∨k=3∨k=4∨k=5∨k=6∨k=7∨k=8∨k=9:=by omega
 rcases a with rfl|rfl|rfl|rfl|rfl|rfl|rfl|rfl|rfl|rfl <;> decide
theorem ziC {q:UInt8}(a:¬ ZS q)(i:q≠43)(j:q≠47)(k:q≠64)(l:q≠120){p:Zf}(n:qI p):zbF q (qC p):=by
 unfold qI Q3 zbH In at n;have b:=qB a (m:=p.pe) (by omega)
 have d:=qB a (m:=p.len) (by omega)
 have e:=qB a (m:=p.hei) (by omega)
 have f:=qB a (m:=p.cl) (by omega)
 have a4:=qB a (m:=p.be) (by omega)
 have c:zbF q (zaS p):=by
  unfold zaS
  split
  ·exact zcd q
  ·exact Zu (zae i) (Zu (Zu d (zae j)) e)
 have g:zbF q (cabT p):=by
  unfold cabT
  split
  ·exact zcd q
  ·exact Zu (zae k) f
 have h:zbF q (zhN p):=by
  unfold zhN
  split
  ·exact zcd q
  ·exact Zu (zae l) a4
 unfold qC
 split
 ·exact Zu b c
 ·exact Zu (Zu (Zu b c) g) h
theorem zcz {b:Bool}{q p:ByteArray}(h:p ∈ opt b q):b=true/\p=q:=by
 unfold opt at h
 cases b with
 | false=>simp at h
 | true=>simp at h;exact⟨rfl,h⟩
theorem parts_op {y:OpD}(h:qn y):Q2 32 (opT y) (zcv y):=by
 refine⟨by simp[zcv,zcg,zbX,zbW,zcf,zbV,zcJ],rfl,fun p a=>?_⟩
 obtain⟨k,b⟩:∃ k,k=y.kind.toNat:=⟨_,rfl⟩;have d:k<10:=by have:=h.1.1;unfold In at this;omega
 unfold zcv zcg zbX zbW zcf zbV zcJ at a;rw[← b] at a;simp only[List.mem_append,List.mem_singleton] at a
 rcases a with((((((a|a)|a)|a)|a)|a)|a)
 ·rw[a];exact free_word k d
 ·obtain⟨q,rfl⟩:=zcz a
  exact qB nd32 (rng1 h b.symm q).1
 ·obtain⟨q,rfl⟩:=zcz a
  have c:=h.1.2.1;unfold qO at c
  split at c
  ·exact zdC c (by unfold Qx;decide)
  ·have e:y.own=⟨#[]⟩:=by
    apply ByteArray.ext
    exact Array.eq_empty_of_size_eq_zero c
   rw[e];exact zcd 32
 ·obtain⟨q,rfl⟩:=zcz a
  exact zgz (q:=44) (by decide) _ (fun x g=>by
   obtain⟨i,f,rfl⟩:=List.mem_map.1 g;exact qB nd32 (h.2 i (by simpa using f)).1)
 ·obtain⟨q,rfl⟩:=zcz a
  exact ziC nd32 (by decide) (by decide) (by decide) (by decide) (rng4 h b.symm q)
 ·obtain⟨q,rfl⟩:=zcz a
  exact qB nd32 (rng5 h b.symm q).1
 ·obtain⟨q,rfl⟩:=zcz a
  exact qB nd32 (rng6 h b.symm q).1
theorem zgB (b:Bool)(p:ByteArray)(L:List ByteArray):nx b (opt b p++L)=L:=by
 cases b <;> rfl
theorem zeC {b:Bool}(h:b=true)(p:ByteArray)(L:List ByteArray):hd (opt b p++L)=p:=by
 subst h
 rfl
theorem op_list (y:OpD):zcv y=zP y.kind.toNat :: (opt (qM y.kind.toNat) (qf y.name)++(opt (qr y.kind.toNat) y.own++(opt (decide (0<qx y.kind.toNat)) (ZB y.lgn y.lg)++(opt (qp y.kind.toNat) (qC y.p)++(opt (qs y.kind.toNat) (qf y.unt)++(opt (Qg y.kind.toNat) (qf y.now)++[])))))):=by
 unfold zcv zcg zbX zbW zcf zbV zcJ;simp only[List.append_assoc,List.cons_append,List.nil_append,List.append_nil]
theorem zero_name {y:OpD}{k:Nat}(h:qn y)(hk:y.kind.toNat=k)(b:qM k=false):y.name=0:=by
 have a:=h.1.2.2.1;have d:=h.1.1;unfold Zp at a;unfold In at d;rw[if_neg] at a
 ·exact a
 ·intro c
  unfold In at c;unfold qM at b;exact absurd (⟨by omega,by omega⟩:4<=k/\k<=8) (of_decide_eq_false b)
theorem zero_own {y:OpD}{k:Nat}(h:qn y)(hk:y.kind.toNat=k)(b:qr k=false):y.own=⟨#[]⟩:=by
 have a:=h.1.2.1;have c:=h.1.1;unfold qO at a;unfold In at c;unfold qr at b;have b:=of_decide_eq_false b;rw[if_neg (by omega)] at a
 apply ByteArray.ext
 exact Array.eq_empty_of_size_eq_zero a
theorem zero_legs {y:OpD}{k:Nat}(h:qn y)(hk:y.kind.toNat=k)(a:decide (0<qx k)=false):y.lgn=0:=by
 have b:=h.1.2.2.2.1;have e:=h.1.1;have a:=of_decide_eq_false a;unfold In at e;unfold qj at b;unfold qx at a
 by_cases c:zR y.kind
 ·unfold zR at c
  rw[if_pos (by omega)] at a
  omega
 ·rw[if_neg c] at b
  unfold zR at c;rw[if_neg (by omega)] at a
  by_cases d:y.kind=9
  ·rw[if_pos (by omega)] at a
   omega
  ·rw[if_neg d] at b
   exact b
theorem ziD {y:OpD}{k:Nat}(h:qn y)(j:y.kind.toNat=k)(i:qp k=false):y.p=ZA:=by
 have g:=h.1.2.2.2.2.1;unfold qt at g;rw[if_neg (fun c=>by rw[(zcw h j).2 c] at i;cases i)] at g
 unfold zby at g;generalize y.p=p at g;obtain⟨a,b,c,d,e,f⟩:=p;obtain⟨rfl,rfl,rfl,rfl,rfl,rfl⟩:=g
 rfl
theorem zero_unt {y:OpD}{k:Nat}(h:qn y)(hk:y.kind.toNat=k)(b:qs k=false):y.unt=0:=by
 have a:=h.1.2.2.2.2.2.1;unfold qs at b;have b:=of_decide_eq_false b
 rcases a with a|a
 ·exact a
 ·exact absurd (by omega) b
theorem zero_now {y:OpD}{k:Nat}(h:qn y)(hk:y.kind.toNat=k)(b:Qg k=false):y.now=0:=by
 have a:=h.1.2.2.2.2.2.2;unfold Qg at b;have b:=of_decide_eq_false b
 rcases a with a|a
 ·exact a
 ·exact absurd (by omega) b
theorem read_back {y:OpD}(h:qn y){l:List ByteArray}{x:OpR}(hl:Q2 32 (opT y) l)(d:zhR l x):zgy x.d y:=by
 have e:=zax hl (parts_op h);obtain⟨k,a⟩:∃ k,y.kind.toNat=k:=⟨_,rfl⟩;have p:y.kind=(k:Int):=by have:=h.1.1;unfold In at this;omega
 have o:k<10:=by have:=h.1.1;unfold In at this;omega
 rw[op_list,a] at e;have s:=d.kind;have f:=d.name;have g:=d.own;have b:=d.legs;have j:=d.party;have m:=d.unt;have n:=d.now;have u:hd l=zP k:=by rw[e];rfl
 have v:Zl (hd l)=k:=by rw[u];exact zhy o
 rw[v] at s f g b j m n;have d1:wd1 l=opt (qM k) (qf y.name)++(opt (qr k) y.own++(opt (decide (0<qx k)) (ZB y.lgn y.lg)++(opt (qp k) (qC y.p)++(opt (qs k) (qf y.unt)++(opt (Qg k) (qf y.now)++[]))))):=by rw[e];rfl
 have d2:wd2 k l=opt (qr k) y.own++(opt (decide (0<qx k)) (ZB y.lgn y.lg)++(opt (qp k) (qC y.p)++(opt (qs k) (qf y.unt)++(opt (Qg k) (qf y.now)++[])))):=by unfold wd2;rw[d1,zgB]
 have d3:wd3 k l=opt (decide (0<qx k)) (ZB y.lgn y.lg)++(opt (qp k) (qC y.p)++(opt (qs k) (qf y.unt)++(opt (Qg k) (qf y.now)++[]))):=by unfold wd3;rw[d2,zgB]
 have d4:wd4 k l=opt (qp k) (qC y.p)++(opt (qs k) (qf y.unt)++(opt (Qg k) (qf y.now)++[])):=by unfold wd4;rw[d3,zgB]
 have q:wd5 k l=opt (qs k) (qf y.unt)++(opt (Qg k) (qf y.now)++[]):=by unfold wd5;rw[d4,zgB]
 have t:wd6 k l=opt (Qg k) (qf y.now)++[]:=by unfold wd6;rw[q,zgB]
 rw[d1] at f;rw[d2] at g;rw[d3] at b;rw[d4] at j;rw[q] at m;rw[t] at n;have w:x.name=y.name:=by
  cases c:qM k with
  | false=>rw[c] at f;rw[zero_name h a c];exact f
  | true =>
   rw[zeC c,c] at f;have:=rng1 h a c;rw[f];exact qH ⟨this.1,by omega⟩
 have z:x.own=y.own:=by
  cases c:qr k with
  | false=>rw[c] at g;rw[zero_own h a c];exact g
  | true=>rw[zeC c,c] at g;exact g
 have r:x.L.length=y.lgn/\∀ i,i<y.lgn->getI x.L i=y.lg i:=by
  cases c:decide (0<qx k) with
  | false =>
   have b:x.L=[]:=b.2 c;rw[zero_legs h a c,b];exact⟨rfl,fun i hi=>by omega⟩
  | true =>
   have b:=b.1 c;rw[zeC c] at b;exact legs_back (rng3 h a c).1 h.2 b
 have A:x.p=y.p:=by
  cases c:qp k with
  | false=>rw[c] at j;rw[ziD h a c];exact j
  | true =>
   rw[zeC c,c] at j;rw[j];exact ziB (rng4 h a c)
 have B:x.unt=y.unt:=by
  cases c:qs k with
  | false=>rw[c] at m;rw[zero_unt h a c];exact m
  | true =>
   rw[zeC c,c] at m;have:=rng5 h a c;rw[m];exact qH ⟨this.1,by omega⟩
 have C:x.now=y.now:=by
  cases c:Qg k with
  | false=>rw[c] at n;rw[zero_now h a c];exact n
  | true =>
   rw[zeC c,c] at n;have:=rng6 h a c;rw[n];exact qH ⟨this.1,by omega⟩
 exact⟨by rw[p];exact s,z,w,r.1,r.2,A,B,C⟩
end Go.Proofs.YtfallpinmhbemaaGreatDoor
