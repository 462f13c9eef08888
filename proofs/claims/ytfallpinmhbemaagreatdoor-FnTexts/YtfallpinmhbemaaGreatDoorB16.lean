/-
  OWN TEXT: KitOsi, PlainOp, SpecFc, SpecFg, SpecO1.
-/
import Derived.Deep.DeepCutAuto
import Derived.Test.YtfallpinmhbemaaGreatDoorB15
namespace Go.Proofs.YtfallpinmhbemaaGreatDoor
open Go.RowKit
open Go.Value (int)
open Go.IntKind (i64)
set_option maxHeartbeats 64000000
set_option maxRecDepth 100000
section
open Go.RowKit
def ZV (y:OpD)(a:Value):Array Value:=#[int i64 y.kind,.string y.own,int i64 y.name,a,int i64 y.pe,int i64 y.len,int i64 y.hei,int i64 y.cl,.bool y.all,int i64 y.be,int i64 y.unt,int i64 y.now]
structure Qq (w u:World)(d:Nat)(g:Option Addr)(n c a f:Nat)(h i j:Value)(y:OpD)(e:Value):Prop where
 cur:CurIs u d g n c a
 kept:zA w u (fun b=>b=d)
 lt:w.heap.size+1<f
 off:u.heap[w.heap.size]?=some (.cells #[h,i,j] 66 (0,0))
 res:u.heap[w.heap.size+1]?=some (.cells #[int i64 0,.string ⟨#[]⟩,int i64 0,.slice none 0 0,int i64 0,int i64 0,int i64 0,int i64 0,.bool false,int i64 0,int i64 0,int i64 0] 27 (0,0))
 box:u.heap[f]?=some (.cells (ZV y e) 27 (0,0))
 legs:u.ownsRow w.heap.size 3 1 e y.lgn (zJ y.lg y.lgn)
section
variable {w u u' : World} {cb n c a a' pb : Nat} {ao : Option Addr} {o1 o2 o3 lv : Value} {y : OpD}
theorem Qq.on (h:Qq w u cb ao n c a pb o1 o2 o3 y lv)(i:cb<w.heap.size)(f:CurIs u' cb ao n c a')(d:zA u u' (fun b=>b=cb)):Qq w u' cb ao n c a' pb o1 o2 o3 y lv :=
 have h1:=h.lt
 ⟨f,h.kept.trans d,h.lt,d.blk h.off (by omega),d.blk h.res (by omega),d.blk h.box (by omega),d.own h.legs (fun g j e=>by have e:g=cb:=e;have:=(h.legs.lt g j).1;omega)⟩
theorem Qq.below (h:Qq w u cb ao n c a pb o1 o2 o3 y lv)(b:Below u.heap.size u u'):Qq w u' cb ao n c a pb o1 o2 o3 y lv :=
 ⟨h.cur.below b,h.kept.trans (zA.of_below b),h.lt,zc h.off b,zc h.res b,zc h.box b,zm b h.legs⟩
theorem Qq.more (h:Qq w u cb ao n c a pb o1 o2 o3 y lv)(b:a<=a'):Qq w u cb ao n c a' pb o1 o2 o3 y lv :=
 ⟨h.cur.more b,h.kept,h.lt,h.off,h.res,h.box,h.legs⟩
theorem zeN {t m:Nat}{v:Value}{c:List Value}{cs:Array Value}{b k:Nat}(h:u.ownsRow k 3 1 v m c)(d:u.heap[b]?=some (.cells cs t (0,0)))(j:3≠t)(i:Nat)(z:Value):(u.setCell ⟨b,i,none⟩ z).ownsRow k 3 1 v m c :=
 ((zA.refl u (fun z=>z=b)).set (a:=⟨b,i,none⟩) rfl z).own h (fun g f e=>qR h d j g f e)
theorem Qq.put (h:Qq w u cb ao n c a pb o1 o2 o3 y lv)(j:cb<w.heap.size)(hl:Zh w ao n)(i:Nat)(v:Value)(f:OpD)(d:Value)(l:(ZV y lv).setIfInBounds i v=ZV f d)(g:u.ownsRow w.heap.size 3 1 d f.lgn (zJ f.lg f.lgn)):Qq w (u.setCell ⟨pb,i,none⟩ v) cb ao n c a pb o1 o2 o3 f d :=
 have h1:=h.lt
 ⟨h.cur.box (by omega) (fun k m b off e=>by have:=hl k m b off e;omega) i v,Z0 h.kept (by omega) i v,h.lt,zD h.off i v (by omega),zD h.res i v (by omega),by rw[← l];exact zy h.box i v,zeN g h.box (by decide) i v⟩
theorem Qq.put0 (h:Qq w u cb ao n c a pb o1 o2 o3 y lv)(b:cb<w.heap.size)(hl:Zh w ao n)(x:Int):Qq w (u.setCell ⟨pb,0,none⟩ (int i64 x)) cb ao n c a pb o1 o2 o3 { y with kind:=x } lv:=h.put b hl 0 _ _ _ rfl h.legs
theorem Qq.put1 (h:Qq w u cb ao n c a pb o1 o2 o3 y lv)(b:cb<w.heap.size)(hl:Zh w ao n)(x:ByteArray):Qq w (u.setCell ⟨pb,1,none⟩ (.string x)) cb ao n c a pb o1 o2 o3 { y with own:=x } lv:=h.put b hl 1 _ _ _ rfl h.legs
theorem Qq.put2 (h:Qq w u cb ao n c a pb o1 o2 o3 y lv)(b:cb<w.heap.size)(hl:Zh w ao n)(x:Int):Qq w (u.setCell ⟨pb,2,none⟩ (int i64 x)) cb ao n c a pb o1 o2 o3 { y with name:=x } lv:=h.put b hl 2 _ _ _ rfl h.legs
theorem Qq.put3 (h:Qq w u cb ao n c a pb o1 o2 o3 y lv)(b:cb<w.heap.size)(hl:Zh w ao n)(v:Value)(k:Nat)(F:Nat->Int)(d:u.ownsRow w.heap.size 3 1 v k (zJ F k)):Qq w (u.setCell ⟨pb,3,none⟩ v) cb ao n c a pb o1 o2 o3 { y with lgn:=k,lg:=F } v:=h.put b hl 3 _ _ _ rfl d
theorem Qq.put10 (h:Qq w u cb ao n c a pb o1 o2 o3 y lv)(b:cb<w.heap.size)(hl:Zh w ao n)(x:Int):Qq w (u.setCell ⟨pb,10,none⟩ (int i64 x)) cb ao n c a pb o1 o2 o3 { y with unt:=x } lv:=h.put b hl 10 _ _ _ rfl h.legs
theorem Qq.put11 (h:Qq w u cb ao n c a pb o1 o2 o3 y lv)(b:cb<w.heap.size)(hl:Zh w ao n)(x:Int):Qq w (u.setCell ⟨pb,11,none⟩ (int i64 x)) cb ao n c a pb o1 o2 o3 { y with now:=x } lv:=h.put b hl 11 _ _ _ rfl h.legs
def putP (u:World)(a:Nat)(b c d e:Int)(f:Bool)(g:Int):World:=(((((u.setCell ⟨a,4,none⟩ (int i64 b)).setCell ⟨a,5,none⟩ (int i64 c)).setCell ⟨a,6,none⟩ (int i64 d)).setCell ⟨a,7,none⟩ (int i64 e)).setCell ⟨a,8,none⟩ (.bool f)).setCell ⟨a,9,none⟩ (int i64 g)
theorem Qq.putP (h:Qq w u cb ao n c a pb o1 o2 o3 y lv)(b:cb<w.heap.size)(hl:Zh w ao n)(d e f g:Int)(i:Bool)(j:Int):Qq w (putP u pb d e f g i j) cb ao n c a pb o1 o2 o3 { y with pe:=d,len:=e,hei:=f,cl:=g,all:=i,be:=j } lv:=by
 have k:=h.put b hl 4 (int i64 d) { y with pe:=d } lv rfl h.legs;have l:=k.put b hl 5 (int i64 e) { y with pe:=d,len:=e } lv rfl k.legs;have m:=l.put b hl 6 (int i64 f) { y with pe:=d,len:=e,hei:=f } lv rfl l.legs;have h7:=m.put b hl 7 (int i64 g) { y with pe:=d,len:=e,hei:=f,cl:=g } lv rfl m.legs;have h8:=h7.put b hl 8 (.bool i) { y with pe:=d,len:=e,hei:=f,cl:=g,all:=i } lv rfl h7.legs;exact h8.put b hl 9 (int i64 j) _ lv rfl h8.legs
def QO (u:World)(r:Nat)(y:OpD)(a:Value):World:=(((((((((((u.setCell ⟨r,0,none⟩ (int i64 y.kind)).setCell ⟨r,1,none⟩ (.string y.own)).setCell ⟨r,2,none⟩ (int i64 y.name)).setCell ⟨r,3,none⟩ a).setCell ⟨r,4,none⟩ (int i64 y.pe)).setCell ⟨r,5,none⟩ (int i64 y.len)).setCell ⟨r,6,none⟩ (int i64 y.hei)).setCell ⟨r,7,none⟩ (int i64 y.cl)).setCell ⟨r,8,none⟩ (.bool y.all)).setCell ⟨r,9,none⟩ (int i64 y.be)).setCell ⟨r,10,none⟩ (int i64 y.unt)).setCell ⟨r,11,none⟩ (int i64 y.now)
theorem QG {r:Nat}{cs:Array Value}(o:w.heap.size<=r)(g:cb<w.heap.size)(hl:Zh w ao n){k:Nat}{v:Value}{m:Nat}{f:List Value}(h:CurIs u cb ao n c a/\zA w u (fun b=>b=cb)/\u.heap[r]?=some (.cells cs 27 (0,0))/\u.ownsRow k 3 1 v m f)(i:Nat)(z:Value)(d:Array Value)(j:cs.setIfInBounds i z=d) :
  CurIs (u.setCell ⟨r,i,none⟩ z) cb ao n c a/\zA w (u.setCell ⟨r,i,none⟩ z) (fun b=>b=cb)/\(u.setCell ⟨r,i,none⟩ z).heap[r]?=some (.cells d 27 (0,0))/\(u.setCell ⟨r,i,none⟩ z).ownsRow k 3 1 v m f :=
 ⟨h.1.box (by omega) (fun k l b off e=>by have:=hl k l b off e;omega) i z,Z0 h.2.1 o i z,by rw[← j];exact zy h.2.2.1 i z,zeN h.2.2.2 h.2.2.1 (by decide) i z⟩
theorem Qq.fin (h:Qq w u cb ao n c a pb o1 o2 o3 y lv)(d:cb<w.heap.size)(hl:Zh w ao n) :
  CurIs (QO u (w.heap.size+1) y lv) cb ao n c a/\zA w (QO u (w.heap.size+1) y lv) (fun b=>b=cb)/\(QO u (w.heap.size+1) y lv).heap[w.heap.size+1]?=some (.cells (ZV y lv) 27 (0,0))/\(QO u (w.heap.size+1) y lv).ownsRow w.heap.size 3 1 lv y.lgn (zJ y.lg y.lgn):=by
 have e:w.heap.size<=w.heap.size+1:=by omega
 have j:CurIs u cb ao n c a/\zA w u (fun b=>b=cb)/\u.heap[w.heap.size+1]?=some (.cells #[int i64 0,.string ⟨#[]⟩,int i64 0,.slice none 0 0,int i64 0,int i64 0,int i64 0,int i64 0,.bool false,int i64 0,int i64 0,int i64 0] 27 (0,0))/\u.ownsRow w.heap.size 3 1 lv y.lgn (zJ y.lg y.lgn):=⟨h.cur,h.kept,h.res,h.legs⟩
 have k:=QG e d hl j 0 (int i64 y.kind) #[int i64 y.kind,.string ⟨#[]⟩,int i64 0,.slice none 0 0,int i64 0,int i64 0,int i64 0,int i64 0,.bool false,int i64 0,int i64 0,int i64 0] rfl;have l:=QG e d hl k 1 (.string y.own) #[int i64 y.kind,.string y.own,int i64 0,.slice none 0 0,int i64 0,int i64 0,int i64 0,int i64 0,.bool false,int i64 0,int i64 0,int i64 0] rfl;have m:=QG e d hl l 2 (int i64 y.name) #[int i64 y.kind,.string y.own,int i64 y.name,.slice none 0 0,int i64 0,int i64 0,int i64 0,int i64 0,.bool false,int i64 0,int i64 0,int i64 0] rfl;have o:=QG e d hl m 3 (lv) #[int i64 y.kind,.string y.own,int i64 y.name,lv,int i64 0,int i64 0,int i64 0,int i64 0,.bool false,int i64 0,int i64 0,int i64 0] rfl;have p:=QG e d hl o 4 (int i64 y.pe) #[int i64 y.kind,.string y.own,int i64 y.name,lv,int i64 y.pe,int i64 0,int i64 0,int i64 0,.bool false,int i64 0,int i64 0,int i64 0] rfl;have q:=QG e d hl p 5 (int i64 y.len) #[int i64 y.kind,.string y.own,int i64 y.name,lv,int i64 y.pe,int i64 y.len,int i64 0,int i64 0,.bool false,int i64 0,int i64 0,int i64 0] rfl;have r:=QG e d hl q 6 (int i64 y.hei) #[int i64 y.kind,.string y.own,int i64 y.name,lv,int i64 y.pe,int i64 y.len,int i64 y.hei,int i64 0,.bool false,int i64 0,int i64 0,int i64 0] rfl;have s:=QG e d hl r 7 (int i64 y.cl) #[int i64 y.kind,.string y.own,int i64 y.name,lv,int i64 y.pe,int i64 y.len,int i64 y.hei,int i64 y.cl,.bool false,int i64 0,int i64 0,int i64 0] rfl;have t:=QG e d hl s 8 (.bool y.all) #[int i64 y.kind,.string y.own,int i64 y.name,lv,int i64 y.pe,int i64 y.len,int i64 y.hei,int i64 y.cl,.bool y.all,int i64 0,int i64 0,int i64 0] rfl;have f:=QG e d hl t 9 (int i64 y.be) #[int i64 y.kind,.string y.own,int i64 y.name,lv,int i64 y.pe,int i64 y.len,int i64 y.hei,int i64 y.cl,.bool y.all,int i64 y.be,int i64 0,int i64 0] rfl;have g:=QG e d hl f 10 (int i64 y.unt) #[int i64 y.kind,.string y.own,int i64 y.name,lv,int i64 y.pe,int i64 y.len,int i64 y.hei,int i64 y.cl,.bool y.all,int i64 y.be,int i64 y.unt,int i64 0] rfl;have i:=QG e d hl g 11 (int i64 y.now) #[int i64 y.kind,.string y.own,int i64 y.name,lv,int i64 y.pe,int i64 y.len,int i64 y.hei,int i64 y.cl,.bool y.all,int i64 y.be,int i64 y.unt,int i64 y.now] rfl;exact i
end
end
def qO (k:Int)(s:ByteArray):Prop:=if k=2∨k=3∨k=7 then qK s else s.size=0
instance (k:Int) (s:ByteArray):Decidable (qO k s):=by unfold qO;exact inferInstance
def Zp (k n:Int):Prop:=if In k 4 8 then In n 1 30 else n=0
instance (k n:Int):Decidable (Zp k n):=by unfold Zp;exact inferInstance
def zR (k:Int):Prop:=k=1∨k=2∨k=3∨k=5
instance (k:Int):Decidable (zR k):=by unfold zR;exact inferInstance
def qj (k:Int)(n:Nat):Prop:=if zR k then 1<=n/\n<=3 else if k=9 then n=1 else n=0
instance (k:Int) (n:Nat):Decidable (qj k n):=by unfold qj;exact inferInstance
def zby (p:Zf):Prop:=p.pe=0/\p.len=0/\p.hei=0/\p.cl=0/\p.all=false/\p.be=0
instance (p:Zf):Decidable (zby p):=by unfold zby;exact inferInstance
def qt (k:Int)(p:Zf):Prop:=if zR k then qI p else zby p
instance (k:Int) (p:Zf):Decidable (qt k p):=by unfold qt;exact inferInstance
def ZD (k u:Int):Prop:=u=0∨(k=2/\In u 0 10000)
instance (k u:Int):Decidable (ZD k u):=by unfold ZD;exact inferInstance
def zak (k u:Int):Prop:=u=0∨((k=8∨k=6)/\In u 0 10000)
instance (k u:Int):Decidable (zak k u):=by unfold zak;exact inferInstance
def OpD.p (o:OpD):Zf:=⟨o.pe,o.len,o.hei,o.cl,o.all,o.be⟩
def Qz (o:OpD):Prop:=In o.kind 1 9/\qO o.kind o.own/\Zp o.kind o.name/\qj o.kind o.lgn/\qt o.kind o.p/\ZD o.kind o.unt/\zak o.kind o.now
instance (o:OpD):Decidable (Qz o):=by unfold Qz;exact inferInstance
theorem ZQ {k:Int}{own:ByteArray}{name:Int}{lgn:Nat}{lg:Nat->Int}{pe len hei cl:Int}{all:Bool}{be unt now:Int}(a:In k 1 9) :
  decide (Qz ⟨k,own,name,lgn,lg,pe,len,hei,cl,all,be,unt,now⟩)=(decide (qO k own) && decide (Zp k name) && decide (qj k lgn) && decide (qt k ⟨pe,len,hei,cl,all,be⟩) && decide (ZD k unt) && decide (zak k now)):=by
 rw[Bool.eq_iff_iff];simp only[Bool.and_eq_true,decide_eq_true_eq];unfold Qz OpD.p;exact⟨fun h=>⟨⟨⟨⟨⟨h.2.1,h.2.2.1⟩,h.2.2.2.1⟩,h.2.2.2.2.1⟩,h.2.2.2.2.2.1⟩,h.2.2.2.2.2.2⟩,fun h=>⟨a,h.1.1.1.1.1,h.1.1.1.1.2,h.1.1.1.2,h.1.1.2,h.1.2,h.2⟩⟩
theorem Z8 (own:ByteArray){k:Int}(a:¬ (k=2∨k=3∨k=7)):decide (qO k own)=own.toList.isEmpty:=by
 rw[Bool.eq_iff_iff];rw[decide_eq_true_eq];unfold qO;rw[if_neg a,List.isEmpty_iff,ByteArray.toList_eq];obtain⟨⟨l⟩⟩:=own
 show l.length=0↔l=[]
 exact List.length_eq_zero_iff
theorem zbe (n:Int){k:Int}(a:¬ In k 4 8):decide (Zp k n)=(n == 0):=by
 rw[Bool.eq_iff_iff];rw[decide_eq_true_eq];unfold Zp;rw[if_neg a,beq_iff_eq]
theorem zbP (n:Nat):((n:Int) == 0)=decide (n=0):=by
 rw[Bool.eq_iff_iff,beq_iff_eq,decide_eq_true_eq];omega
theorem int_one (n:Nat):((n:Int) == 1)=decide (n=1):=by
 rw[Bool.eq_iff_iff,beq_iff_eq,decide_eq_true_eq];omega
theorem zal {k:Int}{p:Zf}{q:Bool}(a:zR k)(h:q=true↔qI p):decide (qt k p)=q:=by
 rw[Bool.eq_iff_iff,decide_eq_true_eq,h];unfold qt;rw[if_pos a]
def PZ (pe len hei cl:Int)(all:Bool)(be:Int):Bool:=decide (zby ⟨pe,len,hei,cl,all,be⟩)
theorem qS {pe len hei cl:Int}{all:Bool}{be:Int}(h:¬ zby ⟨pe,len,hei,cl,all,be⟩):PZ pe len hei cl all be=false:=decide_eq_false h
theorem QV {k:Int}{pe len hei cl:Int}{all:Bool}{be:Int}(a:¬ zR k):PZ pe len hei cl all be=decide (qt k ⟨pe,len,hei,cl,all,be⟩):=by
 unfold PZ;rw[Bool.eq_iff_iff,decide_eq_true_eq,decide_eq_true_eq];unfold qt;rw[if_neg a]
theorem qE (x y:Int)(w:World) :
  Calls Tryz.prog 90 #[int i64 x,int i64 y] w fun e w'=>e=.returned (.bool (decide (Q3 x y)))/\w'=w:=by
 obtain⟨c,f⟩:∃ c,c=decide (Q3 x y):=⟨_,rfl⟩;rw[← f];have d:=hI f;clear f
 by_cases h1:In x 1 2000
 ·have g:decide (In x 1 2000)=true:=decide_eq_true h1
  have a:=hI h1;clear h1
  by_cases h2:In y 1 500
  ·have i:decide (In y 1 500)=true:=decide_eq_true h2
   have b:=hI h2;clear h2;go_enter Tryz.func90,Tryz.ntmps90;go_wp2_with (first|(go_at_call 19;refine sC (zx _ _ _ _) ?_))
   go_ret;exact⟨by rw[d.out,decide_eq_true ⟨a.out,b.out⟩];rfl,rfl⟩
  ·have i:decide (In y 1 500)=false:=decide_eq_false h2
   have b:=hI h2;clear h2;go_enter Tryz.func90,Tryz.ntmps90;go_wp2_with (first|(go_at_call 19;refine sC (zx _ _ _ _) ?_))
   go_ret;exact⟨by rw[d.out,decide_eq_false (fun h=>b.out h.2)];rfl,rfl⟩
 ·have g:decide (In x 1 2000)=false:=decide_eq_false h1
  have a:=hI h1;clear h1;go_enter Tryz.func90,Tryz.ntmps90;go_wp2_with (first|(go_at_call 19;refine sC (zx _ _ _ _) ?_))
  go_ret;exact⟨by rw[d.out,decide_eq_false (fun h=>a.out h.1)];rfl,rfl⟩
theorem Qm (pe len hei cl:Int)(all:Bool)(be:Int)(w:World) :
  Calls Tryz.prog 45 #[.agg #[int i64 pe,int i64 len,int i64 hei,int i64 cl,.bool all,int i64 be]] w fun e w'=>SaysIf (qI ⟨pe,len,hei,cl,all,be⟩) e/\Below w.heap.size w w':=by
 by_cases h1:In pe 1 20
 ·have p:decide (In pe 1 20)=true:=decide_eq_true h1
  have b:=hI h1;clear h1
  by_cases h2:len=0
  ·subst h2
   have m:Hid (¬ Q3 0 hei):=fun h=>by have:=h.1;unfold In at this;omega
   have n:decide (Q3 0 hei)=false:=decide_eq_false m.out
   by_cases h3:hei=0
   ·subst h3
    by_cases k0:cl=0
    ·subst k0
     cases all with
     | true =>
      go_enter Tryz.func45,Tryz.ntmps45;go_wp2_with (first|(go_at_call 19;refine sC (zx _ _ _ _) ?_)|(go_at_call 90;refine sC (qE _ _ _) ?_))
      go_ret;exact⟨zC (fun h=>by rcases h.2.2 with h|h;cases h.2.1;have i:In (0:Int) 1 3:=h.1;unfold In at i;omega),zr bZ _⟩
     | false =>
      by_cases k1:be=0
      ·subst k1
       go_enter Tryz.func45,Tryz.ntmps45;go_wp2_with (first|(go_at_call 19;refine sC (zx _ _ _ _) ?_)|(go_at_call 90;refine sC (qE _ _ _) ?_))
       go_ret;exact⟨says_yes ⟨b.out,.inl ⟨rfl,rfl⟩,.inl ⟨rfl,rfl,rfl⟩⟩,zr bZ _⟩
      ·have j:(be == 0)=false:=by simpa using k1
       have f:=hI k1;clear k1;go_enter Tryz.func45,Tryz.ntmps45;go_wp2_with (first|(go_at_call 19;refine sC (zx _ _ _ _) ?_)|(go_at_call 90;refine sC (qE _ _ _) ?_))
       go_ret;exact⟨zC (fun h=>by rcases h.2.2 with h|h;exact f.out h.2.2;have i:In (0:Int) 1 3:=h.1;unfold In at i;omega),zr bZ _⟩
    ·have r:(cl == 0)=false:=by simpa using k0
     have d:=hI k0;clear k0
     by_cases k2:In cl 1 3
     ·have k:decide (In cl 1 3)=true:=decide_eq_true k2
      have a:=hI k2;clear k2
      cases all with
      | true =>
       by_cases k1:be=0
       ·subst k1
        go_enter Tryz.func45,Tryz.ntmps45;go_wp2_with (first|(go_at_call 19;refine sC (zx _ _ _ _) ?_)|(go_at_call 90;refine sC (qE _ _ _) ?_))
        go_ret;exact⟨says_yes ⟨b.out,.inl ⟨rfl,rfl⟩,.inr ⟨a.out,.inl ⟨rfl,rfl⟩⟩⟩,zr bZ _⟩
       ·have j:(be == 0)=false:=by simpa using k1
        have f:=hI k1;clear k1;go_enter Tryz.func45,Tryz.ntmps45;go_wp2_with (first|(go_at_call 19;refine sC (zx _ _ _ _) ?_)|(go_at_call 90;refine sC (qE _ _ _) ?_))
        go_ret;exact⟨zC (fun h=>by rcases h.2.2 with h|h;exact d.out h.1;rcases h.2 with h|h;exact f.out h.2;cases h.1),zr bZ _⟩
      | false =>
       by_cases k3:In be 1 4
       ·have l:decide (In be 1 4)=true:=decide_eq_true k3
        have g:=hI k3;clear k3;go_enter Tryz.func45,Tryz.ntmps45;go_wp2_with (first|(go_at_call 19;refine sC (zx _ _ _ _) ?_)|(go_at_call 90;refine sC (qE _ _ _) ?_))
        go_ret;exact⟨says_yes ⟨b.out,.inl ⟨rfl,rfl⟩,.inr ⟨a.out,.inr ⟨rfl,g.out⟩⟩⟩,zr bZ _⟩
       ·have l:decide (In be 1 4)=false:=decide_eq_false k3
        have g:=hI k3;clear k3;go_enter Tryz.func45,Tryz.ntmps45;go_wp2_with (first|(go_at_call 19;refine sC (zx _ _ _ _) ?_)|(go_at_call 90;refine sC (qE _ _ _) ?_))
        go_ret;exact⟨zC (fun h=>by rcases h.2.2 with h|h;exact d.out h.1;rcases h.2 with h|h;cases h.1;exact g.out h.2),zr bZ _⟩
     ·have k:decide (In cl 1 3)=false:=decide_eq_false k2
      have a:=hI k2;clear k2;go_enter Tryz.func45,Tryz.ntmps45;go_wp2_with (first|(go_at_call 19;refine sC (zx _ _ _ _) ?_)|(go_at_call 90;refine sC (qE _ _ _) ?_))
      go_ret;exact⟨zC (fun h=>by rcases h.2.2 with h|h;exact d.out h.1;exact a.out h.1),zr bZ _⟩
   ·have q:(hei == 0)=false:=by simpa using h3
    have c:=hI h3;clear h3;go_enter Tryz.func45,Tryz.ntmps45;go_wp2_with (first|(go_at_call 19;refine sC (zx _ _ _ _) ?_)|(go_at_call 90;refine sC (qE _ _ _) ?_))
    go_ret;exact⟨zC (fun h=>by rcases h.2.1 with h|h;exact c.out h.2;exact m.out h),zr bZ _⟩
  ·have q:(len == 0)=false:=by simpa using h2
   have o:=hI h2;clear h2
   by_cases h3:Q3 len hei
   ·have n:decide (Q3 len hei)=true:=decide_eq_true h3
    have c:=hI h3;clear h3
    by_cases k0:cl=0
    ·subst k0
     cases all with
     | true =>
      go_enter Tryz.func45,Tryz.ntmps45;go_wp2_with (first|(go_at_call 19;refine sC (zx _ _ _ _) ?_)|(go_at_call 90;refine sC (qE _ _ _) ?_))
      go_ret;exact⟨zC (fun h=>by rcases h.2.2 with h|h;cases h.2.1;have i:In (0:Int) 1 3:=h.1;unfold In at i;omega),zr bZ _⟩
     | false =>
      by_cases k1:be=0
      ·subst k1
       go_enter Tryz.func45,Tryz.ntmps45;go_wp2_with (first|(go_at_call 19;refine sC (zx _ _ _ _) ?_)|(go_at_call 90;refine sC (qE _ _ _) ?_))
       go_ret;exact⟨says_yes ⟨b.out,.inr c.out,.inl ⟨rfl,rfl,rfl⟩⟩,zr bZ _⟩
      ·have j:(be == 0)=false:=by simpa using k1
       have f:=hI k1;clear k1;go_enter Tryz.func45,Tryz.ntmps45;go_wp2_with (first|(go_at_call 19;refine sC (zx _ _ _ _) ?_)|(go_at_call 90;refine sC (qE _ _ _) ?_))
       go_ret;exact⟨zC (fun h=>by rcases h.2.2 with h|h;exact f.out h.2.2;have i:In (0:Int) 1 3:=h.1;unfold In at i;omega),zr bZ _⟩
    ·have r:(cl == 0)=false:=by simpa using k0
     have d:=hI k0;clear k0
     by_cases k2:In cl 1 3
     ·have k:decide (In cl 1 3)=true:=decide_eq_true k2
      have a:=hI k2;clear k2
      cases all with
      | true =>
       by_cases k1:be=0
       ·subst k1
        go_enter Tryz.func45,Tryz.ntmps45;go_wp2_with (first|(go_at_call 19;refine sC (zx _ _ _ _) ?_)|(go_at_call 90;refine sC (qE _ _ _) ?_))
        go_ret;exact⟨says_yes ⟨b.out,.inr c.out,.inr ⟨a.out,.inl ⟨rfl,rfl⟩⟩⟩,zr bZ _⟩
       ·have j:(be == 0)=false:=by simpa using k1
        have f:=hI k1;clear k1;go_enter Tryz.func45,Tryz.ntmps45;go_wp2_with (first|(go_at_call 19;refine sC (zx _ _ _ _) ?_)|(go_at_call 90;refine sC (qE _ _ _) ?_))
        go_ret;exact⟨zC (fun h=>by rcases h.2.2 with h|h;exact d.out h.1;rcases h.2 with h|h;exact f.out h.2;cases h.1),zr bZ _⟩
      | false =>
       by_cases k3:In be 1 4
       ·have l:decide (In be 1 4)=true:=decide_eq_true k3
        have g:=hI k3;clear k3;go_enter Tryz.func45,Tryz.ntmps45;go_wp2_with (first|(go_at_call 19;refine sC (zx _ _ _ _) ?_)|(go_at_call 90;refine sC (qE _ _ _) ?_))
        go_ret;exact⟨says_yes ⟨b.out,.inr c.out,.inr ⟨a.out,.inr ⟨rfl,g.out⟩⟩⟩,zr bZ _⟩
       ·have l:decide (In be 1 4)=false:=decide_eq_false k3
        have g:=hI k3;clear k3;go_enter Tryz.func45,Tryz.ntmps45;go_wp2_with (first|(go_at_call 19;refine sC (zx _ _ _ _) ?_)|(go_at_call 90;refine sC (qE _ _ _) ?_))
        go_ret;exact⟨zC (fun h=>by rcases h.2.2 with h|h;exact d.out h.1;rcases h.2 with h|h;cases h.1;exact g.out h.2),zr bZ _⟩
     ·have k:decide (In cl 1 3)=false:=decide_eq_false k2
      have a:=hI k2;clear k2;go_enter Tryz.func45,Tryz.ntmps45;go_wp2_with (first|(go_at_call 19;refine sC (zx _ _ _ _) ?_)|(go_at_call 90;refine sC (qE _ _ _) ?_))
      go_ret;exact⟨zC (fun h=>by rcases h.2.2 with h|h;exact d.out h.1;exact a.out h.1),zr bZ _⟩
   ·have n:decide (Q3 len hei)=false:=decide_eq_false h3
    have c:=hI h3;clear h3;go_enter Tryz.func45,Tryz.ntmps45;go_wp2_with (first|(go_at_call 19;refine sC (zx _ _ _ _) ?_)|(go_at_call 90;refine sC (qE _ _ _) ?_))
    go_ret;exact⟨zC (fun h=>by rcases h.2.1 with h|h;exact o.out h.1;exact c.out h),zr bZ _⟩
 ·have p:decide (In pe 1 20)=false:=decide_eq_false h1
  have b:=hI h1;clear h1;go_enter Tryz.func45,Tryz.ntmps45;go_wp2_with (first|(go_at_call 19;refine sC (zx _ _ _ _) ?_)|(go_at_call 90;refine sC (qE _ _ _) ?_))
  go_ret;exact⟨zC (fun h=>b.out h.1),zr bZ _⟩
theorem zS (k:Int)(w:World):Calls Tryz.prog 43 #[int i64 k] w fun e w'=>e=.returned (.bool (decide (In k 4 8)))/\w'=w:=by
 go_enter Tryz.func43,Tryz.ntmps43;go_wp2_with (first|(go_at_call 19;refine sC (zx _ _ _ _) ?_))
 go_ret;exact⟨rfl,rfl⟩
theorem zY (k:Int)(w:World):Calls Tryz.prog 44 #[int i64 k] w fun e w'=>e=.returned (.bool (decide (zR k)))/\w'=w:=by
 obtain⟨c,d⟩:∃ c,c=decide (zR k):=⟨_,rfl⟩;rw[← d];have b:=hI d;clear d
 by_cases h1:k=1
 ·have a:Hid (c=true):=by rw[b.out];exact decide_eq_true (.inl h1)
  subst h1;go_enter Tryz.func44,Tryz.ntmps44;go_wp2;go_ret;exact⟨by rw[a.out];rfl,rfl⟩
 ·have e1:(k == 1)=false:=by simpa using h1
  by_cases h2:k=2
  ·have a:Hid (c=true):=by rw[b.out];exact decide_eq_true (.inr (.inl h2))
   subst h2;go_enter Tryz.func44,Tryz.ntmps44;go_wp2;go_ret;exact⟨by rw[a.out];rfl,rfl⟩
  ·have e2:(k == 2)=false:=by simpa using h2
   by_cases h3:k=3
   ·have a:Hid (c=true):=by rw[b.out];exact decide_eq_true (.inr (.inr (.inl h3)))
    subst h3;go_enter Tryz.func44,Tryz.ntmps44;go_wp2;go_ret;exact⟨by rw[a.out];rfl,rfl⟩
   ·have e3:(k == 3)=false:=by simpa using h3
    by_cases h5:k=5
    ·have a:Hid (c=true):=by rw[b.out];exact decide_eq_true (.inr (.inr (.inr h5)))
     subst h5;go_enter Tryz.func44,Tryz.ntmps44;go_wp2;go_ret;exact⟨by rw[a.out];rfl,rfl⟩
    ·have e5:(k == 5)=false:=by simpa using h5
     have a:Hid (c=false):=by rw[b.out];exact decide_eq_false (fun h=>by rcases h with h|h|h|h;exact h1 h;exact h2 h;exact h3 h;exact h5 h)
     clear h1 h2 h3 h5;go_enter Tryz.func44,Tryz.ntmps44;go_wp2;go_ret;exact⟨by rw[a.out];rfl,rfl⟩
end Go.Proofs.YtfallpinmhbemaaGreatDoor
