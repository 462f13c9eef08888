/-
  OWN TEXT: SettF, SettG, FormsI, WhereI, NameI, OpI, ImplS1.
-/
import Derived.Test.YtmdnjgihooflfaaGreatDoorRows
import Derived.Deep.DeepCutAuto
import Derived.Test.YtmdnjgihooflfaaGreatDoorB22
namespace Go.Proofs.YtmdnjgihooflfaaGreatDoor
open Go.RowKit
open Go.Value (int)
open Go.IntKind (i64)
set_option maxHeartbeats 64000000
set_option maxRecDepth 100000
theorem zfS.row {w u i:World}{e f g:Value}{os:Array Value}{T:Nat->Prop}(h:zfS w u e f g os)(a:zx u i T)(j:∀ b,T b->∃ cs,u.heap[b]?=some (.cells cs 150 (0,0))):zfS w i e f g os:=by
 have c:∀ b t cs,u.heap[b]?=some (.cells cs t (0,0))->150≠t->¬ T b:=fun b t cs h1 h2 h3=>by
  obtain⟨cs',d⟩:=j b h3;rw[h1] at d;simp only[Option.some.injEq,Obj.cells.injEq] at d;exact h2 d.2.1.symm
 exact⟨a.blk h.bo (c _ _ _ h.bo (by decide)),a.blk h.bp (c _ _ _ h.bp (by decide)),a.blk h.br (c _ _ _ h.br (by decide)),a.blk h.ba (c _ _ _ h.ba (by decide))⟩
theorem zfS.putO {w u:World}{a b c:Value}{os:Array Value}(h:zfS w u a b c os)(q:Value):zfS w (u.setCell ⟨w.heap.size,2,none⟩ q) a b q os :=
 ⟨(zlS h.bo q).2.2,zD h.bp 2 q (by omega),zD h.br 2 q (by omega),zD h.ba 2 q (by omega)⟩
theorem keptO {w u c:World}{S T:Nat->Prop}(h:zx w u S)(k:zx u c T)(d:∀ b,T b->w.heap.size<=b):zx w c S :=
 ⟨k.os.trans h.os,k.tape.trans h.tape,k.output.trans h.output,Nat.le_trans h.size k.size,fun i a e=>(k.block i (Nat.lt_of_lt_of_le a h.size) (fun t=>by have:=d i t;omega)).trans (h.block i a e)⟩
theorem lowK {w u:World}{S:Nat->Prop}(f:zx w u S)(a c d v0 v1 v2 v3:Value):zx w (ZK (qt u (w.heap.size+1+1) a c d) (w.heap.size+1+1+1) v0 v1 v2 v3) S :=
 keptO (keptO f (QG u (w.heap.size+1+1) a c d) (fun b e=>by have e:b=w.heap.size+1+1:=e;omega)) (QH (qt u (w.heap.size+1+1) a c d) (w.heap.size+1+1+1) v0 v1 v2 v3) (fun b e=>by have e:b=w.heap.size+1+1+1:=e;omega)
theorem znM (x:Off)(m n V:Option Addr)(c1 c2 c3 base:Nat)(L C A B D E:Nat->Value)(c st:Int)(y:OpD)(r:Option Addr)(H:Nat)(w:World)(hk:(y.kind=2/\st=1)∨(y.kind=3/\st=2))(hB:Zq w)(hF:Zu w)(hp:QU ⟨y.pe,y.len,y.hei,y.cl,y.all,y.be⟩ y.lgn)(hl:zT w r y.lgn y.lg)(hu:y.kind=3->y.unt=0)(e3:x.bkn<30)(b8:base<=w.heap.size)(W:zF w base (.slice m x.san c1) (.slice n x.ldn c2) (.slice V x.bkn c3) x.san x.ldn x.bkn x L C A B D E) :
  Calls Tryz.prog 111 #[.agg #[.slice m x.san c1,.slice n x.ldn c2,.slice V x.bkn c3],int i64 c,.agg #[int i64 y.kind,.string y.own,int i64 y.name,.slice r y.lgn H,int i64 y.pe,int i64 y.len,int i64 y.hei,int i64 y.cl,.bool y.all,int i64 y.be,int i64 y.unt,int i64 y.now]] w fun e w'=>(∃ b3 d3 E2,e=.returned (.tuple #[.agg #[.slice m x.san c1,.slice n x.ldn c2,.slice b3 (x.bkn+1) d3],.agg #[int i64 0,int i64 ((x.bkn:Int)+1),int i64 (zE ⟨y.pe,y.len,y.hei,y.cl,y.all,y.be⟩ y.lgn),.slice none 0 0]])/\zF w' base (.slice m x.san c1) (.slice n x.ldn c2) (.slice b3 (x.bkn+1) d3) x.san x.ldn (x.bkn+1) { x with bkn:=x.bkn+1,bk:=zah x.bk x.bkn (Qf x.bkn c y) } L C A B D E2)/\zx w w' (fun b=>(Value.slice V x.bkn c3).ownBlock=some b):=by
 obtain⟨r0,ri,d8,d9,e0⟩:=info_parts Tryz.infoBookingO;have O:=hI W;have d0:Hid ((y.kind=2->st=1)/\(y.kind≠2->st=2)):=by rcases hk with⟨h1,h2⟩|⟨h1,h2⟩ <;> exact⟨fun h=>by omega,fun h=>by omega⟩
 have b1:Hid (Qf x.bkn c y=⟨(x.bkn:Int)+1,c,y.own,y.lgn,y.lg,y.pe,y.len,y.hei,y.cl,y.all,y.be,st,y.unt,(zE ⟨y.pe,y.len,y.hei,y.cl,y.all,y.be⟩ y.lgn)⟩):=by
  show _=_
  unfold Qf
  rcases hk with⟨h1,h2⟩|⟨h1,h2⟩
  ·rw[if_pos h1,if_pos h1,h2]
  ·rw[if_neg (by omega),if_neg (by omega),h2,hu h1]
 have HP:=hI hp;have HI:=hI hl;have e4:IntKind.i64.wrap ((x.bkn:Int)+1)=(x.bkn:Int)+1:=by rw[IntKind.wrap_i64];omega
 have F:Hid _:=zfS.start w (.slice m x.san c1) (.slice n x.ldn c2) (.slice V x.bkn c3) #[int i64 y.kind,.string y.own,int i64 y.name,.slice r y.lgn H,int i64 y.pe,int i64 y.len,int i64 y.hei,int i64 y.cl,.bool y.all,int i64 y.be,int i64 y.unt,int i64 y.now];have g:Below w.heap.size w ((((w.alloc (.cells #[.slice m x.san c1,.slice n x.ldn c2,.slice V x.bkn c3] 38)).alloc (.cells #[int i64 y.kind,.string y.own,int i64 y.name,.slice r y.lgn H,int i64 y.pe,int i64 y.len,int i64 y.hei,int i64 y.cl,.bool y.all,int i64 y.be,int i64 y.unt,int i64 y.now] 47)).alloc (.cells #[.slice none 0 0,.slice none 0 0,.slice none 0 0] 38)).alloc (.cells #[int i64 0,int i64 0,int i64 0,.slice none 0 0] 41)):=zk (zk (zk (zk bZ _) _) _) _;have d1:(y.kind == 1)=false:=by have:y.kind≠1:=by omega
                    simpa using this
 have c0:y.kind=2∨y.kind=3:=by omega
 have a8:=hI c0;clear hk W hp hl hu c0;go_enter Tryz.func111,Tryz.ntmps111;go_upto_region 1 with fail;generalize (((w.alloc (.cells #[.slice m x.san c1,.slice n x.ldn c2,.slice V x.bkn c3] 38)).alloc (.cells #[int i64 y.kind,.string y.own,int i64 y.name,.slice r y.lgn H,int i64 y.pe,int i64 y.len,int i64 y.hei,int i64 y.cl,.bool y.all,int i64 y.be,int i64 y.unt,int i64 y.now] 47)).alloc (.cells #[.slice none 0 0,.slice none 0 0,.slice none 0 0] 38)).alloc (.cells #[int i64 0,int i64 0,int i64 0,.slice none 0 0] 41)=U at F g ⊢;have o0:=za F.out.bp 0 _ rfl;have o2:=za F.out.bo 2 _ rfl;obtain⟨p0,p1,p2,p3,p4,p5,p6,p7,p8,p9,d6,d7⟩:=zeW F.out.bp;have e5:=hI a8
 rcases a8.out with k2|k3
 all_goals
  first|(have d2:(y.kind == 2)=true:=by simpa using k2)|(have d2:(y.kind == 2)=false:=by simpa using(show y.kind≠2 by omega))
  first|(have d3:(y.kind == 3)=true:=by simpa using k3)|skip
  first|clear k2|clear k3
  go_wp2_with fail;refine(zhA ((x.bkn:Int)+1) c y r H U (hB.below g) (hF.below g) HP.out (HI.out.below g) st d0.out).mono ?_;rintro e M ⟨⟨la,k,rfl,ho⟩,S⟩;clear o0 o2 p0 p1 p2 p3 p4 p5 p6 p7 p8 p9 d6 d7;have a7:=ze g S;have J:Below M.heap.size M (M.alloc (.cells #[int i64 ((x.bkn:Int)+1),int i64 c,.string y.own,.slice la y.lgn k,int i64 y.pe,int i64 y.len,int i64 y.hei,int i64 y.cl,.bool y.all,int i64 y.be,int i64 st,int i64 y.unt,int i64 (zE ⟨y.pe,y.len,y.hei,y.cl,y.all,y.be⟩ y.lgn)] 150)):=zk bZ _;have p:Below (M.alloc (.cells #[int i64 ((x.bkn:Int)+1),int i64 c,.string y.own,.slice la y.lgn k,int i64 y.pe,int i64 y.len,int i64 y.hei,int i64 y.cl,.bool y.all,int i64 y.be,int i64 st,int i64 y.unt,int i64 (zE ⟨y.pe,y.len,y.hei,y.cl,y.all,y.be⟩ y.lgn)] 150)).heap.size (M.alloc (.cells #[int i64 ((x.bkn:Int)+1),int i64 c,.string y.own,.slice la y.lgn k,int i64 y.pe,int i64 y.len,int i64 y.hei,int i64 y.cl,.bool y.all,int i64 y.be,int i64 st,int i64 y.unt,int i64 (zE ⟨y.pe,y.len,y.hei,y.cl,y.all,y.be⟩ y.lgn)] 150)) ((M.alloc (.cells #[int i64 ((x.bkn:Int)+1),int i64 c,.string y.own,.slice la y.lgn k,int i64 y.pe,int i64 y.len,int i64 y.hei,int i64 y.cl,.bool y.all,int i64 y.be,int i64 st,int i64 y.unt,int i64 (zE ⟨y.pe,y.len,y.hei,y.cl,y.all,y.be⟩ y.lgn)] 150)).alloc (.cells #[int i64 ((x.bkn:Int)+1),int i64 c,.string y.own,.slice la y.lgn k,int i64 y.pe,int i64 y.len,int i64 y.hei,int i64 y.cl,.bool y.all,int i64 y.be,int i64 st,int i64 y.unt,int i64 (zE ⟨y.pe,y.len,y.hei,y.cl,y.all,y.be⟩ y.lgn)] 150)):=zk bZ _;have T:Hid (∀ i,i<x.bkn->∀ b,(E i).ownBlock=some b->b<U.heap.size):=fun i hi b e=>by have h1:=(((O.out.below g).bk.legs i hi).lt b e).2;exact h1
  have P:Hid _:=(F.out.below S).below J;have bN:=heap_alloc_new M (.cells #[int i64 ((x.bkn:Int)+1),int i64 c,.string y.own,.slice la y.lgn k,int i64 y.pe,int i64 y.len,int i64 y.hei,int i64 y.cl,.bool y.all,int i64 y.be,int i64 st,int i64 y.unt,int i64 (zE ⟨y.pe,y.len,y.hei,y.cl,y.all,y.be⟩ y.lgn)] 150);have q:=hI (((O.out.below a7).below J).below p);have Y:=hI (zo p (zo J ho));have R:=ze (ze a7 J) p;have d4:=g.size;have d5:w.heap.size+1+1+1<M.heap.size:=zM (F.out.below S).ba;go_upto_region 7 with fail;generalize hY1:M.alloc (.cells #[int i64 ((x.bkn:Int)+1),int i64 c,.string y.own,.slice la y.lgn k,int i64 y.pe,int i64 y.len,int i64 y.hei,int i64 y.cl,.bool y.all,int i64 y.be,int i64 st,int i64 y.unt,int i64 (zE ⟨y.pe,y.len,y.hei,y.cl,y.all,y.be⟩ y.lgn)] 150)=Y1 at P bN q Y p R ⊢;generalize M.heap.size=nb at bN d5 ⊢;have b2:Hid (∀ j u,([int i64 ((x.bkn:Int)+1),int i64 c,.string y.own,.slice la y.lgn k,int i64 y.pe,int i64 y.len,int i64 y.hei,int i64 y.cl,.bool y.all,int i64 y.be,int i64 st,int i64 y.unt,int i64 (zE ⟨y.pe,y.len,y.hei,y.cl,y.all,y.be⟩ y.lgn)]:List Value)[j]?=some u->(Y1.alloc (.cells #[int i64 ((x.bkn:Int)+1),int i64 c,.string y.own,.slice la y.lgn k,int i64 y.pe,int i64 y.len,int i64 y.hei,int i64 y.cl,.bool y.all,int i64 y.be,int i64 st,int i64 y.unt,int i64 (zE ⟨y.pe,y.len,y.hei,y.cl,y.all,y.be⟩ y.lgn)] 150)).cell? ((⟨Y1.heap.size,0,none⟩:Addr).add j)=some u):=World.news_of_block (heap_alloc_new Y1 _);have Q:Hid _:=P.out.below p;have b6:=zb bN p;have q2:=za P.out.bo 2 _ rfl;have X:base<=(Y1.alloc (.cells #[int i64 ((x.bkn:Int)+1),int i64 c,.string y.own,.slice la y.lgn k,int i64 y.pe,int i64 y.len,int i64 y.hei,int i64 y.cl,.bool y.all,int i64 y.be,int i64 st,int i64 y.unt,int i64 (zE ⟨y.pe,y.len,y.hei,y.cl,y.all,y.be⟩ y.lgn)] 150)).heap.size:=Nat.le_trans b8 R.size;clear hY1 J S ho a7;refine wp_region_lit ?_;refine Go.Great.wpList_runTo rfl _ rfl _ _ (show _=_ from rfl) ?_;refine Go.Great.wpList_readTo rfl _ rfl (.slice V x.bkn c3) (by simp[execOp,q2,go_sem]) ?_
  refine wpList_load_row rfl _ _ rfl nb rfl _ _ (0,0) _ bN Tryz.underlying150 rfl Tryz.sizeBookingO ?_;refine Go.Great.wpList_buildSliceTo rfl _ _ 1 _ rfl _ rfl _ rfl Tryz.underlying36 #[int i64 ((x.bkn:Int)+1),int i64 c,.string y.own,.slice la y.lgn k,int i64 y.pe,int i64 y.len,int i64 y.hei,int i64 y.cl,.bool y.all,int i64 y.be,int i64 st,int i64 y.unt,int i64 (zE ⟨y.pe,y.len,y.hei,y.cl,y.all,y.be⟩ y.lgn)] (Eq.trans (congrArg (Program.builtSlice Tryz.prog 150 1) (show _=[(0,Value.agg #[int i64 ((x.bkn:Int)+1),int i64 c,.string y.own,.slice la y.lgn k,int i64 y.pe,int i64 y.len,int i64 y.hei,int i64 y.cl,.bool y.all,int i64 y.be,int i64 st,int i64 y.unt,int i64 (zE ⟨y.pe,y.len,y.hei,y.cl,y.all,y.be⟩ y.lgn)])] from by first|(simp[go_sem];done)|rfl|kernel_rfl)) (zeO ((x.bkn:Int)+1) c y.pe y.len y.hei y.cl y.be st y.unt (zE ⟨y.pe,y.len,y.hei,y.cl,y.all,y.be⟩ y.lgn) y.own y.all la y.lgn k)) ?_
  clear q2;go_wp2_with (first|(at_builtin;refine wpList_append_lies _ (by rfl) (.tmp 33) (.tmp 35) 36 (by rfl) base 150 r0 (.agg #[int i64 0,int i64 0,.string ⟨#[]⟩,.slice none 0 0,int i64 0,int i64 0,int i64 0,int i64 0,.bool false,int i64 0,int i64 0,int i64 0,int i64 0]) 13 128 Tryz.underlying36 ri d8 d9 e0 rfl (by decide) _ x.bkn (zbg x.bk E x.bkn) (by rfl) q.out.bk.row ⟨Y1.heap.size,0,none⟩ 1 1 [int i64 ((x.bkn:Int)+1),int i64 c,.string y.own,.slice la y.lgn k,int i64 y.pe,int i64 y.len,int i64 y.hei,int i64 y.cl,.bool y.all,int i64 y.be,int i64 st,int i64 y.unt,int i64 (zE ⟨y.pe,y.len,y.hei,y.cl,y.all,y.be⟩ y.lgn)] (by rfl) (by rfl) b2.out (by intro u hu;simp at hu;rcases hu with rfl|rfl|rfl|rfl|rfl|rfl|rfl|rfl|rfl|rfl|rfl|rfl|rfl <;> rfl) (by decide) (by unfold maxLen;omega) (by omega) X _ rfl ?_;intro o d w3 c9 s _ _;have a6:=(qJ s).blk Q.out.bo (fun e=>by obtain⟨cs,e2⟩:=zA q.out.bk.row _ e;rw[Q.out.bo] at e2;simp at e2);have z2:=za a6 2 _ rfl;have e1:=zg a6 2))
  have a4:Hid _:=Q.out.row (qJ s) (fun b e=>zA q.out.bk.row b e)
  have b7:=(qJ s).blk b6 (fun e=>by have:=(O.out.bk.row.lt nb e).2;omega)
  have b9:bkC (zah x.bk x.bkn (Qf x.bkn c y)) (atV E x.bkn (.slice la y.lgn k)) x.bkn=[int i64 ((x.bkn:Int)+1),int i64 c,.string y.own,.slice la y.lgn k,int i64 y.pe,int i64 y.len,int i64 y.hei,int i64 y.cl,.bool y.all,int i64 y.be,int i64 st,int i64 y.unt,int i64 (zE ⟨y.pe,y.len,y.hei,y.cl,y.all,y.be⟩ y.lgn)]:=by unfold bkC;rw[ZL,qu,b1.out]
  have b4:Hid _:=q.out.addBk (nb:=Qf x.bkn c y) (lv:=.slice la y.lgn k) (v':=(.slice (some ⟨o,0,none⟩) (x.bkn+1) d)) T.out (by rw[b1.out];exact Y.out) (Nat.le_trans b8 d4) s (by rw[b9];exact c9)
  have z:Hid _:=b4.out.box ((zx.refl w3 (fun b=>b=w.heap.size)).set (a:=⟨w.heap.size,2,none⟩) rfl (.slice (some ⟨o,0,none⟩) (x.bkn+1) d)) a4.out.bo (by decide)
  have f:Hid _:=a4.out.putO (.slice (some ⟨o,0,none⟩) (x.bkn+1) d);have a5:=zD (b':=w.heap.size) b7 2 (.slice (some ⟨o,0,none⟩) (x.bkn+1) d) (by omega)
  have I:zx w (w3.setCell ⟨w.heap.size,2,none⟩ (.slice (some ⟨o,0,none⟩) (x.bkn+1) d)) (fun b=>(Value.slice V x.bkn c3).ownBlock=some b):=keptO ((zx.of_below R).trans (qJ s)) ((zx.refl w3 (fun b=>b=w.heap.size)).set (a:=⟨w.heap.size,2,none⟩) rfl _) (fun b e=>by have e:b=w.heap.size:=e;omega)
  clear z2 e1 a6 q Y b2 Q b6 R X P bN p a4 b7 b9 b4 c9 s O T HI HP F g;generalize w3.setCell ⟨w.heap.size,2,none⟩ (.slice (some ⟨o,0,none⟩) (x.bkn+1) d)=Z at z f a5 I ⊢;replace f:Hid _:=f.out.below (Below.refl _ Z).drew;replace z:Hid _:=z.out.below (Below.refl _ Z).drew;have N:Hid _:=zK a5;replace I:=I.trans (zx.of_below (Below.refl _ Z).drew);clear a5;refine qg 8 8 (fun u=>u.cell? ⟨w.heap.size,0,none⟩=some (.slice m x.san c1)/\u.cell? ⟨w.heap.size,1,none⟩=some (.slice n x.ldn c2)/\u.cell? ⟨w.heap.size,2,none⟩=some (.slice (some ⟨o,0,none⟩) (x.bkn+1) d)/\u.cell? ⟨nb,0,none⟩=some (int i64 ((x.bkn:Int)+1))/\u.cell? ⟨nb,12,none⟩=some (int i64 (zE ⟨y.pe,y.len,y.hei,y.cl,y.all,y.be⟩ y.lgn))) rfl (by kernel_rfl) (⟨za f.out.bo 0 _ rfl,za f.out.bo 1 _ rfl,za f.out.bo 2 _ rfl,za N.out 0 _ rfl,za N.out 12 _ rfl⟩) (fun hS=>?_)
  simp only[List.replicate_succ,List.replicate_zero];generalize Z.drew=u8 at z f N I hS ⊢;have F:=f;have a0:Hid _:=(QG u8 (w.heap.size+1+1) (.slice m x.san c1) (.slice n x.ldn c2) (.slice (some ⟨o,0,none⟩) (x.bkn+1) d)).blk N.out (show ¬ nb=w.heap.size+1+1 by omega)
  have b0:Hid _:=(QH (qt u8 (w.heap.size+1+1) (.slice m x.san c1) (.slice n x.ldn c2) (.slice (some ⟨o,0,none⟩) (x.bkn+1) d)) (w.heap.size+1+1+1) (int i64 0) (int i64 ((x.bkn:Int)+1)) (int i64 (zE ⟨y.pe,y.len,y.hei,y.cl,y.all,y.be⟩ y.lgn)) (.slice none 0 0)).blk a0.out (show ¬ nb=w.heap.size+1+1+1 by omega)
  (refine tkN 0 (v:=?_) rfl (by kernel_rfl) (fun _ _ _ h=>h) rfl (by assumption) ?_ ?_;rotate_left;(focus(intro w' h;(try dsimp only at h);go_simp;try with_reducible rfl));simp only[Act.put,sB,sZ,sS])
  (refine tkN 1 (v:=?_) rfl (by kernel_rfl) (fun _ _ _ h=>h) rfl (by assumption) ?_ ?_;rotate_left;(focus(intro w' h;(try dsimp only at h);go_simp;try with_reducible rfl));simp only[Act.put,sB,sZ,sS])
  (refine tkN 2 (v:=?_) rfl (by kernel_rfl) (fun _ _ _ h=>h) rfl (by assumption) ?_ ?_;rotate_left;(focus(intro w' h;(try dsimp only at h);go_simp;try with_reducible rfl));simp only[Act.put,sB,sZ,sS])
  (refine tkN 3 (v:=?_) rfl (by kernel_rfl) (fun _ _ _ h=>h) rfl (by assumption) ?_ ?_;rotate_left;(focus(intro w' h;(try dsimp only at h);go_simp;try with_reducible rfl));simp only[Act.put,sB,sZ,sS])
  (refine tkN 4 (v:=?_) rfl (by kernel_rfl) (fun _ _ _ h=>h) rfl (by assumption) ?_ ?_;rotate_left;(focus(intro w' h;(try dsimp only at h);go_simp;try with_reducible rfl));simp only[Act.put,sB,sZ,sS])
  (refine tkN 5 (v:=?_) rfl (by kernel_rfl) (fun _ _ _ h=>h) rfl (by assumption) ?_ ?_;rotate_left;(focus(intro w' h;(try dsimp only at h);go_simp;try with_reducible rfl));simp only[Act.put,sB,sZ,sS])
  have t:Hid _:=F.out.fin (.slice m x.san c1) (.slice n x.ldn c2) (.slice (some ⟨o,0,none⟩) (x.bkn+1) d) (int i64 0) (int i64 ((x.bkn:Int)+1)) (int i64 (zE ⟨y.pe,y.len,y.hei,y.cl,y.all,y.be⟩ y.lgn)) (.slice none 0 0);obtain⟨r0,r1,r2⟩:=ce3 F.out.br;obtain⟨f0,f1,f2⟩:=fe3 F.out.br;refine zj (rs:=[6]) (by kernel_rfl) (by simp) ?_
  refine zc.consL rfl (fun K hK=>?_) zc.nil
  go_simp;have l:=t.out.2.2;unfold qt at l;refine hK.out _ _ (⟨za l.1 0 _ rfl,za l.1 1 _ rfl,za l.1 2 _ rfl,za a0.out 0 _ rfl,za a0.out 12 _ rfl⟩) (fun hS=>?_)
  clear hK K r0 f0 r1 f1 r2 f2;simp only[sZ,sS];obtain⟨r0,r1,r2,r3⟩:=ce4 l.2.2.1;obtain⟨f0,f1,f2,f3⟩:=fe4 l.2.2.1;refine zj (rs:=[7]) (by kernel_rfl) (by simp) ?_
  refine zc.consL rfl (fun K hK=>?_) zc.nil
  go_simp;have G:=t.out.2.2.2.2.2;unfold ZK qt at G;refine hK.out _ _ (⟨za G.1 0 _ rfl,za G.1 1 _ rfl,za G.1 2 _ rfl,za b0.out 0 _ rfl,za b0.out 12 _ rfl⟩) (fun hS=>?_)
  clear hK K r0 f0 r1 f1 r2 f2 r3 f3 l G;simp only[sZ,sS];refine zX (by kernel_rfl) ?_ _
  go_wp2;have Z3:=t.out.1;have Z4:=t.out.2.1;unfold ZK qt at Z3 Z4;obtain⟨z0,z1,z2⟩:=ce3 Z3;obtain⟨t0,t1,t2,t3⟩:=ce4 Z4;have a9:=lowK I (.slice m x.san c1) (.slice n x.ldn c2) (.slice (some ⟨o,0,none⟩) (x.bkn+1) d) (int i64 0) (int i64 ((x.bkn:Int)+1)) (int i64 (zE ⟨y.pe,y.len,y.hei,y.cl,y.all,y.be⟩ y.lgn)) (.slice none 0 0);have b5:=(z.out.box (QG u8 (w.heap.size+1+1) (.slice m x.san c1) (.slice n x.ldn c2) (.slice (some ⟨o,0,none⟩) (x.bkn+1) d)) f.out.br (by decide)).box (QH (qt u8 (w.heap.size+1+1) (.slice m x.san c1) (.slice n x.ldn c2) (.slice (some ⟨o,0,none⟩) (x.bkn+1) d)) (w.heap.size+1+1+1) (int i64 0) (int i64 ((x.bkn:Int)+1)) (int i64 (zE ⟨y.pe,y.len,y.hei,y.cl,y.all,y.be⟩ y.lgn)) (.slice none 0 0)) t.out.2.2.2.2.1 (by decide)
  unfold ZK qt at a9 b5;exact bodyPost_ret (v:=.tuple #[.agg #[.slice m x.san c1,.slice n x.ldn c2,.slice (some ⟨o,0,none⟩) (x.bkn+1) d],.agg #[int i64 0,int i64 ((x.bkn:Int)+1),int i64 (zE ⟨y.pe,y.len,y.hei,y.cl,y.all,y.be⟩ y.lgn),.slice none 0 0]]) (by simp[results,Tryz.results111,go_sem,z0,z1,z2,t0,t1,t2,t3]) rfl ⟨⟨some ⟨o,0,none⟩,d,_,rfl,b5⟩,a9⟩
def zme (w:World)(base:Nat)(b a:ql)(d:Option Addr)(c:Nat)(la:Option Addr)(e:Nat):Prop :=
 (Value.slice la a.lgn e=.slice d b.lgn c/\a.lgn=b.lgn/\a.lg=b.lg)∨w.ownsRow base 3 1 (.slice la a.lgn e) a.lgn (zS a.lg a.lgn)
theorem zmf (b:ql)(c:Option Addr)(a:Nat)(f:Int)(y:OpD)(g:Option Addr)(i:Nat)(d:ql)(j:d=qx b f y)(w:World)(hk:4<=y.kind/\y.kind<=8)(l:y.kind=5->Zq w/\Zu w/\QU ⟨y.pe,y.len,y.hei,y.cl,y.all,y.be⟩ y.lgn/\zT w g y.lgn y.lg) :
  Calls Tryz.prog 205 #[.agg #[int i64 b.name,int i64 b.who,.string b.own,.slice c b.lgn a,int i64 b.pe,int i64 b.len,int i64 b.hei,int i64 b.cl,.bool b.all,int i64 b.be,int i64 b.state,int i64 b.unt,int i64 b.price],int i64 f,.agg #[int i64 y.kind,.string y.own,int i64 y.name,.slice g y.lgn i,int i64 y.pe,int i64 y.len,int i64 y.hei,int i64 y.cl,.bool y.all,int i64 y.be,int i64 y.unt,int i64 y.now]] w fun e w'=>(∃ la lc,e=.returned (.agg #[int i64 d.name,int i64 d.who,.string d.own,.slice la d.lgn lc,int i64 d.pe,int i64 d.len,int i64 d.hei,int i64 d.cl,.bool d.all,int i64 d.be,int i64 d.state,int i64 d.unt,int i64 d.price])/\zme w' w.heap.size b d c a la lc)/\Below w.heap.size w w':=by
 by_cases k4:y.kind=4
 ·obtain rfl:d={ b with state:=2,unt:=0 }:=by rw[j];unfold qx;rw[if_pos k4]
  exact(changed_4 b c a f y g i w k4).mono fun _ _ ⟨e,h⟩=>⟨⟨c,a,e,.inl ⟨rfl,rfl,rfl⟩⟩,h⟩
 by_cases k5:y.kind=5
 ·obtain⟨h1,h2,h3,k⟩:=l k5
  obtain rfl:d={ b with who:=f,lgn:=y.lgn,lg:=y.lg,pe:=y.pe,len:=y.len,hei:=y.hei,cl:=y.cl,all:=y.all,be:=y.be,price:=zE ⟨y.pe,y.len,y.hei,y.cl,y.all,y.be⟩ y.lgn }:=by rw[j];unfold qx;rw[if_neg k4,if_pos k5]
  exact(changed_5 b c a f y g i w k5 h1 h2 h3 k).mono fun _ _ ⟨⟨la,lc,e,ho⟩,h⟩=>⟨⟨la,lc,e,.inr ho⟩,h⟩
 by_cases k6:y.kind=6
 ·obtain rfl:d={ b with state:=3,unt:=0 }:=by rw[j];unfold qx;rw[if_neg k4,if_neg k5,if_pos k6]
  exact(changed_6 b c a f y g i w k6).mono fun _ _ ⟨e,h⟩=>⟨⟨c,a,e,.inl ⟨rfl,rfl,rfl⟩⟩,h⟩
 by_cases k7:y.kind=7
 ·obtain rfl:d={ b with own:=y.own }:=by rw[j];unfold qx;rw[if_neg k4,if_neg k5,if_neg k6,if_pos k7]
  exact(changed_7 b c a f y g i w k7).mono fun _ _ ⟨e,h⟩=>⟨⟨c,a,e,.inl ⟨rfl,rfl,rfl⟩⟩,h⟩
 ·obtain rfl:d={ b with state:=4 }:=by rw[j];unfold qx;rw[if_neg k4,if_neg k5,if_neg k6,if_neg k7]
  exact(changed_8 b c a f y g i w (by omega)).mono fun _ _ ⟨e,h⟩=>⟨⟨c,a,e,.inl ⟨rfl,rfl,rfl⟩⟩,h⟩
theorem znN {d k:World}{base v gb c1 c2 c3 m f j:Nat}{p g la:Option Addr}{x:Off}{a:ql}{L C A B D E:Nat->Value}(z:Below d.heap.size d k)(n:zF d base (.slice (some ⟨v,0,none⟩) x.san c1) (.slice p x.ldn c2) (.slice (some ⟨gb,0,none⟩) x.bkn c3) x.san x.ldn x.bkn x L C A B D E)(o:base<=d.heap.size)(u:m<x.bkn)(q:E m=.slice g (x.bk m).lgn f)(r:zme k d.heap.size (x.bk m) a g f la j) :
  zF (ziz k gb m (int i64 a.name) (int i64 a.who) (.string a.own) (.slice la a.lgn j) (int i64 a.pe) (int i64 a.len) (int i64 a.hei) (int i64 a.cl) (.bool a.all) (int i64 a.be) (int i64 a.state) (int i64 a.unt) (int i64 a.price)) base (.slice (some ⟨v,0,none⟩) x.san c1) (.slice p x.ldn c2) (.slice (some ⟨gb,0,none⟩) x.bkn c3) x.san x.ldn x.bkn { x with bk:=zah x.bk m a } L C A B D (atV E m (.slice la a.lgn j)):=by
 have c:=n.below z;refine c.putBk (zfb k gb m (int i64 a.name) (int i64 a.who) (.string a.own) (.slice la a.lgn j) (int i64 a.pe) (int i64 a.len) (int i64 a.hei) (int i64 a.cl) (.bool a.all) (int i64 a.be) (int i64 a.state) (int i64 a.unt) (int i64 a.price)) (zbs (zjV (t:=m) (int i64 a.name) (int i64 a.who) (.string a.own) (.slice la a.lgn j) (int i64 a.pe) (int i64 a.len) (int i64 a.hei) (int i64 a.cl) (.bool a.all) (int i64 a.be) (int i64 a.state) (int i64 a.unt) (int i64 a.price) c.bk.row rfl) (by decide) (fun i s=>?_)) ?_ ?_
 ·by_cases e:i=m
  ·subst e;rw[if_pos rfl];unfold bkC;rw[ZL,qu]
  ·rw[if_neg e];unfold bkC;rw[zaf _ _ _ e,qf _ _ _ _ e]
 ·rcases r with⟨l,w,y⟩|h
  ·rw[l,w,y,← q];exact c.bk.legs m u
  ·exact zu h o
 ·rcases r with⟨l,_⟩|h
  ·rw[l,← q];exact n.bk.far_same u
  ·intro i s F b h1 h2
   have q1:=((n.bk.legs i s).lt b h1).2;have q2:=(h.lt b h2).1
   omega
theorem zkR (x:Off)(O:Option Addr)(H gb c1 c2 c3 base m k0:Nat)(L C A B D E:Nat->Value)(X:Int)(y:OpD)(I:Option Addr)(J:Nat)(w:World)(hk:4<=y.kind/\y.kind<=8)(e2:y.name=(m:Int)+1)(Q:m<x.bkn)(h6:x.bkn<=30)(g6:x.san<=1048576)(b0:0<(x.bk m).lgn)(d8:zW x.sa ((x.bk m).lg 0) x.san=k0)(h7:k0<x.san)
  (a8:In (x.sa k0).dep 0 1000000/\(y.kind=6->In y.now 0 1000000)) (hT:∀ V,Below base w V->Zq V/\Zu V) (h5:y.kind=5->QU ⟨y.pe,y.len,y.hei,y.cl,y.all,y.be⟩ y.lgn/\zT w I y.lgn y.lg) (a6:base<=w.heap.size) (G:zF w base (.slice (some ⟨H,0,none⟩) x.san c1) (.slice O x.ldn c2) (.slice (some ⟨gb,0,none⟩) x.bkn c3) x.san x.ldn x.bkn x L C A B D E) :
  Calls Tryz.prog 111 #[.agg #[.slice (some ⟨H,0,none⟩) x.san c1,.slice O x.ldn c2,.slice (some ⟨gb,0,none⟩) x.bkn c3],int i64 X,.agg #[int i64 y.kind,.string y.own,int i64 y.name,.slice I y.lgn J,int i64 y.pe,int i64 y.len,int i64 y.hei,int i64 y.cl,.bool y.all,int i64 y.be,int i64 y.unt,int i64 y.now]] w fun e w'=>(∃ E2,e=.returned (.tuple #[.agg #[.slice (some ⟨H,0,none⟩) x.san c1,.slice O x.ldn c2,.slice (some ⟨gb,0,none⟩) x.bkn c3],.agg #[int i64 0,int i64 ((m:Int)+1),int i64 (zne (x.bk m) (x.sa k0).dep y),.slice none 0 0]])/\zF w' base (.slice (some ⟨H,0,none⟩) x.san c1) (.slice O x.ldn c2) (.slice (some ⟨gb,0,none⟩) x.bkn c3) x.san x.ldn x.bkn { x with bk:=zah x.bk m (qx (x.bk m) X y) } L C A B D E2)/\zx w w' (fun b=>b=gb):=by
 obtain⟨h4,F,eE,_,_,_⟩:=zp (G.bk.legs m Q);obtain⟨W,g2,_,e1⟩:=qh (by have h:=G.bk.legs m Q;rw[eE] at h;exact h) b0
 subst g2;have d7:base<=gb:=(G.bk.row.lt gb rfl).1;have h0:gb<w.heap.size:=(G.bk.row.lt gb rfl).2;have a1:Hid (∀ V d,d=qx (x.bk m) X y->Below w.heap.size w V->Calls Tryz.prog 205 #[.agg #[int i64 (x.bk m).name,int i64 (x.bk m).who,.string (x.bk m).own,.slice (some ⟨W,0,none⟩) (x.bk m).lgn F,int i64 (x.bk m).pe,int i64 (x.bk m).len,int i64 (x.bk m).hei,int i64 (x.bk m).cl,.bool (x.bk m).all,int i64 (x.bk m).be,int i64 (x.bk m).state,int i64 (x.bk m).unt,int i64 (x.bk m).price],int i64 X,.agg #[int i64 y.kind,.string y.own,int i64 y.name,.slice I y.lgn J,int i64 y.pe,int i64 y.len,int i64 y.hei,int i64 y.cl,.bool y.all,int i64 y.be,int i64 y.unt,int i64 y.now]] V fun e w'=>(∃ la lc,e=.returned (.agg #[int i64 d.name,int i64 d.who,.string d.own,.slice la d.lgn lc,int i64 d.pe,int i64 d.len,int i64 d.hei,int i64 d.cl,.bool d.all,int i64 d.be,int i64 d.state,int i64 d.unt,int i64 d.price])/\zme w' V.heap.size (x.bk m) d (some ⟨W,0,none⟩) F la lc)/\Below V.heap.size V w'):=fun V d he hb=>zmf (x.bk m) _ F X y I J d he V hk (fun h=>⟨(hT V (hb.mono a6)).1,(hT V (hb.mono a6)).2,(h5 h).1,(h5 h).2.below hb⟩)
 have a5:Hid (∀ V,Below base w V->Calls Tryz.prog 206 #[.agg #[int i64 (x.bk m).name,int i64 (x.bk m).who,.string (x.bk m).own,.slice (some ⟨W,0,none⟩) (x.bk m).lgn F,int i64 (x.bk m).pe,int i64 (x.bk m).len,int i64 (x.bk m).hei,int i64 (x.bk m).cl,.bool (x.bk m).all,int i64 (x.bk m).be,int i64 (x.bk m).state,int i64 (x.bk m).unt,int i64 (x.bk m).price],int i64 (x.sa k0).dep,.agg #[int i64 y.kind,.string y.own,int i64 y.name,.slice I y.lgn J,int i64 y.pe,int i64 y.len,int i64 y.hei,int i64 y.cl,.bool y.all,int i64 y.be,int i64 y.unt,int i64 y.now]] V fun e w'=>e=.returned (int i64 (zne (x.bk m) (x.sa k0).dep y))/\Below V.heap.size V w'):=fun V hb=>told_any (x.bk m) _ F (x.sa k0).dep y I J V (hT V hb).1 (hT V hb).2 (fun h=>(h5 h).1) a8
 have a4:=hI G;have e7:Hid (∀ z:World,Below w.heap.size w z->qB z (some ⟨H,0,none⟩) x.san x.sa):=fun z hz=>(G.sa.below hz).at
 have b5:=hI d8;obtain⟨td,b2⟩:∃ q,q=(zne (x.bk m) (x.sa k0).dep y):=⟨_,rfl⟩;have e8:=hI b2;rw[← b2] at a5;obtain⟨d,d6⟩:∃ q,q=qx (x.bk m) X y:=⟨_,rfl⟩;have b4:=hI d6;obtain⟨b,Z⟩:∃ b,b=x.bk m:=⟨_,rfl⟩;have b3:=hI Z;rw[← Z] at a1 a5 b5 b0;have d0:w.cell? ⟨W,0,none⟩=some (int i64 (b.lg 0)):=by
  have h:=G.bk.legs m Q;rw[eE] at h;have:=zbo h 0 (by rw[← Z];exact b0)
  obtain⟨q1,q2,q3,q4⟩:=this
  cases q3
  rw[Z]
  simpa using q4
 have b6:Hid (∀ z:World,Below w.heap.size w z->z.cell? ⟨W,0,none⟩=some (int i64 (b.lg 0))):=fun z hz=>(hz.cell (p:=⟨W,0,none⟩) e1).trans d0
 have d4:bkC x.bk E m=[int i64 b.name,int i64 b.who,.string b.own,.slice (some ⟨W,0,none⟩) b.lgn F,int i64 b.pe,int i64 b.len,int i64 b.hei,int i64 b.cl,.bool b.all,int i64 b.be,int i64 b.state,int i64 b.unt,int i64 b.price]:=by unfold bkC;rw[eE,← Z]
 have e3:=hI d4;have e6:=hI eE;rw[e2] at a1 a5 ⊢;have d1:(y.kind == 1)=false:=by simpa using(show y.kind≠1 by omega)
 have d2:(y.kind == 2)=false:=by simpa using(show y.kind≠2 by omega)
 have d3:(y.kind == 3)=false:=by simpa using(show y.kind≠3 by omega)
 have d9:(y.kind == 9)=false:=by simpa using(show y.kind≠9 by omega)
 have i4:IntKind.i64.wrap ((m:Int)+1 - 1)=(m:Int):=by rw[IntKind.wrap_i64];omega
 have i3:IntKind.i64.wrap (m:Int)=(m:Int):=by rw[IntKind.wrap_i64];omega
 have i0:(0:Int)<=(m:Int):=by omega
 have i1:(m:Int)<(x.bkn:Int):=by omega
 have i2:(0:Int)<(b.lgn:Int):=by omega
 have f:Hid _:=zfS.start w (.slice (some ⟨H,0,none⟩) x.san c1) (.slice O x.ldn c2) (.slice (some ⟨gb,0,none⟩) x.bkn c3) #[int i64 y.kind,.string y.own,int i64 ((m:Int)+1),.slice I y.lgn J,int i64 y.pe,int i64 y.len,int i64 y.hei,int i64 y.cl,.bool y.all,int i64 y.be,int i64 y.unt,int i64 y.now];have i:Below w.heap.size w ((((w.alloc (.cells #[.slice (some ⟨H,0,none⟩) x.san c1,.slice O x.ldn c2,.slice (some ⟨gb,0,none⟩) x.bkn c3] 38)).alloc (.cells #[int i64 y.kind,.string y.own,int i64 ((m:Int)+1),.slice I y.lgn J,int i64 y.pe,int i64 y.len,int i64 y.hei,int i64 y.cl,.bool y.all,int i64 y.be,int i64 y.unt,int i64 y.now] 47)).alloc (.cells #[.slice none 0 0,.slice none 0 0,.slice none 0 0] 38)).alloc (.cells #[int i64 0,int i64 0,int i64 0,.slice none 0 0] 41)):=zk (zk (zk (zk bZ _) _) _) _;clear hk e2 d8 a8 hT h5 G eE Z b2 d6 d0 d4;go_enter Tryz.func111,Tryz.ntmps111;go_upto_region 1 with fail;generalize (((w.alloc (.cells #[.slice (some ⟨H,0,none⟩) x.san c1,.slice O x.ldn c2,.slice (some ⟨gb,0,none⟩) x.bkn c3] 38)).alloc (.cells #[int i64 y.kind,.string y.own,int i64 ((m:Int)+1),.slice I y.lgn J,int i64 y.pe,int i64 y.len,int i64 y.hei,int i64 y.cl,.bool y.all,int i64 y.be,int i64 y.unt,int i64 y.now] 47)).alloc (.cells #[.slice none 0 0,.slice none 0 0,.slice none 0 0] 38)).alloc (.cells #[int i64 0,int i64 0,int i64 0,.slice none 0 0] 41)=U at f i ⊢;have hr:∀ r,r<13->U.cell? ⟨gb,m*13+r,none⟩=some ((bkC x.bk E m).getD r (.bool false)):=fun r hr=>by rw[zs (a4.out.below i).bk.row (m*13+r) (by omega) rfl,zC 13 _ m r hr]
 rw[e3.out] at hr;have c0:U.cell? ⟨gb,m*13,none⟩=some (int i64 b.name):=hr 0 (by decide)
 have c1:U.cell? ⟨gb,m*13+1,none⟩=some (int i64 b.who):=hr 1 (by decide)
 have c2:U.cell? ⟨gb,m*13+2,none⟩=some (.string b.own):=hr 2 (by decide)
 have c3:U.cell? ⟨gb,m*13+3,none⟩=some (.slice (some ⟨W,0,none⟩) b.lgn F):=hr 3 (by decide)
 have c4:U.cell? ⟨gb,m*13+4,none⟩=some (int i64 b.pe):=hr 4 (by decide)
 have c5:U.cell? ⟨gb,m*13+5,none⟩=some (int i64 b.len):=hr 5 (by decide)
 have c6:U.cell? ⟨gb,m*13+6,none⟩=some (int i64 b.hei):=hr 6 (by decide)
 have c7:U.cell? ⟨gb,m*13+7,none⟩=some (int i64 b.cl):=hr 7 (by decide)
 have c8:U.cell? ⟨gb,m*13+8,none⟩=some (.bool b.all):=hr 8 (by decide)
 have c9:U.cell? ⟨gb,m*13+9,none⟩=some (int i64 b.be):=hr 9 (by decide)
 have e9:U.cell? ⟨gb,m*13+10,none⟩=some (int i64 b.state):=hr 10 (by decide)
 have g0:U.cell? ⟨gb,m*13+11,none⟩=some (int i64 b.unt):=hr 11 (by decide)
 have g1:U.cell? ⟨gb,m*13+12,none⟩=some (int i64 b.price):=hr 12 (by decide)
 have o0:=za f.out.bp 0 _ rfl;have o2:=za f.out.bp 2 _ rfl;have q2:=za f.out.bo 2 _ rfl;have bX:=heap_alloc_new U (.cells #[int i64 b.name,int i64 b.who,.string b.own,.slice (some ⟨W,0,none⟩) b.lgn F,int i64 b.pe,int i64 b.len,int i64 b.hei,int i64 b.cl,.bool b.all,int i64 b.be,int i64 b.state,int i64 b.unt,int i64 b.price] 150);have b1:Below U.heap.size U (U.alloc (.cells #[int i64 b.name,int i64 b.who,.string b.own,.slice (some ⟨W,0,none⟩) b.lgn F,int i64 b.pe,int i64 b.len,int i64 b.hei,int i64 b.cl,.bool b.all,int i64 b.be,int i64 b.state,int i64 b.unt,int i64 b.price] 150)):=zk bZ _;have d5:w.heap.size+1+1+1<U.heap.size:=zM f.out.ba;replace f:Hid _:=f.out.below b1;replace i:=ze i b1;go_upto_region 13 with fail;generalize U.alloc (.cells #[int i64 b.name,int i64 b.who,.string b.own,.slice (some ⟨W,0,none⟩) b.lgn F,int i64 b.pe,int i64 b.len,int i64 b.hei,int i64 b.cl,.bool b.all,int i64 b.be,int i64 b.state,int i64 b.unt,int i64 b.price] 150)=Y at bX f i ⊢;generalize U.heap.size=o at bX d5 ⊢;clear hr b1 o0 o2 q2 c0 c1 c2 c3 c4 c5 c6 c7 c8 c9 e9 g0 g1;replace f:Hid _:=f.out.below (Below.refl _ Y).drew;have k:Hid _:=zK bX;replace i:=i.drew;clear bX;refine qg 12 12 (fun u=>u.cell? ⟨w.heap.size,0,none⟩=some (.slice (some ⟨H,0,none⟩) x.san c1)/\u.cell? ⟨o,3,none⟩=some (.slice (some ⟨W,0,none⟩) b.lgn F)/\u.cell? ⟨W,0,none⟩=some (int i64 (b.lg 0))) rfl (by kernel_rfl) ⟨za f.out.bo 0 _ rfl,za k.out 3 _ rfl,b6.out _ i⟩ (fun hS=>?_)
 simp only[List.replicate_succ,List.replicate_zero];generalize Y.drew=u0 at f k i hS ⊢
 (refine tkN 0 (v:=?_) rfl (by kernel_rfl) (fun _ _ _ h=>h) rfl (by assumption) ?_ ?_;rotate_left;(focus(intro w' h;(try dsimp only at h);go_simp;try with_reducible rfl));simp only[Act.put,sB,sZ,sS])
 (refine tkN 1 (v:=?_) rfl (by kernel_rfl) (fun _ _ _ h=>h) rfl (by assumption) ?_ ?_;rotate_left;(focus(intro w' h;(try dsimp only at h);go_simp;try with_reducible rfl));simp only[Act.put,sB,sZ,sS])
 (refine tkN 2 (v:=?_) rfl (by kernel_rfl) (fun _ _ _ h=>h) rfl (by assumption) ?_ ?_;rotate_left;(focus(intro w' h;(try dsimp only at h);go_simp;try with_reducible rfl));simp only[Act.put,sB,sZ,sS])
 (refine tkN 3 (v:=?_) rfl (by kernel_rfl) (fun _ _ _ h=>h) rfl (by assumption) ?_ ?_;rotate_left;(focus(intro w' h;(try dsimp only at h);go_simp;try with_reducible rfl));simp only[Act.put,sB,sZ,sS])
 (refine tkN 4 (v:=?_) rfl (by kernel_rfl) (fun _ _ _ h=>h) rfl (by assumption) ?_ ?_;rotate_left;(focus(intro w' h;(try dsimp only at h);go_simp;try with_reducible rfl));simp only[Act.put,sB,sZ,sS])
 (refine tkN 5 (v:=?_) rfl (by kernel_rfl) (fun _ _ _ h=>h) rfl (by assumption) ?_ ?_;rotate_left;(focus(intro w' h;(try dsimp only at h);go_simp;try with_reducible rfl));simp only[Act.put,sB,sZ,sS])
 refine zj (rs:=[6]) (by kernel_rfl) (by simp) ?_
 refine zc.consL rfl (fun K P=>?_) zc.nil
 go_simp;go_at_call 198;refine Calls.mono (zaF (some ⟨H,0,none⟩) x.san c1 x.sa (b.lg 0) u0 g6 (e7.out _ i)) ?_;rintro e u1 ⟨a7,l⟩;replace a7:e=.returned (.tuple #[int i64 (k0:Int),.bool true]):=by
  rw[b5.out] at a7
  rcases a7 with⟨_,q⟩|⟨q,_⟩
  ·exact q
  ·omega
 subst a7;dsimp only;replace f:Hid _:=f.out.below l;replace k:Hid _:=zb k.out l;replace i:=ze i l;refine P.out _ _ ⟨za f.out.bo 0 _ rfl,za k.out 3 _ rfl,b6.out _ i⟩ (fun hS=>?_)
 clear P K l;simp only[sZ,sS]
 (refine tkN 7 (v:=?_) rfl (by kernel_rfl) (fun _ _ _ h=>h) rfl (by assumption) ?_ ?_;rotate_left;(focus(intro w' h;(try dsimp only at h);go_simp;try with_reducible rfl));simp only[Act.put,sB,sZ,sS])
 (refine tkN 8 (v:=?_) rfl (by kernel_rfl) (fun _ _ _ h=>h) rfl (by assumption) ?_ ?_;rotate_left;(focus(intro w' h;(try dsimp only at h);go_simp;try with_reducible rfl));simp only[Act.put,sB,sZ,sS])
 (refine tkN 9 (v:=?_) rfl (by kernel_rfl) (fun _ _ _ h=>h) rfl (by assumption) ?_ ?_;rotate_left;(focus(intro w' h;(try dsimp only at h);go_simp;try with_reducible rfl));simp only[Act.put,sB,sZ,sS])
 (refine tkN 10 (v:=?_) rfl (by kernel_rfl) (fun _ _ _ h=>h) rfl (by assumption) ?_ ?_;rotate_left;(focus(intro w' h;(try dsimp only at h);go_simp;try with_reducible rfl));simp only[Act.put,sB,sZ,sS])
 (refine tkN 11 (v:=?_) rfl (by kernel_rfl) (fun _ _ _ h=>h) rfl (by assumption) ?_ ?_;rotate_left;(focus(intro w' h;(try dsimp only at h);go_simp;try with_reducible rfl));simp only[Act.put,sB,sZ,sS])
 refine zX (by kernel_rfl) ?_ _
 go_upto_region 14 with fail;replace f:Hid _:=f.out.below (Below.refl _ u1).drew;replace k:Hid _:=zK k.out;replace i:=i.drew;refine qg 11 11 (fun u=>u.cell? ⟨w.heap.size,2,none⟩=some (.slice (some ⟨gb,0,none⟩) x.bkn c3)/\u.cell? ⟨w.heap.size+1,0,none⟩=some (int i64 y.kind)/\u.cell? ⟨w.heap.size+1,1,none⟩=some (.string y.own)/\u.cell? ⟨w.heap.size+1,2,none⟩=some (int i64 ((m:Int)+1))/\u.cell? ⟨w.heap.size+1,3,none⟩=some (.slice I y.lgn J)/\u.cell? ⟨w.heap.size+1,4,none⟩=some (int i64 y.pe)/\u.cell? ⟨w.heap.size+1,5,none⟩=some (int i64 y.len)/\u.cell? ⟨w.heap.size+1,6,none⟩=some (int i64 y.hei)/\u.cell? ⟨w.heap.size+1,7,none⟩=some (int i64 y.cl)/\u.cell? ⟨w.heap.size+1,8,none⟩=some (.bool y.all)/\u.cell? ⟨w.heap.size+1,9,none⟩=some (int i64 y.be)/\u.cell? ⟨w.heap.size+1,10,none⟩=some (int i64 y.unt)/\u.cell? ⟨w.heap.size+1,11,none⟩=some (int i64 y.now)/\u.cell? ⟨o,0,none⟩=some (int i64 b.name)/\u.cell? ⟨o,1,none⟩=some (int i64 b.who)/\u.cell? ⟨o,2,none⟩=some (.string b.own)/\u.cell? ⟨o,3,none⟩=some (.slice (some ⟨W,0,none⟩) b.lgn F)/\u.cell? ⟨o,4,none⟩=some (int i64 b.pe)/\u.cell? ⟨o,5,none⟩=some (int i64 b.len)/\u.cell? ⟨o,6,none⟩=some (int i64 b.hei)/\u.cell? ⟨o,7,none⟩=some (int i64 b.cl)/\u.cell? ⟨o,8,none⟩=some (.bool b.all)/\u.cell? ⟨o,9,none⟩=some (int i64 b.be)/\u.cell? ⟨o,10,none⟩=some (int i64 b.state)/\u.cell? ⟨o,11,none⟩=some (int i64 b.unt)/\u.cell? ⟨o,12,none⟩=some (int i64 b.price)) rfl (by kernel_rfl) (⟨za f.out.bo 2 _ rfl,za f.out.bp 0 _ rfl,za f.out.bp 1 _ rfl,za f.out.bp 2 _ rfl,za f.out.bp 3 _ rfl,za f.out.bp 4 _ rfl,za f.out.bp 5 _ rfl,za f.out.bp 6 _ rfl,za f.out.bp 7 _ rfl,za f.out.bp 8 _ rfl,za f.out.bp 9 _ rfl,za f.out.bp 10 _ rfl,za f.out.bp 11 _ rfl,za k.out 0 _ rfl,za k.out 1 _ rfl,za k.out 2 _ rfl,za k.out 3 _ rfl,za k.out 4 _ rfl,za k.out 5 _ rfl,za k.out 6 _ rfl,za k.out 7 _ rfl,za k.out 8 _ rfl,za k.out 9 _ rfl,za k.out 10 _ rfl,za k.out 11 _ rfl,za k.out 12 _ rfl⟩) (fun hS=>?_)
 simp only[List.replicate_succ,List.replicate_zero];generalize u1.drew=u2 at f k i hS ⊢
 (refine tkN 0 (v:=?_) rfl (by kernel_rfl) (fun _ _ _ h=>h) rfl (by assumption) ?_ ?_;rotate_left;(focus(intro w' h;(try dsimp only at h);go_simp;try with_reducible rfl));simp only[Act.put,sB,sZ,sS])
 (refine tkN 1 (v:=?_) rfl (by kernel_rfl) (fun _ _ _ h=>h) rfl (by assumption) ?_ ?_;rotate_left;(focus(intro w' h;(try dsimp only at h);go_simp;try with_reducible rfl));simp only[Act.put,sB,sZ,sS])
 (refine tkN 2 (v:=?_) rfl (by kernel_rfl) (fun _ _ _ h=>h) rfl (by assumption) ?_ ?_;rotate_left;(focus(intro w' h;(try dsimp only at h);go_simp;try with_reducible rfl));simp only[Act.put,sB,sZ,sS])
 (refine tkN 3 (v:=?_) rfl (by kernel_rfl) (fun _ _ _ h=>h) rfl (by assumption) ?_ ?_;rotate_left;(focus(intro w' h;(try dsimp only at h);go_simp;try with_reducible rfl));simp only[Act.put,sB,sZ,sS])
 (refine tkN 4 (v:=?_) rfl (by kernel_rfl) (fun _ _ _ h=>h) rfl (by assumption) ?_ ?_;rotate_left;(focus(intro w' h;(try dsimp only at h);go_simp;try with_reducible rfl));simp only[Act.put,sB,sZ,sS])
 (refine tkN 5 (v:=?_) rfl (by kernel_rfl) (fun _ _ _ h=>h) rfl (by assumption) ?_ ?_;rotate_left;(focus(intro w' h;(try dsimp only at h);go_simp;try with_reducible rfl));simp only[Act.put,sB,sZ,sS])
 (refine tkN 6 (v:=?_) rfl (by kernel_rfl) (fun _ _ _ h=>h) rfl (by assumption) ?_ ?_;rotate_left;(focus(intro w' h;(try dsimp only at h);go_simp;try with_reducible rfl));simp only[Act.put,sB,sZ,sS])
 (refine tkN 7 (v:=?_) rfl (by kernel_rfl) (fun _ _ _ h=>h) rfl (by assumption) ?_ ?_;rotate_left;(focus(intro w' h;(try dsimp only at h);go_simp;try with_reducible rfl));simp only[Act.put,sB,sZ,sS])
 refine zj (rs:=[8]) (by kernel_rfl) (by simp) ?_
 refine zc.consL rfl (fun K P=>?_) zc.nil
 go_simp;go_at_call 205;refine Calls.mono (a1.out u2 d (by rw[b3.out];exact b4.out) i) ?_
 rintro e u3 ⟨⟨la,lc,rfl,e0⟩,l⟩;dsimp only;have N:Hid _:=znN l (a4.out.below i) (Nat.le_trans a6 i.size) Q e6.out (by rw[← b3.out];exact e0)
 have g:Hid _:=((a4.out.below i).below l).bk.row;replace f:Hid _:=f.out.below l;replace k:Hid _:=zb k.out l;replace i:=ze i l;refine P.out _ _ (⟨za f.out.bo 2 _ rfl,za f.out.bp 0 _ rfl,za f.out.bp 1 _ rfl,za f.out.bp 2 _ rfl,za f.out.bp 3 _ rfl,za f.out.bp 4 _ rfl,za f.out.bp 5 _ rfl,za f.out.bp 6 _ rfl,za f.out.bp 7 _ rfl,za f.out.bp 8 _ rfl,za f.out.bp 9 _ rfl,za f.out.bp 10 _ rfl,za f.out.bp 11 _ rfl,za k.out 0 _ rfl,za k.out 1 _ rfl,za k.out 2 _ rfl,za k.out 3 _ rfl,za k.out 4 _ rfl,za k.out 5 _ rfl,za k.out 6 _ rfl,za k.out 7 _ rfl,za k.out 8 _ rfl,za k.out 9 _ rfl,za k.out 10 _ rfl,za k.out 11 _ rfl,za k.out 12 _ rfl⟩) (fun hS=>?_)
 clear P K l e0;simp only[sZ,sS]
 (refine tkN 9 (v:=?_) rfl (by kernel_rfl) (fun _ _ _ h=>h) rfl (by assumption) ?_ ?_;rotate_left;(focus(intro w' h;(try dsimp only at h);go_simp;try with_reducible rfl));simp only[Act.put,sB,sZ,sS])
 have R:Hid _:=zfb u3 gb m (int i64 d.name) (int i64 d.who) (.string d.own) (.slice la d.lgn lc) (int i64 d.pe) (int i64 d.len) (int i64 d.hei) (int i64 d.cl) (.bool d.all) (int i64 d.be) (int i64 d.state) (int i64 d.unt) (int i64 d.price);have a:Hid (zfS w (ziz u3 gb m (int i64 d.name) (int i64 d.who) (.string d.own) (.slice la d.lgn lc) (int i64 d.pe) (int i64 d.len) (int i64 d.hei) (int i64 d.cl) (.bool d.all) (int i64 d.be) (int i64 d.state) (int i64 d.unt) (int i64 d.price)) (.slice (some ⟨H,0,none⟩) x.san c1) (.slice O x.ldn c2) (.slice (some ⟨gb,0,none⟩) x.bkn c3) #[int i64 y.kind,.string y.own,int i64 ((m:Int)+1),.slice I y.lgn J,int i64 y.pe,int i64 y.len,int i64 y.hei,int i64 y.cl,.bool y.all,int i64 y.be,int i64 y.unt,int i64 y.now]):=⟨R.out.blk f.out.bo (by show ¬ _=_;omega),R.out.blk f.out.bp (by show ¬ _=_;omega),R.out.blk f.out.br (by show ¬ _=_;omega),R.out.blk f.out.ba (by show ¬ _=_;omega)⟩
 have c:Hid _:=R.out.blk k.out (show ¬ o=gb by omega)
 have M:=hI ((zx.of_below i).trans R.out);obtain⟨v0,o0⟩:∃ v,u3.cell? ⟨gb,m*13+0,none⟩=some v:=⟨_,zU g.out Q (by decide)⟩
 have f0:=World.ownsRow.frozenAt g.out (m*13);obtain⟨v1,o1⟩:∃ v,u3.cell? ⟨gb,m*13+1,none⟩=some v:=⟨_,zU g.out Q (by decide)⟩
 have f1:=World.ownsRow.frozenAt g.out (m*13+1);obtain⟨v2,o2⟩:∃ v,u3.cell? ⟨gb,m*13+2,none⟩=some v:=⟨_,zU g.out Q (by decide)⟩
 have f2:=World.ownsRow.frozenAt g.out (m*13+2);obtain⟨v3,o3⟩:∃ v,u3.cell? ⟨gb,m*13+3,none⟩=some v:=⟨_,zU g.out Q (by decide)⟩
 have f3:=World.ownsRow.frozenAt g.out (m*13+3);obtain⟨v4,o4⟩:∃ v,u3.cell? ⟨gb,m*13+4,none⟩=some v:=⟨_,zU g.out Q (by decide)⟩
 have f4:=World.ownsRow.frozenAt g.out (m*13+4);obtain⟨v5,o5⟩:∃ v,u3.cell? ⟨gb,m*13+5,none⟩=some v:=⟨_,zU g.out Q (by decide)⟩
 have f5:=World.ownsRow.frozenAt g.out (m*13+5);obtain⟨v6,o6⟩:∃ v,u3.cell? ⟨gb,m*13+6,none⟩=some v:=⟨_,zU g.out Q (by decide)⟩
 have f6:=World.ownsRow.frozenAt g.out (m*13+6);obtain⟨v7,o7⟩:∃ v,u3.cell? ⟨gb,m*13+7,none⟩=some v:=⟨_,zU g.out Q (by decide)⟩
 have f7:=World.ownsRow.frozenAt g.out (m*13+7);obtain⟨v8,o8⟩:∃ v,u3.cell? ⟨gb,m*13+8,none⟩=some v:=⟨_,zU g.out Q (by decide)⟩
 have f8:=World.ownsRow.frozenAt g.out (m*13+8);obtain⟨v9,o9⟩:∃ v,u3.cell? ⟨gb,m*13+9,none⟩=some v:=⟨_,zU g.out Q (by decide)⟩
 have f9:=World.ownsRow.frozenAt g.out (m*13+9);obtain⟨i5,g7⟩:∃ v,u3.cell? ⟨gb,m*13+10,none⟩=some v:=⟨_,zU g.out Q (by decide)⟩
 have g3:=World.ownsRow.frozenAt g.out (m*13+10);obtain⟨i6,g8⟩:∃ v,u3.cell? ⟨gb,m*13+11,none⟩=some v:=⟨_,zU g.out Q (by decide)⟩
 have g4:=World.ownsRow.frozenAt g.out (m*13+11);obtain⟨i7,g9⟩:∃ v,u3.cell? ⟨gb,m*13+12,none⟩=some v:=⟨_,zU g.out Q (by decide)⟩
 have g5:=World.ownsRow.frozenAt g.out (m*13+12);rw[Nat.add_zero] at o0;refine zj (rs:=[10]) (by kernel_rfl) (by simp) ?_
 refine zc.consL rfl (fun K P=>?_) zc.nil
 go_simp;have S:=a.out;have T:=c.out;unfold ziz at S T;refine P.out _ _ (⟨za S.bo 2 _ rfl,za S.bp 0 _ rfl,za S.bp 1 _ rfl,za S.bp 2 _ rfl,za S.bp 3 _ rfl,za S.bp 4 _ rfl,za S.bp 5 _ rfl,za S.bp 6 _ rfl,za S.bp 7 _ rfl,za S.bp 8 _ rfl,za S.bp 9 _ rfl,za S.bp 10 _ rfl,za S.bp 11 _ rfl,za T 0 _ rfl,za T 1 _ rfl,za T 2 _ rfl,za T 3 _ rfl,za T 4 _ rfl,za T 5 _ rfl,za T 6 _ rfl,za T 7 _ rfl,za T 8 _ rfl,za T 9 _ rfl,za T 10 _ rfl,za T 11 _ rfl,za T 12 _ rfl⟩) (fun hS=>?_)
 clear P K S T o0 f0 o1 f1 o2 f2 o3 f3 o4 f4 o5 f5 o6 f6 o7 f7 o8 f8 o9 f9 g7 g3 g8 g4 g9 g5;simp only[sZ,sS];refine zX (by kernel_rfl) ?_ _
 unfold ziz at N a c M;generalize ((((((((((((u3.setCell ⟨gb,m*13,none⟩ (int i64 d.name)).setCell ⟨gb,m*13+1,none⟩ (int i64 d.who)).setCell ⟨gb,m*13+2,none⟩ (.string d.own)).setCell ⟨gb,m*13+3,none⟩ (.slice la d.lgn lc)).setCell ⟨gb,m*13+4,none⟩ (int i64 d.pe)).setCell ⟨gb,m*13+5,none⟩ (int i64 d.len)).setCell ⟨gb,m*13+6,none⟩ (int i64 d.hei)).setCell ⟨gb,m*13+7,none⟩ (int i64 d.cl)).setCell ⟨gb,m*13+8,none⟩ (.bool d.all)).setCell ⟨gb,m*13+9,none⟩ (int i64 d.be)).setCell ⟨gb,m*13+10,none⟩ (int i64 d.state)).setCell ⟨gb,m*13+11,none⟩ (int i64 d.unt)).setCell ⟨gb,m*13+12,none⟩ (int i64 d.price)=U4 at N a c M ⊢;clear f k i R g a4 a1;go_upto_region 15 with fail;replace a:Hid _:=a.out.below (Below.refl _ U4).drew;replace N:Hid _:=N.out.below (Below.refl _ U4).drew;replace c:Hid _:=zK c.out;replace M:Hid _:=M.out.trans (zx.of_below (Below.refl _ U4).drew);have a0:Hid (∀ z,Below U4.drew.heap.size U4.drew z->z.cell? ⟨H,k0*8+3,none⟩=some (int i64 (x.sa k0).dep)):=fun z hz=>by
  have h:=zs (N.out.below hz).sa.row (k0*8+3) (by omega) rfl
  rw[h];unfold qz;rw[if_neg (by omega),if_neg (by omega),if_neg (by omega),if_pos (by omega),show(k0*8+3) / 8=k0 by omega]
 refine qg 15 15 (fun u=>u.cell? ⟨w.heap.size,0,none⟩=some (.slice (some ⟨H,0,none⟩) x.san c1)/\u.cell? ⟨w.heap.size,1,none⟩=some (.slice O x.ldn c2)/\u.cell? ⟨w.heap.size,2,none⟩=some (.slice (some ⟨gb,0,none⟩) x.bkn c3)/\u.cell? ⟨w.heap.size+1,0,none⟩=some (int i64 y.kind)/\u.cell? ⟨w.heap.size+1,1,none⟩=some (.string y.own)/\u.cell? ⟨w.heap.size+1,2,none⟩=some (int i64 ((m:Int)+1))/\u.cell? ⟨w.heap.size+1,3,none⟩=some (.slice I y.lgn J)/\u.cell? ⟨w.heap.size+1,4,none⟩=some (int i64 y.pe)/\u.cell? ⟨w.heap.size+1,5,none⟩=some (int i64 y.len)/\u.cell? ⟨w.heap.size+1,6,none⟩=some (int i64 y.hei)/\u.cell? ⟨w.heap.size+1,7,none⟩=some (int i64 y.cl)/\u.cell? ⟨w.heap.size+1,8,none⟩=some (.bool y.all)/\u.cell? ⟨w.heap.size+1,9,none⟩=some (int i64 y.be)/\u.cell? ⟨w.heap.size+1,10,none⟩=some (int i64 y.unt)/\u.cell? ⟨w.heap.size+1,11,none⟩=some (int i64 y.now)/\u.cell? ⟨o,0,none⟩=some (int i64 b.name)/\u.cell? ⟨o,1,none⟩=some (int i64 b.who)/\u.cell? ⟨o,2,none⟩=some (.string b.own)/\u.cell? ⟨o,3,none⟩=some (.slice (some ⟨W,0,none⟩) b.lgn F)/\u.cell? ⟨o,4,none⟩=some (int i64 b.pe)/\u.cell? ⟨o,5,none⟩=some (int i64 b.len)/\u.cell? ⟨o,6,none⟩=some (int i64 b.hei)/\u.cell? ⟨o,7,none⟩=some (int i64 b.cl)/\u.cell? ⟨o,8,none⟩=some (.bool b.all)/\u.cell? ⟨o,9,none⟩=some (int i64 b.be)/\u.cell? ⟨o,10,none⟩=some (int i64 b.state)/\u.cell? ⟨o,11,none⟩=some (int i64 b.unt)/\u.cell? ⟨o,12,none⟩=some (int i64 b.price)/\u.cell? ⟨H,k0*8+3,none⟩=some (int i64 (x.sa k0).dep)) rfl (by kernel_rfl) (⟨za a.out.bo 0 _ rfl,za a.out.bo 1 _ rfl,za a.out.bo 2 _ rfl,za a.out.bp 0 _ rfl,za a.out.bp 1 _ rfl,za a.out.bp 2 _ rfl,za a.out.bp 3 _ rfl,za a.out.bp 4 _ rfl,za a.out.bp 5 _ rfl,za a.out.bp 6 _ rfl,za a.out.bp 7 _ rfl,za a.out.bp 8 _ rfl,za a.out.bp 9 _ rfl,za a.out.bp 10 _ rfl,za a.out.bp 11 _ rfl,za c.out 0 _ rfl,za c.out 1 _ rfl,za c.out 2 _ rfl,za c.out 3 _ rfl,za c.out 4 _ rfl,za c.out 5 _ rfl,za c.out 6 _ rfl,za c.out 7 _ rfl,za c.out 8 _ rfl,za c.out 9 _ rfl,za c.out 10 _ rfl,za c.out 11 _ rfl,za c.out 12 _ rfl,a0.out _ bZ⟩) (fun hS=>?_)
 simp only[List.replicate_succ,List.replicate_zero];generalize U4.drew=u5 at a c N M a0 hS ⊢
 (refine tkN 0 (v:=?_) rfl (by kernel_rfl) (fun _ _ _ h=>h) rfl (by assumption) ?_ ?_;rotate_left;(focus(intro w' h;(try dsimp only at h);go_simp;try with_reducible rfl));simp only[Act.put,sB,sZ,sS])
 (refine tkN 1 (v:=?_) rfl (by kernel_rfl) (fun _ _ _ h=>h) rfl (by assumption) ?_ ?_;rotate_left;(focus(intro w' h;(try dsimp only at h);go_simp;try with_reducible rfl));simp only[Act.put,sB,sZ,sS])
 (refine tkN 2 (v:=?_) rfl (by kernel_rfl) (fun _ _ _ h=>h) rfl (by assumption) ?_ ?_;rotate_left;(focus(intro w' h;(try dsimp only at h);go_simp;try with_reducible rfl));simp only[Act.put,sB,sZ,sS])
 (refine tkN 3 (v:=?_) rfl (by kernel_rfl) (fun _ _ _ h=>h) rfl (by assumption) ?_ ?_;rotate_left;(focus(intro w' h;(try dsimp only at h);go_simp;try with_reducible rfl));simp only[Act.put,sB,sZ,sS])
 (refine tkN 4 (v:=?_) rfl (by kernel_rfl) (fun _ _ _ h=>h) rfl (by assumption) ?_ ?_;rotate_left;(focus(intro w' h;(try dsimp only at h);go_simp;try with_reducible rfl));simp only[Act.put,sB,sZ,sS])
 (refine tkN 5 (v:=?_) rfl (by kernel_rfl) (fun _ _ _ h=>h) rfl (by assumption) ?_ ?_;rotate_left;(focus(intro w' h;(try dsimp only at h);go_simp;try with_reducible rfl));simp only[Act.put,sB,sZ,sS])
 (refine tkN 6 (v:=?_) rfl (by kernel_rfl) (fun _ _ _ h=>h) rfl (by assumption) ?_ ?_;rotate_left;(focus(intro w' h;(try dsimp only at h);go_simp;try with_reducible rfl));simp only[Act.put,sB,sZ,sS])
 (refine tkN 7 (v:=?_) rfl (by kernel_rfl) (fun _ _ _ h=>h) rfl (by assumption) ?_ ?_;rotate_left;(focus(intro w' h;(try dsimp only at h);go_simp;try with_reducible rfl));simp only[Act.put,sB,sZ,sS])
 (refine tkN 8 (v:=?_) rfl (by kernel_rfl) (fun _ _ _ h=>h) rfl (by assumption) ?_ ?_;rotate_left;(focus(intro w' h;(try dsimp only at h);go_simp;try with_reducible rfl));simp only[Act.put,sB,sZ,sS])
 (refine tkN 9 (v:=?_) rfl (by kernel_rfl) (fun _ _ _ h=>h) rfl (by assumption) ?_ ?_;rotate_left;(focus(intro w' h;(try dsimp only at h);go_simp;try with_reducible rfl));simp only[Act.put,sB,sZ,sS])
 (refine tkN 10 (v:=?_) rfl (by kernel_rfl) (fun _ _ _ h=>h) rfl (by assumption) ?_ ?_;rotate_left;(focus(intro w' h;(try dsimp only at h);go_simp;try with_reducible rfl));simp only[Act.put,sB,sZ,sS])
 refine zj (rs:=[11]) (by kernel_rfl) (by simp) ?_
 refine zc.consL rfl (fun K P=>?_) zc.nil
 go_simp;go_at_call 206;refine Calls.mono (a5.out u5 (zx.below bZ a6 M.out (fun b e=>by rw[show b=gb from e];exact d7))) ?_
 rintro e u6 ⟨rfl,l⟩;dsimp only;replace a:Hid _:=a.out.below l;replace N:Hid _:=N.out.below l;replace c:Hid _:=zb c.out l;replace M:Hid _:=M.out.trans (zx.of_below l);replace a0:Hid _:=a0.out u6 l;refine P.out _ _ (⟨za a.out.bo 0 _ rfl,za a.out.bo 1 _ rfl,za a.out.bo 2 _ rfl,za a.out.bp 0 _ rfl,za a.out.bp 1 _ rfl,za a.out.bp 2 _ rfl,za a.out.bp 3 _ rfl,za a.out.bp 4 _ rfl,za a.out.bp 5 _ rfl,za a.out.bp 6 _ rfl,za a.out.bp 7 _ rfl,za a.out.bp 8 _ rfl,za a.out.bp 9 _ rfl,za a.out.bp 10 _ rfl,za a.out.bp 11 _ rfl,za c.out 0 _ rfl,za c.out 1 _ rfl,za c.out 2 _ rfl,za c.out 3 _ rfl,za c.out 4 _ rfl,za c.out 5 _ rfl,za c.out 6 _ rfl,za c.out 7 _ rfl,za c.out 8 _ rfl,za c.out 9 _ rfl,za c.out 10 _ rfl,za c.out 11 _ rfl,za c.out 12 _ rfl,a0.out⟩) (fun hS=>?_)
 clear P K l;simp only[sZ,sS]
 (refine tkN 12 (v:=?_) rfl (by kernel_rfl) (fun _ _ _ h=>h) rfl (by assumption) ?_ ?_;rotate_left;(focus(intro w' h;(try dsimp only at h);go_simp;try with_reducible rfl));simp only[Act.put,sB,sZ,sS])
 have f:=a;have s:Hid _:=(QG u6 (w.heap.size+1+1) (.slice (some ⟨H,0,none⟩) x.san c1) (.slice O x.ldn c2) (.slice (some ⟨gb,0,none⟩) x.bkn c3)).blk c.out (show ¬ o=w.heap.size+1+1 by omega)
 have t:Hid _:=(QH (qt u6 (w.heap.size+1+1) (.slice (some ⟨H,0,none⟩) x.san c1) (.slice O x.ldn c2) (.slice (some ⟨gb,0,none⟩) x.bkn c3)) (w.heap.size+1+1+1) (int i64 0) (int i64 ((m:Int)+1)) (int i64 td) (.slice none 0 0)).blk s.out (show ¬ o=w.heap.size+1+1+1 by omega)
 have b8:Hid _:=N.out.box (QG u6 (w.heap.size+1+1) (.slice (some ⟨H,0,none⟩) x.san c1) (.slice O x.ldn c2) (.slice (some ⟨gb,0,none⟩) x.bkn c3)) f.out.br (by decide)
 have b9:Hid _:=b8.out.box (QH (qt u6 (w.heap.size+1+1) (.slice (some ⟨H,0,none⟩) x.san c1) (.slice O x.ldn c2) (.slice (some ⟨gb,0,none⟩) x.bkn c3)) (w.heap.size+1+1+1) (int i64 0) (int i64 ((m:Int)+1)) (int i64 td) (.slice none 0 0)) (f.out.fin (.slice (some ⟨H,0,none⟩) x.san c1) (.slice O x.ldn c2) (.slice (some ⟨gb,0,none⟩) x.bkn c3) (int i64 0) (int i64 ((m:Int)+1)) (int i64 td) (.slice none 0 0)).2.2.2.2.1 (by decide)
 have e4:Hid ((qt u6 (w.heap.size+1+1) (.slice (some ⟨H,0,none⟩) x.san c1) (.slice O x.ldn c2) (.slice (some ⟨gb,0,none⟩) x.bkn c3)).cell? ⟨H,k0*8+3,none⟩=some (int i64 (x.sa k0).dep)):=by
  have h:=zs b8.out.sa.row (k0*8+3) (by omega) rfl
  refine h.trans ?_;unfold qz;rw[if_neg (by omega),if_neg (by omega),if_neg (by omega),if_pos (by omega),show(k0*8+3) / 8=k0 by omega]
 have e5:Hid ((ZK (qt u6 (w.heap.size+1+1) (.slice (some ⟨H,0,none⟩) x.san c1) (.slice O x.ldn c2) (.slice (some ⟨gb,0,none⟩) x.bkn c3)) (w.heap.size+1+1+1) (int i64 0) (int i64 ((m:Int)+1)) (int i64 td) (.slice none 0 0)).cell? ⟨H,k0*8+3,none⟩=some (int i64 (x.sa k0).dep)):=by
  have h:=zs b9.out.sa.row (k0*8+3) (by omega) rfl
  refine h.trans ?_;unfold qz;rw[if_neg (by omega),if_neg (by omega),if_neg (by omega),if_pos (by omega),show(k0*8+3) / 8=k0 by omega]
 have a3:Hid _:=f.out.fin (.slice (some ⟨H,0,none⟩) x.san c1) (.slice O x.ldn c2) (.slice (some ⟨gb,0,none⟩) x.bkn c3) (int i64 0) (int i64 ((m:Int)+1)) (int i64 td) (.slice none 0 0);obtain⟨r0,r1,r2⟩:=ce3 f.out.br;obtain⟨f0,f1,f2⟩:=fe3 f.out.br;refine zj (rs:=[13]) (by kernel_rfl) (by simp) ?_
 refine zc.consL rfl (fun K P=>?_) zc.nil
 go_simp;have j:=a3.out.2.2;unfold qt at j;refine P.out _ _ (⟨za j.1 0 _ rfl,za j.1 1 _ rfl,za j.1 2 _ rfl,za j.2.1 0 _ rfl,za j.2.1 1 _ rfl,za j.2.1 2 _ rfl,za j.2.1 3 _ rfl,za j.2.1 4 _ rfl,za j.2.1 5 _ rfl,za j.2.1 6 _ rfl,za j.2.1 7 _ rfl,za j.2.1 8 _ rfl,za j.2.1 9 _ rfl,za j.2.1 10 _ rfl,za j.2.1 11 _ rfl,za (by have h:=s.out;unfold qt at h;exact h) 0 _ rfl,za (by have h:=s.out;unfold qt at h;exact h) 1 _ rfl,za (by have h:=s.out;unfold qt at h;exact h) 2 _ rfl,za (by have h:=s.out;unfold qt at h;exact h) 3 _ rfl,za (by have h:=s.out;unfold qt at h;exact h) 4 _ rfl,za (by have h:=s.out;unfold qt at h;exact h) 5 _ rfl,za (by have h:=s.out;unfold qt at h;exact h) 6 _ rfl,za (by have h:=s.out;unfold qt at h;exact h) 7 _ rfl,za (by have h:=s.out;unfold qt at h;exact h) 8 _ rfl,za (by have h:=s.out;unfold qt at h;exact h) 9 _ rfl,za (by have h:=s.out;unfold qt at h;exact h) 10 _ rfl,za (by have h:=s.out;unfold qt at h;exact h) 11 _ rfl,za (by have h:=s.out;unfold qt at h;exact h) 12 _ rfl,(by have h:=e4.out;unfold qt at h;exact h)⟩) (fun hS=>?_)
 clear P K r0 f0 r1 f1 r2 f2;simp only[sZ,sS];obtain⟨r0,r1,r2,r3⟩:=ce4 j.2.2.1;obtain⟨f0,f1,f2,f3⟩:=fe4 j.2.2.1;refine zj (rs:=[14]) (by kernel_rfl) (by simp) ?_
 refine zc.consL rfl (fun K P=>?_) zc.nil
 go_simp;have n:=a3.out.2.2.2.2.2;unfold ZK qt at n;refine P.out _ _ (⟨za n.1 0 _ rfl,za n.1 1 _ rfl,za n.1 2 _ rfl,za n.2.1 0 _ rfl,za n.2.1 1 _ rfl,za n.2.1 2 _ rfl,za n.2.1 3 _ rfl,za n.2.1 4 _ rfl,za n.2.1 5 _ rfl,za n.2.1 6 _ rfl,za n.2.1 7 _ rfl,za n.2.1 8 _ rfl,za n.2.1 9 _ rfl,za n.2.1 10 _ rfl,za n.2.1 11 _ rfl,za (by have h:=t.out;unfold ZK qt at h;exact h) 0 _ rfl,za (by have h:=t.out;unfold ZK qt at h;exact h) 1 _ rfl,za (by have h:=t.out;unfold ZK qt at h;exact h) 2 _ rfl,za (by have h:=t.out;unfold ZK qt at h;exact h) 3 _ rfl,za (by have h:=t.out;unfold ZK qt at h;exact h) 4 _ rfl,za (by have h:=t.out;unfold ZK qt at h;exact h) 5 _ rfl,za (by have h:=t.out;unfold ZK qt at h;exact h) 6 _ rfl,za (by have h:=t.out;unfold ZK qt at h;exact h) 7 _ rfl,za (by have h:=t.out;unfold ZK qt at h;exact h) 8 _ rfl,za (by have h:=t.out;unfold ZK qt at h;exact h) 9 _ rfl,za (by have h:=t.out;unfold ZK qt at h;exact h) 10 _ rfl,za (by have h:=t.out;unfold ZK qt at h;exact h) 11 _ rfl,za (by have h:=t.out;unfold ZK qt at h;exact h) 12 _ rfl,(by have h:=e5.out;unfold ZK qt at h;exact h)⟩) (fun hS=>?_)
 clear P K r0 f0 r1 f1 r2 f2 r3 f3 j n;simp only[sZ,sS];refine zX (by kernel_rfl) ?_ _
 go_wp2;have Z3:=a3.out.1;have Z4:=a3.out.2.1;unfold ZK qt at Z3 Z4;obtain⟨z0,z1,z2⟩:=ce3 Z3;obtain⟨t0,t1,t2,t3⟩:=ce4 Z4;have b7:=lowK M.out (.slice (some ⟨H,0,none⟩) x.san c1) (.slice O x.ldn c2) (.slice (some ⟨gb,0,none⟩) x.bkn c3) (int i64 0) (int i64 ((m:Int)+1)) (int i64 td) (.slice none 0 0);have a9:=b9.out;rw[b4.out] at a9;unfold ZK qt at b7 a9;exact bodyPost_ret (v:=.tuple #[.agg #[.slice (some ⟨H,0,none⟩) x.san c1,.slice O x.ldn c2,.slice (some ⟨gb,0,none⟩) x.bkn c3],.agg #[int i64 0,int i64 ((m:Int)+1),int i64 td,.slice none 0 0]]) (by simp[results,Tryz.results111,go_sem,z0,z1,z2,t0,t1,t2,t3]) rfl ⟨⟨_,by rw[e8.out],a9⟩,b7⟩
def zat (k:Nat):Bool:=decide (k=2∨k=3∨k=7)
def zaS (k:Nat):Bool:=decide (4<=k/\k<=8)
def Z0 (k:Nat):Int:=if k=1∨k=2∨k=3∨k=5 then 3 else if k=9 then 1 else 0
def QZ (k:Nat):Bool:=decide (k=1∨k=2∨k=3∨k=5)
def zbm (k:Nat):Bool:=decide (k=2)
def zmg (k:Nat):Bool:=decide (k=6∨k=8)
def zdy (k:Nat):Bool:=decide (k=5∨k=6∨k=8)
def Zm (w:World):Prop:=∀ k,k<10 ->
 w.cell? ⟨9,k*7,none⟩=some (.bool (zat k))/\w.cell? ⟨9,k*7+1,none⟩=some (.bool (zaS k))/\w.cell? ⟨9,k*7+2,none⟩=some (int i64 (Z0 k)) /\
 w.cell? ⟨9,k*7+3,none⟩=some (.bool (QZ k))/\w.cell? ⟨9,k*7+4,none⟩=some (.bool (zbm k))/\w.cell? ⟨9,k*7+5,none⟩=some (.bool (zmg k))/\w.cell? ⟨9,k*7+6,none⟩=some (.bool (zdy k))
theorem Zm.lt {w:World}(h:Zm w):9<w.heap.size:=World.block_lt_of_cell? w _ (h 0 (by decide)).1
theorem Zm.below {w w':World}(h:Zm w)(a:Below w.heap.size w w'):Zm w':=by
 intro k g;obtain⟨c,h1,h2,h3,d,e,f⟩:=h k g;have b:=h.lt;exact⟨(a.cell b).trans c,(a.cell b).trans h1,(a.cell b).trans h2,(a.cell b).trans h3,(a.cell b).trans d,(a.cell b).trans e,(a.cell b).trans f⟩
theorem Qo (x:Int)(w:World) :
  Calls Tryz.prog 242 #[int i64 x] w fun e w'=>e=.returned (.bool (decide (In x 0 10000)))/\w'=w:=by
 go_enter Tryz.func242,Tryz.ntmps242;go_wp2_with (first|(go_at_call 191;refine(zz _ _ _ _).mono ?_;rintro e w' ⟨rfl,rfl⟩))
 go_ret;exact⟨rfl,rfl⟩
theorem zN (a b c:Bool)(w:World) :
  Calls Tryz.prog 241 #[.bool a,.bool b,.bool c] w fun e w'=>e=.returned (.bool (if a then b else c))/\w'=w:=by
 cases a with
 | true =>
  go_enter Tryz.func241,Tryz.ntmps241;go_wp2;go_ret;exact⟨rfl,rfl⟩
 | false =>
  go_enter Tryz.func241,Tryz.ntmps241;go_wp2;go_ret;exact⟨rfl,rfl⟩
theorem zhe (b:Int)(w:World):Calls Tryz.prog 266 #[.int .u8 b] w fun e w'=>e=.returned (.bool (decide (zcj b)))/\w'=w:=by
 obtain⟨c,d⟩:∃ c,c=decide (zcj b):=⟨_,rfl⟩;rw[← d];have a:=hI d;clear d
 by_cases h1:97<=b
 ·have i:decide (97<=b)=true:=by simpa using h1
  by_cases h2:b<=122
  ·have j:decide (b<=122)=true:=by simpa using h2
   go_enter Tryz.func266,Tryz.ntmps266;go_wp2;go_ret;exact⟨by rw[a.out,decide_eq_true (.inl ⟨h1,h2⟩)];rfl,rfl⟩
  ·have j:decide (b<=122)=false:=by simpa using h2
   have f:decide (65<=b)=true:=by simp;omega
   have g:decide (b<=90)=false:=by simp;omega
   go_enter Tryz.func266,Tryz.ntmps266;go_wp2;go_ret;exact⟨by rw[a.out,decide_eq_false (by rintro(h|h) <;> omega)];rfl,rfl⟩
 ·have i:decide (97<=b)=false:=by simpa using h1
  by_cases h3:65<=b
  ·have f:decide (65<=b)=true:=by simpa using h3
   by_cases h4:b<=90
   ·have g:decide (b<=90)=true:=by simpa using h4
    go_enter Tryz.func266,Tryz.ntmps266;go_wp2;go_ret;exact⟨by rw[a.out,decide_eq_true (.inr ⟨h3,h4⟩)];rfl,rfl⟩
   ·have g:decide (b<=90)=false:=by simpa using h4
    go_enter Tryz.func266,Tryz.ntmps266;go_wp2;go_ret;exact⟨by rw[a.out,decide_eq_false (by rintro(h|h) <;> omega)];rfl,rfl⟩
  ·have f:decide (65<=b)=false:=by simpa using h3
   go_enter Tryz.func266,Tryz.ntmps266;go_wp2;go_ret;exact⟨by rw[a.out,decide_eq_false (by rintro(h|h) <;> omega)];rfl,rfl⟩
theorem znO (s:ByteArray)(w:World)(hs:s.size<=1000000000000000) :
  Calls Tryz.prog 239 #[.string s] w fun e w'=>qX (Zg s) e/\w'=w:=by
 by_cases h0:In (s.size:Int) 1 12
 ·have b:=hI h0
  have g:decide (In (s.size:Int) 1 12)=true:=decide_eq_true h0;have m:s.size<=12:=by have:=h0.2;omega
  clear h0;go_enter Tryz.func239,Tryz.ntmps239;go_wp2_with (first|(go_at_call 191;refine sC (zz _ _ _ _) ?_))
  go_loop [3,10] (fun _ i=>∃ k:Nat,k<=s.size/\i=int i64 k/\∀ j,j<k->zcj (zed s j)) (fun _ i=>s.size - (intOf i).toNat)
  case atStart=>exact⟨0,Nat.zero_le _,rfl,fun j l=>by omega⟩
  case round =>
   obtain⟨k,hk,rfl,a⟩:=hrel;have f:=hI a;clear a
   by_cases hlt:k<s.size
   ·by_cases hL:zcj (zed s k)
    ·have d:decide (zcj (zed s k))=true:=decide_eq_true hL
     have c:=hI hL;clear hL;rw[← zgk s k hlt] at d;go_wp2_with (first|(go_at_call 266;refine sC (zhe _ _) ?_))
     go_round
     case rel=>exact⟨k+1,by omega,by go_num,fun j l=>by
      by_cases e:j=k
      ·subst e;exact c.out
      ·exact f.out j (by omega)⟩
     case measure=>simp[intOf];omega
    ·have d:decide (zcj (zed s k))=false:=decide_eq_false hL
     have c:=hI hL;clear hL;rw[← zgk s k hlt] at d;go_wp2_with (first|(go_at_call 266;refine sC (zhe _ _) ?_))
     go_ret;exact⟨zl (fun h=>c.out (h.2.2 k hlt)),rfl⟩
   ·obtain rfl:k=s.size:=by omega
    go_wp2;go_ret;exact⟨zR ⟨by have:=b.out.1;omega,by have:=b.out.2;omega,f.out⟩,rfl⟩
 ·have b:=hI h0
  have g:decide (In (s.size:Int) 1 12)=false:=decide_eq_false h0;clear h0;go_enter Tryz.func239,Tryz.ntmps239;go_wp2_with (first|(go_at_call 191;refine sC (zz _ _ _ _) ?_))
  go_ret;exact⟨zl (fun h=>b.out ⟨by have:=h.1;omega,by have:=h.2.1;omega⟩),rfl⟩
theorem Zi (s:ByteArray)(w:World)(a:s.size<=1000000000000000) :
  Calls Tryz.prog 239 #[.string s] w fun e w'=>e=.returned (.bool (decide (Zg s)))/\w'=w:=by
 refine(znO s w a).mono ?_;rintro e w' ⟨⟨b',rfl,h⟩,rfl⟩;rw[bool_eq h (decide_eq_true_iff (p:=Zg s))];exact⟨rfl,rfl⟩
theorem party_eql (pe len hei cl:Int)(all:Bool)(be:Int)(w:World) :
  (binOp .eql 45 (.agg #[int i64 pe,int i64 len,int i64 hei,int i64 cl,.bool all,int i64 be]) (.agg #[int i64 0,int i64 0,int i64 0,int i64 0,.bool false,int i64 0])).run Tryz.prog w=.ok (.bool (PZ pe len hei cl all be)) w:=by
 unfold PZ zfl
 by_cases h1:pe=0
 ·subst h1
  by_cases h2:len=0
  ·subst h2
   by_cases h3:hei=0
   ·subst h3
    by_cases h4:cl=0
    ·subst h4
     cases all with
     | false =>
      by_cases h5:be=0
      ·subst h5
       go_simp
      ·go_simp
     | true=>go_simp
    ·go_simp
   ·go_simp
  ·go_simp
 ·go_simp
theorem zbQ (pe len hei cl:Int)(all:Bool)(be:Int)(w:World) :
  Calls Tryz.prog 240 #[.agg #[int i64 pe,int i64 len,int i64 hei,int i64 cl,.bool all,int i64 be]] w fun e w'=>e=.returned (.bool (decide (qI ⟨pe,len,hei,cl,all,be⟩)))/\Below w.heap.size w w':=by
 refine(Qw pe len hei cl all be w).mono ?_;rintro e w' ⟨⟨b,rfl,a⟩,c⟩;refine⟨?_,c⟩
 congr 2
 rw[Bool.eq_iff_iff,a,decide_eq_true_eq]
theorem znP {k:Nat}(s:ByteArray):(if zat k then decide (Zg s) else s.toList.isEmpty)=decide (ZS k s):=by
 by_cases c:k=2∨k=3∨k=7
 ·have e:zat k=true:=decide_eq_true c
  rw[e,if_pos rfl];have c2:(k:Int)=2∨(k:Int)=3∨(k:Int)=7:=by omega
  rw[Bool.eq_iff_iff,decide_eq_true_eq,decide_eq_true_eq];unfold ZS;rw[if_pos c2]
 ·have e:zat k=false:=decide_eq_false c
  rw[e,zap s (show ¬ ((k:Int)=2∨(k:Int)=3∨(k:Int)=7) by omega)]
  rfl
theorem name_form {k:Nat}(n:Int):(if zaS k then decide (In n 1 30) else (n == 0))=decide (Qs k n):=by
 by_cases c:4<=k/\k<=8
 ·have e:zaS k=true:=decide_eq_true c
  have c2:In (k:Int) 4 8:=⟨by omega,by omega⟩
  rw[e,if_pos rfl,Bool.eq_iff_iff,decide_eq_true_eq,decide_eq_true_eq];unfold Qs;rw[if_pos c2]
 ·have e:zaS k=false:=decide_eq_false c
  rw[e,zds n (show ¬ In (k:Int) 4 8 by unfold In;omega)]
  rfl
theorem legs_form {k:Nat}(n:Nat):(if decide (0<Z0 k) then decide (In (n:Int) 1 (Z0 k)) else ((n:Int) == 0))=decide (qi k n):=by
 by_cases c:k=1∨k=2∨k=3∨k=5
 ·have e:Z0 k=3:=if_pos c
  have c2:zJ (k:Int):=by unfold zJ;omega
  rw[e,show decide ((0:Int)<3)=true from rfl,if_pos rfl,Bool.eq_iff_iff,decide_eq_true_eq,decide_eq_true_eq];unfold qi In;rw[if_pos c2]
  omega
 ·have c2:¬ zJ (k:Int):=by unfold zJ;omega
  by_cases c9:k=9
  ·have e:Z0 k=1:=by unfold Z0;rw[if_neg c,if_pos c9]
   rw[e,show decide ((0:Int)<1)=true from rfl,if_pos rfl,Bool.eq_iff_iff,decide_eq_true_eq,decide_eq_true_eq];unfold qi In;rw[if_neg c2,if_pos (by omega)]
   omega
  ·have e:Z0 k=0:=by unfold Z0;rw[if_neg c,if_neg c9]
   rw[e,show decide ((0:Int)<0)=false from rfl,if_neg (by decide),zey,Bool.eq_iff_iff,decide_eq_true_eq,decide_eq_true_eq]
   unfold qi;rw[if_neg c2,if_neg (by omega)]
theorem znQ {k:Nat}{q:Bool}{p:Qh}(h:q=true↔qI p):(if QZ k then q else PZ p.pe p.len p.hei p.cl p.all p.be)=decide (qA k p):=by
 by_cases c:k=1∨k=2∨k=3∨k=5
 ·have e:QZ k=true:=decide_eq_true c
  rw[e,if_pos rfl];exact(zcl (show zJ (k:Int) by unfold zJ;omega) h).symm
 ·have e:QZ k=false:=decide_eq_false c
  rw[e,if_neg (by decide)]
  exact zby (show ¬ zJ (k:Int) by unfold zJ;omega)
theorem znR {k:Nat}(u:Int):(if zbm k then decide (In u 0 10000) else (u == 0))=decide (Qm k u):=by
 by_cases c:k=2
 ·have e:zbm k=true:=decide_eq_true c
  rw[e,if_pos rfl,Bool.eq_iff_iff,decide_eq_true_eq,decide_eq_true_eq];unfold Qm In
  omega
 ·have e:zbm k=false:=decide_eq_false c
  rw[e,if_neg (by decide),Bool.eq_iff_iff,beq_iff_eq,decide_eq_true_eq]
  unfold Qm
  omega
theorem now_form {k:Nat}(u:Int):(if zmg k then decide (In u 0 10000) else (u == 0))=decide (zbW k u):=by
 by_cases c:k=6∨k=8
 ·have e:zmg k=true:=decide_eq_true c
  rw[e,if_pos rfl,Bool.eq_iff_iff,decide_eq_true_eq,decide_eq_true_eq];unfold zbW In
  omega
 ·have e:zmg k=false:=decide_eq_false c
  rw[e,if_neg (by decide),Bool.eq_iff_iff,beq_iff_eq,decide_eq_true_eq]
  unfold zbW
  omega
theorem zdX (cs:List Value)(x:OpD)(w:World)(M:x.own.size<=1000000000000000)(h:OpD.Is w cs x)(hF:Zm w) :
  Calls Tryz.prog 194 #[.agg cs.toArray] w fun e w'=>e=.returned (.bool (decide (zac x)))/\Below w.heap.size w w':=by
 obtain⟨D,E,rfl,_,_⟩:=h;obtain⟨V,hV⟩:∃ V,V=decide (zac x):=⟨_,rfl⟩;rw[← hV];have H:Hid (V=true↔zac x):=by show V=true↔zac x;rw[hV,decide_eq_true_eq]
 clear hV;have b:=hI hF;clear hF;have qP:=party_eql x.pe x.len x.hei x.cl x.all x.be;have d:Below w.heap.size w (w.alloc (.cells #[int i64 x.kind,.string x.own,int i64 x.name,.slice D x.lgn E,int i64 x.pe,int i64 x.len,int i64 x.hei,int i64 x.cl,.bool x.all,int i64 x.be,int i64 x.unt,int i64 x.now] 47)):=zk bZ _;have b0:=heap_alloc_new w (.cells #[int i64 x.kind,.string x.own,int i64 x.name,.slice D x.lgn E,int i64 x.pe,int i64 x.len,int i64 x.hei,int i64 x.cl,.bool x.all,int i64 x.be,int i64 x.unt,int i64 x.now] 47);go_enter Tryz.func194,Tryz.ntmps194;go_wp2_with fail;generalize w.alloc (.cells #[int i64 x.kind,.string x.own,int i64 x.name,.slice D x.lgn E,int i64 x.pe,int i64 x.len,int i64 x.hei,int i64 x.cl,.bool x.all,int i64 x.be,int i64 x.unt,int i64 x.now] 47)=W at d b0 ⊢;obtain⟨t0,N⟩:∃ t,t=decide (In x.kind 1 9):=⟨_,rfl⟩;have L:Hid (t0=true↔In x.kind 1 9):=by show t0=true↔In x.kind 1 9;rw[N,decide_eq_true_eq]
 refine(zz _ _ _ _).mono ?_;rw[← N];clear N;rintro e v ⟨rfl,hv⟩;have hv:=hv.symm;subst hv
 cases t0 with
 | false =>
  have n:Hid (V=false):=Bool.eq_false_iff.2 (fun h=>by have:=L.out.2 (H.out.1 h).1;cases this)
  go_wp2;go_ret;exact⟨by rw[n.out];rfl,d⟩
 | true =>
 have J:Hid (In x.kind 1 9):=L.out.1 rfl;obtain⟨k,hk⟩:∃ k:Nat,x.kind=(k:Int):=⟨x.kind.toNat,by have:=J.out.1;omega⟩
 have s:=hI hk;have b6:1<=k/\k<=9:=by have:=J.out;unfold In at this;omega
 clear L;have t0:W.cell? ⟨9,k*7,none⟩=some (.bool (zat k)):=(d.cell (p:=⟨9,k*7,none⟩) b.out.lt).trans (b.out k (by omega)).1
 have t1:W.cell? ⟨9,k*7+1,none⟩=some (.bool (zaS k)):=(d.cell (p:=⟨9,k*7+1,none⟩) b.out.lt).trans (b.out k (by omega)).2.1
 have t2:W.cell? ⟨9,k*7+2,none⟩=some (int i64 (Z0 k)):=(d.cell (p:=⟨9,k*7+2,none⟩) b.out.lt).trans (b.out k (by omega)).2.2.1
 have t3:W.cell? ⟨9,k*7+3,none⟩=some (.bool (QZ k)):=(d.cell (p:=⟨9,k*7+3,none⟩) b.out.lt).trans (b.out k (by omega)).2.2.2.1
 have t4:W.cell? ⟨9,k*7+4,none⟩=some (.bool (zbm k)):=(d.cell (p:=⟨9,k*7+4,none⟩) b.out.lt).trans (b.out k (by omega)).2.2.2.2.1
 have t5:W.cell? ⟨9,k*7+5,none⟩=some (.bool (zmg k)):=(d.cell (p:=⟨9,k*7+5,none⟩) b.out.lt).trans (b.out k (by omega)).2.2.2.2.2.1
 have t6:W.cell? ⟨9,k*7+6,none⟩=some (.bool (zdy k)):=(d.cell (p:=⟨9,k*7+6,none⟩) b.out.lt).trans (b.out k (by omega)).2.2.2.2.2.2
 have y0:W.cell? ⟨w.heap.size,0,none⟩=some (int i64 (k:Int)):=by rw[← hk];exact za b0 0 _ rfl
 have b4:(0:Int)<=(k:Int):=by omega
 have b5:(k:Int)<10:=by omega
 have c:=zd b0 (.cells #[.bool (zat k),.bool (zaS k),int i64 (Z0 k),.bool (QZ k),.bool (zbm k),.bool (zmg k),.bool (zdy k)] 263);have f:=heap_alloc_new W (.cells #[.bool (zat k),.bool (zaS k),int i64 (Z0 k),.bool (QZ k),.bool (zbm k),.bool (zmg k),.bool (zdy k)] 263);have l:=zk d (.cells #[.bool (zat k),.bool (zaS k),int i64 (Z0 k),.bool (QZ k),.bool (zbm k),.bool (zmg k),.bool (zdy k)] 263);clear hk;go_upto_region 4 with fail;generalize hFx:W.heap.size=Q at f ⊢;generalize W.alloc (.cells #[.bool (zat k),.bool (zaS k),int i64 (Z0 k),.bool (QZ k),.bool (zbm k),.bool (zmg k),.bool (zdy k)] 263)=j at l c f ⊢;clear y0 t0 t1 t2 t3 t4 t5 t6 b4 b5 d b0 hFx;have B:=zM c;have R:=zM f;have z1:∀ g:zn j,g.val.cell? ⟨w.heap.size,1,none⟩=some (.string x.own):=fun g=>(g.bel.cell B).trans (za c 1 _ rfl)
 have z2:∀ g:zn j,g.val.cell? ⟨w.heap.size,2,none⟩=some (int i64 x.name):=fun g=>(g.bel.cell B).trans (za c 2 _ rfl)
 have z3:∀ g:zn j,g.val.cell? ⟨w.heap.size,3,none⟩=some (.slice D x.lgn E):=fun g=>(g.bel.cell B).trans (za c 3 _ rfl)
 have z4:∀ g:zn j,g.val.cell? ⟨w.heap.size,4,none⟩=some (int i64 x.pe):=fun g=>(g.bel.cell B).trans (za c 4 _ rfl)
 have z5:∀ g:zn j,g.val.cell? ⟨w.heap.size,5,none⟩=some (int i64 x.len):=fun g=>(g.bel.cell B).trans (za c 5 _ rfl)
 have z6:∀ g:zn j,g.val.cell? ⟨w.heap.size,6,none⟩=some (int i64 x.hei):=fun g=>(g.bel.cell B).trans (za c 6 _ rfl)
 have z7:∀ g:zn j,g.val.cell? ⟨w.heap.size,7,none⟩=some (int i64 x.cl):=fun g=>(g.bel.cell B).trans (za c 7 _ rfl)
 have z8:∀ g:zn j,g.val.cell? ⟨w.heap.size,8,none⟩=some (.bool x.all):=fun g=>(g.bel.cell B).trans (za c 8 _ rfl)
 have z9:∀ g:zn j,g.val.cell? ⟨w.heap.size,9,none⟩=some (int i64 x.be):=fun g=>(g.bel.cell B).trans (za c 9 _ rfl)
 have b7:∀ g:zn j,g.val.cell? ⟨w.heap.size,10,none⟩=some (int i64 x.unt):=fun g=>(g.bel.cell B).trans (za c 10 _ rfl)
 have b8:∀ g:zn j,g.val.cell? ⟨w.heap.size,11,none⟩=some (int i64 x.now):=fun g=>(g.bel.cell B).trans (za c 11 _ rfl)
 have f0:∀ g:zn j,g.val.cell? ⟨Q,0,none⟩=some (.bool (zat k)):=fun g=>(g.bel.cell R).trans (za f 0 _ rfl)
 have f1:∀ g:zn j,g.val.cell? ⟨Q,1,none⟩=some (.bool (zaS k)):=fun g=>(g.bel.cell R).trans (za f 1 _ rfl)
 have f2:∀ g:zn j,g.val.cell? ⟨Q,2,none⟩=some (int i64 (Z0 k)):=fun g=>(g.bel.cell R).trans (za f 2 _ rfl)
 have f3:∀ g:zn j,g.val.cell? ⟨Q,3,none⟩=some (.bool (QZ k)):=fun g=>(g.bel.cell R).trans (za f 3 _ rfl)
 have f4:∀ g:zn j,g.val.cell? ⟨Q,4,none⟩=some (.bool (zbm k)):=fun g=>(g.bel.cell R).trans (za f 4 _ rfl)
 have f5:∀ g:zn j,g.val.cell? ⟨Q,5,none⟩=some (.bool (zmg k)):=fun g=>(g.bel.cell R).trans (za f 5 _ rfl)
 obtain⟨m,a1⟩:∃ t,decide (Zg x.own)=t:=⟨_,rfl⟩;have i:=hI a1;obtain⟨r,a2⟩:∃ t,decide (In x.name 1 30)=t:=⟨_,rfl⟩;have o:=hI a2;obtain⟨y,a3⟩:∃ t,decide (In (x.lgn:Int) 1 (Z0 k))=t:=⟨_,rfl⟩;have u:=hI a3;obtain⟨z,a4⟩:∃ t,decide (qI ⟨x.pe,x.len,x.hei,x.cl,x.all,x.be⟩)=t:=⟨_,rfl⟩;have A:=hI a4;obtain⟨F,a5⟩:∃ t,decide (In x.unt 0 10000)=t:=⟨_,rfl⟩;have C:=hI a5;obtain⟨O,a6⟩:∃ t,decide (In x.now 0 10000)=t:=⟨_,rfl⟩;have K:=hI a6;clear a1 a2 a3 a4 a5 a6 c f;have T:Hid ((if zat k then m else x.own.toList.isEmpty)=true↔ZS x.kind x.own):=by
  show(if zat k then m else x.own.toList.isEmpty)=true↔ZS x.kind x.own
  rw[← i.out,znP x.own,decide_eq_true_eq,s.out]
 have U:Hid ((if zaS k then r else (x.name == 0))=true↔Qs x.kind x.name):=by
  show(if zaS k then r else (x.name == 0))=true↔Qs x.kind x.name
  rw[← o.out,name_form x.name,decide_eq_true_eq,s.out]
 have X:Hid ((if decide (0<Z0 k) then y else ((x.lgn:Int) == 0))=true↔qi x.kind x.lgn):=by
  show(if decide (0<Z0 k) then y else ((x.lgn:Int) == 0))=true↔qi x.kind x.lgn
  rw[← u.out,legs_form x.lgn,decide_eq_true_eq,s.out]
 have Y:Hid ((if QZ k then z else (PZ x.pe x.len x.hei x.cl x.all x.be))=true↔qA x.kind x.p):=by
  show(if QZ k then z else (PZ x.pe x.len x.hei x.cl x.all x.be))=true↔qA x.kind x.p
  have h3:(if QZ k then z else PZ x.pe x.len x.hei x.cl x.all x.be)=decide (qA (k:Int) x.p):=znQ (p:=x.p) (show z=true↔qI x.p by rw[← A.out,decide_eq_true_eq];exact Iff.rfl)
  rw[h3,decide_eq_true_eq,s.out]
 have Z:Hid ((if zbm k then F else (x.unt == 0))=true↔Qm x.kind x.unt):=by
  show(if zbm k then F else (x.unt == 0))=true↔Qm x.kind x.unt
  rw[← C.out,znR x.unt,decide_eq_true_eq,s.out]
 have a0:Hid ((if zmg k then O else (x.now == 0))=true↔zbW x.kind x.now):=by
  show(if zmg k then O else (x.now == 0))=true↔zbW x.kind x.now
  rw[← K.out,now_form x.now,decide_eq_true_eq,s.out]
 by_cases p0:ZS x.kind x.own
 case neg =>
  have G:Hid ((if zat k then m else x.own.toList.isEmpty)=false):=Bool.eq_false_iff.2 (fun h=>p0 (T.out.1 h))
  have n:Hid (V=false):=Bool.eq_false_iff.2 (fun h=>p0 (H.out.1 h).2.1)
  clear p0;refine zh (by kernel_rfl) (by kernel_rfl) ?_
  simp only[List.append_eq,List.cons_append,List.nil_append]
  repeat(first|go_big_quiet_skip|(go_big_quiet_want;go_big_quiet_op;first|go_big_quiet_on|(apply Exists.intro;refine⟨fun g=>?_,?_⟩;(focus(go_at_call 239;with_reducible refine zf (v:=.bool m) (Calls.mono (Zi x.own _ M) ?_);rintro e a ⟨rfl,rfl⟩;exact⟨by rw[i.out],bZ⟩));go_big_quiet_on)|(apply Exists.intro;refine⟨fun g=>?_,?_⟩;(focus(go_at_call 241;with_reducible refine zf (v:=.bool false) (Calls.mono (zN (zat k) m x.own.toList.isEmpty _) ?_);rintro e a ⟨rfl,rfl⟩;exact⟨by rw[G.out],bZ⟩));go_big_quiet_on)))
  refine wpQuiet_nil ?_;rintro _ ⟨g,rfl⟩;go_wp2;go_ret;exact⟨by rw[n.out];rfl,ze l g.bel⟩
 have G:=hI (T.out.2 p0);have a7:=hI p0;clear p0
 by_cases p1:Qs x.kind x.name
 case neg =>
  have I:Hid ((if zaS k then r else (x.name == 0))=false):=Bool.eq_false_iff.2 (fun h=>p1 (U.out.1 h))
  have n:Hid (V=false):=Bool.eq_false_iff.2 (fun h=>p1 (H.out.1 h).2.2.1)
  clear p1;refine zh (by kernel_rfl) (by kernel_rfl) ?_
  simp only[List.append_eq,List.cons_append,List.nil_append]
  repeat(first|go_big_quiet_skip|(go_big_quiet_want;go_big_quiet_op;first|go_big_quiet_on|(apply Exists.intro;refine⟨fun g=>?_,?_⟩;(focus(go_at_call 239;with_reducible refine zf (v:=.bool m) (Calls.mono (Zi x.own _ M) ?_);rintro e a ⟨rfl,rfl⟩;exact⟨by rw[i.out],bZ⟩));go_big_quiet_on)|(apply Exists.intro;refine⟨fun g=>?_,?_⟩;(focus(go_at_call 191;with_reducible refine zf (v:=.bool r) (Calls.mono (zz x.name 1 30 _) ?_);rintro e a ⟨rfl,rfl⟩;exact⟨by rw[o.out],bZ⟩));go_big_quiet_on)|(apply Exists.intro;refine⟨fun g=>?_,?_⟩;(focus(go_at_call 241;with_reducible refine zf (v:=.bool true) (Calls.mono (zN (zat k) m x.own.toList.isEmpty _) ?_);rintro e a ⟨rfl,rfl⟩;exact⟨by rw[G.out],bZ⟩));go_big_quiet_on)|(apply Exists.intro;refine⟨fun g=>?_,?_⟩;(focus(go_at_call 241;with_reducible refine zf (v:=.bool false) (Calls.mono (zN (zaS k) r (x.name == 0) _) ?_);rintro e a ⟨rfl,rfl⟩;exact⟨by rw[I.out],bZ⟩));go_big_quiet_on)))
  refine wpQuiet_nil ?_;rintro _ ⟨g,rfl⟩;go_wp2;go_ret;exact⟨by rw[n.out];rfl,ze l g.bel⟩
 have I:=hI (U.out.2 p1);have a8:=hI p1;clear p1
 by_cases p2:qi x.kind x.lgn
 case neg =>
  have P:Hid ((if decide (0<Z0 k) then y else ((x.lgn:Int) == 0))=false):=Bool.eq_false_iff.2 (fun h=>p2 (X.out.1 h))
  have n:Hid (V=false):=Bool.eq_false_iff.2 (fun h=>p2 (H.out.1 h).2.2.2.1)
  clear p2;refine zh (by kernel_rfl) (by kernel_rfl) ?_
  simp only[List.append_eq,List.cons_append,List.nil_append]
  repeat(first|go_big_quiet_skip|(go_big_quiet_want;go_big_quiet_op;first|go_big_quiet_on|(apply Exists.intro;refine⟨fun g=>?_,?_⟩;(focus(go_at_call 239;with_reducible refine zf (v:=.bool m) (Calls.mono (Zi x.own _ M) ?_);rintro e a ⟨rfl,rfl⟩;exact⟨by rw[i.out],bZ⟩));go_big_quiet_on)|(apply Exists.intro;refine⟨fun g=>?_,?_⟩;(focus(go_at_call 191;with_reducible refine zf (v:=.bool r) (Calls.mono (zz x.name 1 30 _) ?_);rintro e a ⟨rfl,rfl⟩;exact⟨by rw[o.out],bZ⟩));go_big_quiet_on)|(apply Exists.intro;refine⟨fun g=>?_,?_⟩;(focus(go_at_call 191;with_reducible refine zf (v:=.bool y) (Calls.mono (zz (x.lgn:Int) 1 (Z0 k) _) ?_);rintro e a ⟨rfl,rfl⟩;exact⟨by rw[u.out],bZ⟩));go_big_quiet_on)|(apply Exists.intro;refine⟨fun g=>?_,?_⟩;(focus(go_at_call 241;with_reducible refine zf (v:=.bool true) (Calls.mono (zN (zat k) m x.own.toList.isEmpty _) ?_);rintro e a ⟨rfl,rfl⟩;exact⟨by rw[G.out],bZ⟩));go_big_quiet_on)|(apply Exists.intro;refine⟨fun g=>?_,?_⟩;(focus(go_at_call 241;with_reducible refine zf (v:=.bool true) (Calls.mono (zN (zaS k) r (x.name == 0) _) ?_);rintro e a ⟨rfl,rfl⟩;exact⟨by rw[I.out],bZ⟩));go_big_quiet_on)|(apply Exists.intro;refine⟨fun g=>?_,?_⟩;(focus(go_at_call 241;with_reducible refine zf (v:=.bool false) (Calls.mono (zN (decide (0<Z0 k)) y ((x.lgn:Int) == 0) _) ?_);rintro e a ⟨rfl,rfl⟩;exact⟨by rw[P.out],bZ⟩));go_big_quiet_on)))
  refine wpQuiet_nil ?_;rintro _ ⟨g,rfl⟩;go_wp2;go_ret;exact⟨by rw[n.out];rfl,ze l g.bel⟩
 have P:=hI (X.out.2 p2);have a9:=hI p2;clear p2
 by_cases p3:qA x.kind x.p
 case neg =>
  have S:Hid ((if QZ k then z else (PZ x.pe x.len x.hei x.cl x.all x.be))=false):=Bool.eq_false_iff.2 (fun h=>p3 (Y.out.1 h))
  have n:Hid (V=false):=Bool.eq_false_iff.2 (fun h=>p3 (H.out.1 h).2.2.2.2.1)
  clear p3;refine zh (by kernel_rfl) (by kernel_rfl) ?_
  simp only[List.append_eq,List.cons_append,List.nil_append]
  repeat(first|go_big_quiet_skip|(go_big_quiet_want;go_big_quiet_op;first|go_big_quiet_on|(apply Exists.intro;refine⟨fun g=>?_,?_⟩;(focus(go_at_call 239;with_reducible refine zf (v:=.bool m) (Calls.mono (Zi x.own _ M) ?_);rintro e a ⟨rfl,rfl⟩;exact⟨by rw[i.out],bZ⟩));go_big_quiet_on)|(apply Exists.intro;refine⟨fun g=>?_,?_⟩;(focus(go_at_call 191;with_reducible refine zf (v:=.bool r) (Calls.mono (zz x.name 1 30 _) ?_);rintro e a ⟨rfl,rfl⟩;exact⟨by rw[o.out],bZ⟩));go_big_quiet_on)|(apply Exists.intro;refine⟨fun g=>?_,?_⟩;(focus(go_at_call 191;with_reducible refine zf (v:=.bool y) (Calls.mono (zz (x.lgn:Int) 1 (Z0 k) _) ?_);rintro e a ⟨rfl,rfl⟩;exact⟨by rw[u.out],bZ⟩));go_big_quiet_on)|(apply Exists.intro;refine⟨fun g=>?_,?_⟩;(focus(go_at_call 240;with_reducible refine zf (v:=.bool z) (Calls.mono (zbQ x.pe x.len x.hei x.cl x.all x.be _) ?_);rintro e a ⟨rfl,q⟩;exact⟨by rw[A.out],q⟩));go_big_quiet_on)|(apply Exists.intro;refine⟨fun g=>?_,?_⟩;(focus(go_at_call 241;with_reducible refine zf (v:=.bool true) (Calls.mono (zN (zat k) m x.own.toList.isEmpty _) ?_);rintro e a ⟨rfl,rfl⟩;exact⟨by rw[G.out],bZ⟩));go_big_quiet_on)|(apply Exists.intro;refine⟨fun g=>?_,?_⟩;(focus(go_at_call 241;with_reducible refine zf (v:=.bool true) (Calls.mono (zN (zaS k) r (x.name == 0) _) ?_);rintro e a ⟨rfl,rfl⟩;exact⟨by rw[I.out],bZ⟩));go_big_quiet_on)|(apply Exists.intro;refine⟨fun g=>?_,?_⟩;(focus(go_at_call 241;with_reducible refine zf (v:=.bool true) (Calls.mono (zN (decide (0<Z0 k)) y ((x.lgn:Int) == 0) _) ?_);rintro e a ⟨rfl,rfl⟩;exact⟨by rw[P.out],bZ⟩));go_big_quiet_on)|(apply Exists.intro;refine⟨fun g=>?_,?_⟩;(focus(go_at_call 241;with_reducible refine zf (v:=.bool false) (Calls.mono (zN (QZ k) z (PZ x.pe x.len x.hei x.cl x.all x.be) _) ?_);rintro e a ⟨rfl,rfl⟩;exact⟨by rw[S.out],bZ⟩));go_big_quiet_on)))
  refine wpQuiet_nil ?_;rintro _ ⟨g,rfl⟩;go_wp2;go_ret;exact⟨by rw[n.out];rfl,ze l g.bel⟩
 have S:=hI (Y.out.2 p3);have b1:=hI p3;clear p3
 by_cases p4:Qm x.kind x.unt
 case neg =>
  have D4:Hid ((if zbm k then F else (x.unt == 0))=false):=Bool.eq_false_iff.2 (fun h=>p4 (Z.out.1 h))
  have n:Hid (V=false):=Bool.eq_false_iff.2 (fun h=>p4 (H.out.1 h).2.2.2.2.2.1)
  clear p4;refine zh (by kernel_rfl) (by kernel_rfl) ?_
  simp only[List.append_eq,List.cons_append,List.nil_append]
  repeat(first|go_big_quiet_skip|(go_big_quiet_want;go_big_quiet_op;first|go_big_quiet_on|(apply Exists.intro;refine⟨fun g=>?_,?_⟩;(focus(go_at_call 239;with_reducible refine zf (v:=.bool m) (Calls.mono (Zi x.own _ M) ?_);rintro e a ⟨rfl,rfl⟩;exact⟨by rw[i.out],bZ⟩));go_big_quiet_on)|(apply Exists.intro;refine⟨fun g=>?_,?_⟩;(focus(go_at_call 191;with_reducible refine zf (v:=.bool r) (Calls.mono (zz x.name 1 30 _) ?_);rintro e a ⟨rfl,rfl⟩;exact⟨by rw[o.out],bZ⟩));go_big_quiet_on)|(apply Exists.intro;refine⟨fun g=>?_,?_⟩;(focus(go_at_call 191;with_reducible refine zf (v:=.bool y) (Calls.mono (zz (x.lgn:Int) 1 (Z0 k) _) ?_);rintro e a ⟨rfl,rfl⟩;exact⟨by rw[u.out],bZ⟩));go_big_quiet_on)|(apply Exists.intro;refine⟨fun g=>?_,?_⟩;(focus(go_at_call 240;with_reducible refine zf (v:=.bool z) (Calls.mono (zbQ x.pe x.len x.hei x.cl x.all x.be _) ?_);rintro e a ⟨rfl,q⟩;exact⟨by rw[A.out],q⟩));go_big_quiet_on)|(apply Exists.intro;refine⟨fun g=>?_,?_⟩;(focus(go_at_call 242;with_reducible refine zf (v:=.bool F) (Calls.mono (Qo x.unt _) ?_);rintro e a ⟨rfl,rfl⟩;exact⟨by rw[C.out],bZ⟩));go_big_quiet_on)|(apply Exists.intro;refine⟨fun g=>?_,?_⟩;(focus(go_at_call 241;with_reducible refine zf (v:=.bool true) (Calls.mono (zN (zat k) m x.own.toList.isEmpty _) ?_);rintro e a ⟨rfl,rfl⟩;exact⟨by rw[G.out],bZ⟩));go_big_quiet_on)|(apply Exists.intro;refine⟨fun g=>?_,?_⟩;(focus(go_at_call 241;with_reducible refine zf (v:=.bool true) (Calls.mono (zN (zaS k) r (x.name == 0) _) ?_);rintro e a ⟨rfl,rfl⟩;exact⟨by rw[I.out],bZ⟩));go_big_quiet_on)|(apply Exists.intro;refine⟨fun g=>?_,?_⟩;(focus(go_at_call 241;with_reducible refine zf (v:=.bool true) (Calls.mono (zN (decide (0<Z0 k)) y ((x.lgn:Int) == 0) _) ?_);rintro e a ⟨rfl,rfl⟩;exact⟨by rw[P.out],bZ⟩));go_big_quiet_on)|(apply Exists.intro;refine⟨fun g=>?_,?_⟩;(focus(go_at_call 241;with_reducible refine zf (v:=.bool true) (Calls.mono (zN (QZ k) z (PZ x.pe x.len x.hei x.cl x.all x.be) _) ?_);rintro e a ⟨rfl,rfl⟩;exact⟨by rw[S.out],bZ⟩));go_big_quiet_on)|(apply Exists.intro;refine⟨fun g=>?_,?_⟩;(focus(go_at_call 241;with_reducible refine zf (v:=.bool false) (Calls.mono (zN (zbm k) F (x.unt == 0) _) ?_);rintro e a ⟨rfl,rfl⟩;exact⟨by rw[D4.out],bZ⟩));go_big_quiet_on)))
  refine wpQuiet_nil ?_;rintro _ ⟨g,rfl⟩;go_wp2;go_ret;exact⟨by rw[n.out];rfl,ze l g.bel⟩
 have D4:=hI (Z.out.2 p4);have b2:=hI p4;clear p4
 by_cases p5:zbW x.kind x.now
 case neg =>
  have D5:Hid ((if zmg k then O else (x.now == 0))=false):=Bool.eq_false_iff.2 (fun h=>p5 (a0.out.1 h))
  have n:Hid (V=false):=Bool.eq_false_iff.2 (fun h=>p5 (H.out.1 h).2.2.2.2.2.2)
  clear p5;refine zh (by kernel_rfl) (by kernel_rfl) ?_
  simp only[List.append_eq,List.cons_append,List.nil_append]
  repeat(first|go_big_quiet_skip|(go_big_quiet_want;go_big_quiet_op;first|go_big_quiet_on|(apply Exists.intro;refine⟨fun g=>?_,?_⟩;(focus(go_at_call 239;with_reducible refine zf (v:=.bool m) (Calls.mono (Zi x.own _ M) ?_);rintro e a ⟨rfl,rfl⟩;exact⟨by rw[i.out],bZ⟩));go_big_quiet_on)|(apply Exists.intro;refine⟨fun g=>?_,?_⟩;(focus(go_at_call 191;with_reducible refine zf (v:=.bool r) (Calls.mono (zz x.name 1 30 _) ?_);rintro e a ⟨rfl,rfl⟩;exact⟨by rw[o.out],bZ⟩));go_big_quiet_on)|(apply Exists.intro;refine⟨fun g=>?_,?_⟩;(focus(go_at_call 191;with_reducible refine zf (v:=.bool y) (Calls.mono (zz (x.lgn:Int) 1 (Z0 k) _) ?_);rintro e a ⟨rfl,rfl⟩;exact⟨by rw[u.out],bZ⟩));go_big_quiet_on)|(apply Exists.intro;refine⟨fun g=>?_,?_⟩;(focus(go_at_call 240;with_reducible refine zf (v:=.bool z) (Calls.mono (zbQ x.pe x.len x.hei x.cl x.all x.be _) ?_);rintro e a ⟨rfl,q⟩;exact⟨by rw[A.out],q⟩));go_big_quiet_on)|(apply Exists.intro;refine⟨fun g=>?_,?_⟩;(focus(go_at_call 242;with_reducible refine zf (v:=.bool F) (Calls.mono (Qo x.unt _) ?_);rintro e a ⟨rfl,rfl⟩;exact⟨by rw[C.out],bZ⟩));go_big_quiet_on)|(apply Exists.intro;refine⟨fun g=>?_,?_⟩;(focus(go_at_call 242;with_reducible refine zf (v:=.bool O) (Calls.mono (Qo x.now _) ?_);rintro e a ⟨rfl,rfl⟩;exact⟨by rw[K.out],bZ⟩));go_big_quiet_on)|(apply Exists.intro;refine⟨fun g=>?_,?_⟩;(focus(go_at_call 241;with_reducible refine zf (v:=.bool true) (Calls.mono (zN (zat k) m x.own.toList.isEmpty _) ?_);rintro e a ⟨rfl,rfl⟩;exact⟨by rw[G.out],bZ⟩));go_big_quiet_on)|(apply Exists.intro;refine⟨fun g=>?_,?_⟩;(focus(go_at_call 241;with_reducible refine zf (v:=.bool true) (Calls.mono (zN (zaS k) r (x.name == 0) _) ?_);rintro e a ⟨rfl,rfl⟩;exact⟨by rw[I.out],bZ⟩));go_big_quiet_on)|(apply Exists.intro;refine⟨fun g=>?_,?_⟩;(focus(go_at_call 241;with_reducible refine zf (v:=.bool true) (Calls.mono (zN (decide (0<Z0 k)) y ((x.lgn:Int) == 0) _) ?_);rintro e a ⟨rfl,rfl⟩;exact⟨by rw[P.out],bZ⟩));go_big_quiet_on)|(apply Exists.intro;refine⟨fun g=>?_,?_⟩;(focus(go_at_call 241;with_reducible refine zf (v:=.bool true) (Calls.mono (zN (QZ k) z (PZ x.pe x.len x.hei x.cl x.all x.be) _) ?_);rintro e a ⟨rfl,rfl⟩;exact⟨by rw[S.out],bZ⟩));go_big_quiet_on)|(apply Exists.intro;refine⟨fun g=>?_,?_⟩;(focus(go_at_call 241;with_reducible refine zf (v:=.bool true) (Calls.mono (zN (zbm k) F (x.unt == 0) _) ?_);rintro e a ⟨rfl,rfl⟩;exact⟨by rw[D4.out],bZ⟩));go_big_quiet_on)|(apply Exists.intro;refine⟨fun g=>?_,?_⟩;(focus(go_at_call 241;with_reducible refine zf (v:=.bool false) (Calls.mono (zN (zmg k) O (x.now == 0) _) ?_);rintro e a ⟨rfl,rfl⟩;exact⟨by rw[D5.out],bZ⟩));go_big_quiet_on)))
  refine wpQuiet_nil ?_;rintro _ ⟨g,rfl⟩;go_wp2;go_ret;exact⟨by rw[n.out];rfl,ze l g.bel⟩
 have D5:=hI (a0.out.2 p5);have b3:=hI p5;clear p5;have n:Hid (V=true):=H.out.2 ⟨J.out,a7.out,a8.out,a9.out,b1.out,b2.out,b3.out⟩;refine zh (by kernel_rfl) (by kernel_rfl) ?_
 simp only[List.append_eq,List.cons_append,List.nil_append]
 repeat(first|go_big_quiet_skip|(go_big_quiet_want;go_big_quiet_op;first|go_big_quiet_on|(apply Exists.intro;refine⟨fun g=>?_,?_⟩;(focus(go_at_call 239;with_reducible refine zf (v:=.bool m) (Calls.mono (Zi x.own _ M) ?_);rintro e a ⟨rfl,rfl⟩;exact⟨by rw[i.out],bZ⟩));go_big_quiet_on)|(apply Exists.intro;refine⟨fun g=>?_,?_⟩;(focus(go_at_call 191;with_reducible refine zf (v:=.bool r) (Calls.mono (zz x.name 1 30 _) ?_);rintro e a ⟨rfl,rfl⟩;exact⟨by rw[o.out],bZ⟩));go_big_quiet_on)|(apply Exists.intro;refine⟨fun g=>?_,?_⟩;(focus(go_at_call 191;with_reducible refine zf (v:=.bool y) (Calls.mono (zz (x.lgn:Int) 1 (Z0 k) _) ?_);rintro e a ⟨rfl,rfl⟩;exact⟨by rw[u.out],bZ⟩));go_big_quiet_on)|(apply Exists.intro;refine⟨fun g=>?_,?_⟩;(focus(go_at_call 240;with_reducible refine zf (v:=.bool z) (Calls.mono (zbQ x.pe x.len x.hei x.cl x.all x.be _) ?_);rintro e a ⟨rfl,q⟩;exact⟨by rw[A.out],q⟩));go_big_quiet_on)|(apply Exists.intro;refine⟨fun g=>?_,?_⟩;(focus(go_at_call 242;with_reducible refine zf (v:=.bool F) (Calls.mono (Qo x.unt _) ?_);rintro e a ⟨rfl,rfl⟩;exact⟨by rw[C.out],bZ⟩));go_big_quiet_on)|(apply Exists.intro;refine⟨fun g=>?_,?_⟩;(focus(go_at_call 242;with_reducible refine zf (v:=.bool O) (Calls.mono (Qo x.now _) ?_);rintro e a ⟨rfl,rfl⟩;exact⟨by rw[K.out],bZ⟩));go_big_quiet_on)|(apply Exists.intro;refine⟨fun g=>?_,?_⟩;(focus(go_at_call 241;with_reducible refine zf (v:=.bool true) (Calls.mono (zN (zat k) m x.own.toList.isEmpty _) ?_);rintro e a ⟨rfl,rfl⟩;exact⟨by rw[G.out],bZ⟩));go_big_quiet_on)|(apply Exists.intro;refine⟨fun g=>?_,?_⟩;(focus(go_at_call 241;with_reducible refine zf (v:=.bool true) (Calls.mono (zN (zaS k) r (x.name == 0) _) ?_);rintro e a ⟨rfl,rfl⟩;exact⟨by rw[I.out],bZ⟩));go_big_quiet_on)|(apply Exists.intro;refine⟨fun g=>?_,?_⟩;(focus(go_at_call 241;with_reducible refine zf (v:=.bool true) (Calls.mono (zN (decide (0<Z0 k)) y ((x.lgn:Int) == 0) _) ?_);rintro e a ⟨rfl,rfl⟩;exact⟨by rw[P.out],bZ⟩));go_big_quiet_on)|(apply Exists.intro;refine⟨fun g=>?_,?_⟩;(focus(go_at_call 241;with_reducible refine zf (v:=.bool true) (Calls.mono (zN (QZ k) z (PZ x.pe x.len x.hei x.cl x.all x.be) _) ?_);rintro e a ⟨rfl,rfl⟩;exact⟨by rw[S.out],bZ⟩));go_big_quiet_on)|(apply Exists.intro;refine⟨fun g=>?_,?_⟩;(focus(go_at_call 241;with_reducible refine zf (v:=.bool true) (Calls.mono (zN (zbm k) F (x.unt == 0) _) ?_);rintro e a ⟨rfl,rfl⟩;exact⟨by rw[D4.out],bZ⟩));go_big_quiet_on)|(apply Exists.intro;refine⟨fun g=>?_,?_⟩;(focus(go_at_call 241;with_reducible refine zf (v:=.bool true) (Calls.mono (zN (zmg k) O (x.now == 0) _) ?_);rintro e a ⟨rfl,rfl⟩;exact⟨by rw[D5.out],bZ⟩));go_big_quiet_on)))
 refine wpQuiet_nil ?_;rintro _ ⟨g,rfl⟩;go_wp2;go_ret;exact⟨by rw[n.out];rfl,ze l g.bel⟩
theorem Qu (x:Int)(w:World) :
  Calls Tryz.prog 232 #[int i64 x] w fun e w'=>e=.returned (.bool (decide (In x 1 99)))/\w'=w:=by
 go_enter Tryz.func232,Tryz.ntmps232;go_wp2_with (first|(go_at_call 191;refine(zz _ _ _ _).mono ?_;rintro e w' ⟨rfl,rfl⟩))
 go_ret;exact⟨rfl,rfl⟩
theorem ZO (a b:ByteArray)(w:World)(i:a.size<=1000000000000000)(k:b.size<=1000000000000000) :
  Calls Tryz.prog 233 #[.string a,.string b] w fun e w'=>e=.returned (.bool (decide (zda a b)))/\w'=w:=by
 obtain⟨c,j⟩:∃ c,c=decide (zda a b):=⟨_,rfl⟩;rw[← j];have g:=hI j;clear j
 by_cases n1:Zg a
 ·have l:decide (Zg a)=true:=decide_eq_true n1
  by_cases n2:Zg b
  ·have m:decide (Zg b)=true:=decide_eq_true n2
   by_cases n3:a=b
   ·subst n3
    have n:(a.toList == a.toList)=true:=zet.2 rfl;have f:Hid (¬ zda a a):=fun h=>h.2.2 rfl
    clear n1 n2;go_enter Tryz.func233,Tryz.ntmps233;go_wp2_with (first|(go_at_call 239;refine sC (Zi _ _ i) ?_))
    go_ret;exact⟨by rw[g.out,decide_eq_false f.out];rfl,rfl⟩
   ·have n:(a.toList == b.toList)=false:=zga.2 n3
    have f:Hid (zda a b):=⟨n1,n2,n3⟩;clear n1 n2 n3;go_enter Tryz.func233,Tryz.ntmps233;go_wp2_with fail;refine(Zi _ _ i).mono ?_;rintro e w' ⟨rfl,d⟩;have d:=d.symm;subst d;go_wp2_with fail;refine(Zi _ _ k).mono ?_;rintro e w' ⟨rfl,d⟩;have d:=d.symm;subst d;go_wp2;go_ret;exact⟨by rw[g.out,decide_eq_true f.out];rfl,rfl⟩
  ·have m:decide (Zg b)=false:=decide_eq_false n2
   have f:Hid (¬ zda a b):=fun h=>n2 h.2.1
   clear n1 n2;go_enter Tryz.func233,Tryz.ntmps233;go_wp2_with fail;refine(Zi _ _ i).mono ?_;rintro e w' ⟨rfl,d⟩;have d:=d.symm;subst d;go_wp2_with fail;refine(Zi _ _ k).mono ?_;rintro e w' ⟨rfl,d⟩;have d:=d.symm;subst d;go_wp2;go_ret;exact⟨by rw[g.out,decide_eq_false f.out];rfl,rfl⟩
 ·have l:decide (Zg a)=false:=decide_eq_false n1
  have f:Hid (¬ zda a b):=fun h=>n1 h.1
  clear n1;go_enter Tryz.func233,Tryz.ntmps233;go_wp2_with fail;refine(Zi _ _ i).mono ?_;rintro e w' ⟨rfl,d⟩;have d:=d.symm;subst d;go_wp2;go_ret;exact⟨by rw[g.out,decide_eq_false f.out];rfl,rfl⟩
end Go.Proofs.YtmdnjgihooflfaaGreatDoor
