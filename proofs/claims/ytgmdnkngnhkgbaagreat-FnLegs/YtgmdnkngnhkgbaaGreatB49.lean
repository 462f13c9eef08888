import Derived.Test.YtgmdnkngnhkgbaaGreatB48
namespace Go.Proofs.YtgmdnkngnhkgbaaGreat
open Go.RowKit
open Go.Value (int)
open Go.IntKind (i64)
set_option maxHeartbeats 64000000
set_option maxRecDepth 1000000
theorem curX_newV {w:World}{a:Option Addr}{n c:Nat}(h:BytesAt w a n):CurX (w.alloc (.cells #[.slice a n c,int i64 0,.int .u64 0] 72)) w.heap.size a n c 0 :=
 ⟨0,0,Nat.le_refl _,heap_alloc_new w _,(cur_new (c:=c) h).2⟩
def DrewV (w:World)(e:Ending)(w':World):Prop :=
 (∃ (x:Off) (a b c:Option Addr) (d f g:Nat) (L C A B D E:Nat->Value),e=.returned (.agg #[.slice a x.san d,.slice b x.ldn f,.slice c x.bkn g])/\x.san<=7/\x.bkn<=31/\Off.Short x 1001/\zy w' w.heap.size (.slice a x.san d) (.slice b x.ldn f) (.slice c x.bkn g) x.san x.ldn x.bkn x L C A B D E)/\Below w.heap.size w w'
theorem zgA {w u:World}{base:Nat}{x:Off}{f g h:Option Addr}{j k l:Nat}{L C A B D E:Nat->Value}(m:Below w.heap.size w u)(i:u.heap[w.heap.size]?=some (.cells #[.slice none 0 0,.slice none 0 0,.slice none 0 0] 27 (0,0)))(hl:w.heap.size<=base)
  (n:zy u base (.slice f x.san j) (.slice g x.ldn k) (.slice h x.bkn l) x.san x.ldn x.bkn x L C A B D E) (c d e:Value) :
  Below w.heap.size w (((u.setCell ⟨w.heap.size,0,none⟩ c).setCell ⟨w.heap.size,1,none⟩ d).setCell ⟨w.heap.size,2,none⟩ e)/\(((u.setCell ⟨w.heap.size,0,none⟩ c).setCell ⟨w.heap.size,1,none⟩ d).setCell ⟨w.heap.size,2,none⟩ e).heap[w.heap.size]?=some (.cells #[c,d,e] 27 (0,0)) /\
   zy (((u.setCell ⟨w.heap.size,0,none⟩ c).setCell ⟨w.heap.size,1,none⟩ d).setCell ⟨w.heap.size,2,none⟩ e) w.heap.size (.slice f x.san j) (.slice g x.ldn k) (.slice h x.bkn l) x.san x.ldn x.bkn x L C A B D E :=
 ⟨((m.setCell (p:=⟨w.heap.size,0,none⟩) (Nat.le_refl _) _).setCell (p:=⟨w.heap.size,1,none⟩) (Nat.le_refl _) _).setCell (p:=⟨w.heap.size,2,none⟩) (Nat.le_refl _) _,zdE i _ _ _,(n.lower hl).box ((((zA.refl u (fun b=>b=w.heap.size)).set (a:=⟨w.heap.size,0,none⟩) rfl _).set (a:=⟨w.heap.size,1,none⟩) rfl _).set (a:=⟨w.heap.size,2,none⟩) rfl _) i (by decide)⟩
theorem zbB (l:Option Addr)(n c:Nat)(w:World)(hn:n<=1048576)(h:BytesAt w l n) :
  Calls Tryz.prog 9 #[.slice l n c] w fun e w'=>DrewV w e w':=by
 have b:Below w.heap.size w (w.alloc (.cells #[.slice none 0 0,.slice none 0 0,.slice none 0 0] 27)):=zl bZ _;have u:=heap_alloc_new w (.cells #[.slice none 0 0,.slice none 0 0,.slice none 0 0] 27);have j:(w.alloc (.cells #[.slice none 0 0,.slice none 0 0,.slice none 0 0] 27)).heap.size=w.heap.size+1:=by simp
 have J:=h.below b;go_enter Tryz.func9,Tryz.ntmps9;go_wp2_with fail;generalize w.alloc (.cells #[.slice none 0 0,.slice none 0 0,.slice none 0 0] 27)=V at b u j J ⊢;have a:=curX_newV (c:=c) J;have d:Below V.heap.size V (V.alloc (.cells #[.slice l n c,int i64 0,.int .u64 0] 72)):=zl bZ _;have f:=zb u d;have M:(V.alloc (.cells #[.slice l n c,int i64 0,.int .u64 0] 72)).heap.size=w.heap.size+1+1:=by simp[j]
 rw[j] at a;generalize V.alloc (.cells #[.slice l n c,int i64 0,.int .u64 0] 72)=R at a d f M ⊢;have p:=zf b d;have o:=hI a.is.code_lt;refine(zgX (w.heap.size+1) l n c 0 R (by omega) hn (by omega) o a).mono ?_
 rintro e T ⟨⟨x,r,s,t,y,z,F,L,C,A,B,D,E,rfl,N,O,P,Q⟩,K,i⟩;have g:=i.blk f (by omega)
 have m:Below w.heap.size w T:=zA.below p (by omega) i (fun k e=>by have e:k=w.heap.size+1:=e;omega)
 have q:Hid _:=zgA m g (by omega) Q (.slice r x.san y) (.slice s x.ldn z) (.slice t x.bkn F)
 clear Q u f a d o b p J K i m;obtain⟨S,m1,m2⟩:=ce3 g;obtain⟨G,H,I⟩:=fe3 g;go_wp2;clear S G m1 H m2 I;obtain⟨U,W,X⟩:=ce3 q.out.2.1;exact bodyPost_ret (v:=.agg #[.slice r x.san y,.slice s x.ldn z,.slice t x.bkn F]) (by simp[results,Tryz.results9,go_sem,U,W,X]) rfl ⟨⟨x,r,s,t,y,z,F,L,C,A,B,D,E,rfl,N,O,P,q.out.2.2⟩,q.out.1⟩
theorem zfA (k:Option Addr)(n c:Nat)(w:World)(hn:n<=1048576)(h:BytesAt w k n) :
  Calls Tryz.prog 4 #[.slice k n c] w fun e w'=>DrewV w e w':=by
 have a:Below w.heap.size w (w.alloc (.cells #[.slice none 0 0,.slice none 0 0,.slice none 0 0] 27)):=zl bZ _;have l:=heap_alloc_new w (.cells #[.slice none 0 0,.slice none 0 0,.slice none 0 0] 27);have t:=h.below a;go_enter Tryz.func4,Tryz.ntmps4;go_wp2_with fail;generalize w.alloc (.cells #[.slice none 0 0,.slice none 0 0,.slice none 0 0] 27)=V at a l t ⊢;refine(zbB k n c V hn t).mono ?_;rintro e w1 ⟨⟨x,g,i,j,m,o,p,L,C,A,B,D,E,rfl,u,y,z,F⟩,d⟩;have b:=zb l d;have f:Hid _:=zgA (zf a d) b a.size F (.slice g x.san m) (.slice i x.ldn o) (.slice j x.bkn p);clear F l a t d;obtain⟨G,m1,m2⟩:=ce3 b;obtain⟨q,r,s⟩:=fe3 b;go_wp2;clear G q m1 r m2 s;obtain⟨H,I,J⟩:=ce3 f.out.2.1;exact bodyPost_ret (v:=.agg #[.slice g x.san m,.slice i x.ldn o,.slice j x.bkn p]) (by simp[results,Tryz.results4,go_sem,H,I,J]) rfl ⟨⟨x,g,i,j,m,o,p,L,C,A,B,D,E,rfl,u,y,z,f.out.2.2⟩,f.out.1⟩
theorem zdm (cs:List Value)(x:Off)(w:World)(n:Off.Short x 1048576)(h:Off.Is w cs x) :
  Calls Tryz.prog 5 #[.agg cs.toArray] w fun e w'=>e=.returned (.bool (decide (ql x)))/\Below w.heap.size w w':=by
 obtain⟨f,j,d,i,c,g,rfl,k,s1,l,s2,m,o⟩:=h;exact(zbh x f d c j i g w n k l m o.1).mono fun _ _ ⟨a,b⟩=>⟨zcT a,b⟩
section
open Go.RowKit Classical
theorem manU_yes {x:Off}{z:Int}{k base d:Nat}{v:Value}{w:World}(e:ql x)(b:zH x.sa z x.san=k)(a:k<x.san)(h:w.ownsRow base d 5 v (q9 (x.ld k) x.bk (x.sa k).id x.bkn).length (qC (zbj (q9 (x.ld k) x.bk (x.sa k).id x.bkn)) (q9 (x.ld k) x.bk (x.sa k).id x.bkn).length)) :
  ManU x z base d (.returned (.tuple #[v,.bool true])) w:=by
 have hl:LOk x z:=⟨e,by rw[b];exact a⟩
 have c:(x.sa k).id=z:=by rw[← b];exact QW x.sa z x.san (by rw[b];exact a)
 refine⟨v,by unfold lOk;simp[hl],?_⟩
 unfold zeJ;rw[if_pos hl,b];rw[c] at h;exact h
theorem zgr (cs:List Value)(x:Off)(z:Int)(w:World)(L:Off.Short x 1048576)(h:Off.Is w cs x) :
  Calls Tryz.prog 7 #[.agg cs.toArray,int i64 z] w fun e w'=>ManU x z w.heap.size 45 e w'/\Below w.heap.size w w':=by
 obtain⟨b,c,i,l,g,j,rfl,E,_,D,_,B,G⟩:=h;have p:=hI E;have u:=hI D;have t:=hI B;have y:=hI L;have H:=hI G.1;have T:x.san<=1048576:=L.1.1;clear E D B L G;have n:Below w.heap.size w (w.alloc (.cells #[.slice b x.san c,.slice i x.ldn l,.slice g x.bkn j] 27)):=zl bZ _;have K:=heap_alloc_new w (.cells #[.slice b x.san c,.slice i x.ldn l,.slice g x.bkn j] 27);go_enter Tryz.func7,Tryz.ntmps7;go_wp2_with fail;generalize w.alloc (.cells #[.slice b x.san c,.slice i x.ldn l,.slice g x.bkn j] 27)=R at n K ⊢;refine(QG b x.san c x.sa z _ T (p.out.below n)).mono ?_;rintro e V ⟨S,a⟩;have r:=zb K a;have d:=zf n a;clear n K a R
 rcases S with⟨C,rfl⟩|⟨C,rfl⟩
 case inr =>
  have J:Hid (¬ (ql x/\zH x.sa z x.san<x.san)):=fun h=>by have:=h.2;omega
  clear C;go_wp2;exact bodyPost_ret (v:=.tuple #[.slice none 0 0,.bool false]) (by simp[results,Tryz.results7,go_sem]) rfl ⟨manU_no J.out,d⟩
 obtain⟨k,s⟩:∃ k,zH x.sa z x.san=k:=⟨_,rfl⟩;rw[s] at C ⊢;have I:=hI s;have o:=hI C;clear s C;obtain⟨M,N,O⟩:=ce3 r;go_wp2_with fail;refine(zbh x b i g c l j _ y.out (p.out.below d) (u.out.below d) (t.out.below d) H.out).mono ?_;rintro e V2 ⟨⟨U,rfl,F⟩,a⟩;have q:=hI F;have A:=zb r a;have f:=zf d a;clear F d r a M N O
 cases U with
 | false =>
  have J:Hid (¬ (ql x/\zH x.sa z x.san<x.san)):=fun h=>by have:=q.out.2 h.1;cases this
  go_wp2;exact bodyPost_ret (v:=.tuple #[.slice none 0 0,.bool false]) (by simp[results,Tryz.results7,go_sem]) rfl ⟨manU_no J.out,f⟩
 | true =>
 have m:Hid (ql x):=q.out.1 rfl;clear q;obtain⟨M,N,O⟩:=ce3 A;go_wp2_with fail;refine(zhg x b i g c l j k _ y.out (p.out.below f) (u.out.below f) (t.out.below f) m.out.2.2.1 o.out m.out.2.1 (m.out.2.2.2.1 k o.out)).mono ?_;rintro e V3 ⟨⟨v,rfl,P⟩,a⟩;have Q:Hid _:=P;clear M N O A P;go_wp2;exact bodyPost_ret (v:=.tuple #[v,.bool true]) (by simp[results,Tryz.results7,go_sem]) rfl ⟨manU_yes m.out I.out o.out (zC Q.out f.size),zf f a⟩
end
section
open Go.RowKit Classical
def OnV (s:Sail)(l:qm)(base a:Nat)(e:Ending)(w:World):Prop :=
 ∃ v1 v2,e=.returned (.tuple #[v1,v2,int i64 (s.most - ZD l.se l.sen)])/\w.ownsRow base a 1 v1 s.la.n (zw (Zy s.la l.st l.stn) s.la.n)/\w.ownsRow base a 1 v2 s.ca.n (zw (qk s.ca l.ro l.ron) s.ca.n)/\∀ b,v1.ownBlock=some b->v2.ownBlock≠some b
theorem zhj (s:Sail)(l:qm)(la ca i f g:Option Addr)(z x m j k:Nat)(w:World)(hp:zV s l)(N:s.la.n<=1048576/\s.ca.n<=1048576)(K:qm.Short l 1048576)(J:zT w la s.la)(I:zT w ca s.ca)
  (O:qp w i l.stn l.st/\l.stn<=m) (L:qo w f l.ron l.ro/\l.ron<=j) (M:qx w g l.sen l.se/\l.sen<=k) :
  Calls Tryz.prog 25 #[.agg #[int i64 s.id,.string s.fr,.string s.dst,int i64 s.dep,int i64 s.arr,.slice la s.la.n z,.slice ca s.ca.n x,int i64 s.most],.agg #[.slice i l.stn m,.slice f l.ron j,.slice g l.sen k]] w fun e w'=>OnV s l w.heap.size 3 e w'/\Below w.heap.size w w':=by
 have A:=hI hp;have D:=hI N;have q:=hI K;have R:=hI J;have Q:=hI I;have E:=hI O;have B:=hI L;have C:=hI M;clear hp N K J I O L M;have n:Below w.heap.size w ((w.alloc (.cells #[int i64 s.id,.string s.fr,.string s.dst,int i64 s.dep,int i64 s.arr,.slice la s.la.n z,.slice ca s.ca.n x,int i64 s.most] 33)).alloc (.cells #[.slice i l.stn m,.slice f l.ron j,.slice g l.sen k] 55)):=zl (zl bZ _) _;have W:((w.alloc (.cells #[int i64 s.id,.string s.fr,.string s.dst,int i64 s.dep,int i64 s.arr,.slice la s.la.n z,.slice ca s.ca.n x,int i64 s.most] 33)).alloc (.cells #[.slice i l.stn m,.slice f l.ron j,.slice g l.sen k] 55)).heap[w.heap.size]?=some (.cells #[int i64 s.id,.string s.fr,.string s.dst,int i64 s.dep,int i64 s.arr,.slice la s.la.n z,.slice ca s.ca.n x,int i64 s.most] 33 (0,0)):=zc (heap_alloc_new w _) _;have U:((w.alloc (.cells #[int i64 s.id,.string s.fr,.string s.dst,int i64 s.dep,int i64 s.arr,.slice la s.la.n z,.slice ca s.ca.n x,int i64 s.most] 33)).alloc (.cells #[.slice i l.stn m,.slice f l.ron j,.slice g l.sen k] 55)).heap[w.heap.size+1]?=some (.cells #[.slice i l.stn m,.slice f l.ron j,.slice g l.sen k] 55 (0,0)):=by simpa using heap_alloc_new (w.alloc _) _
 go_enter Tryz.func25,Tryz.ntmps25;go_wp2_with fail;generalize (w.alloc (.cells #[int i64 s.id,.string s.fr,.string s.dst,int i64 s.dep,int i64 s.arr,.slice la s.la.n z,.slice ca s.ca.n x,int i64 s.most] 33)).alloc (.cells #[.slice i l.stn m,.slice f l.ron j,.slice g l.sen k] 55)=V at n W U ⊢;refine(zfK la i s.la.n z l.stn m s.la l.st _ rfl D.out.1 q.out.1 E.out.2 (R.out.below n) (E.out.1.below n)).mono ?_;rintro e W1 ⟨⟨Y,rfl,y⟩,d⟩;rw[zdd ((Zd _ _ _).1 A.out.1)] at y;rw[zbW ((Zd _ _ _).1 A.out.1)];have r:=hI (zC y n.size);have u:=zb W d;have t:=zb U d;have o:=zf n d;clear W U n d y;have s6:=za u 6 _ rfl;have l1:=za t 1 _ rfl;go_wp2_with fail;refine(zdl ca f s.ca.n x l.ron j s.ca l.ro _ rfl D.out.2 q.out.2.1 B.out.2 (Q.out.below o) (B.out.1.below o)).mono ?_;rintro e W2 ⟨⟨Z,rfl,p⟩,d⟩;rw[zbq A.out.2.1] at p;rw[zaX A.out.2.1];have S:=hI (zC p o.size);have P:Hid (∀ b,Y.ownBlock=some b->Z.ownBlock≠some b):=fun b h1 h2=>by
  have a:=(r.out.lt b h1).2;have c:=(p.lt b h2).1
  omega
 have T:=hI (zp d r.out);have G:=zb u d;have F:=zb t d;have H:=zf o d;clear u t o d s6 l1 p r;have s7:=za G 7 _ rfl;have l2:=za F 2 _ rfl;go_wp2_with fail;refine(zbH s.most g l.sen k l.se _ (by have:=q.out.2.2;omega) C.out.2 (C.out.1.below H)).mono ?_
 rintro e W3 ⟨he,d⟩;have X:e=.returned (.tuple #[int i64 (s.most - ZD l.se l.sen),.bool true]):=by
  rcases he with⟨_,rfl⟩|⟨h,_⟩
  ·rfl
  ·exact absurd A.out.2.2 h
 subst X;clear he s7 l2 G F;go_wp2;exact bodyPost_ret (v:=.tuple #[Y,Z,int i64 (s.most - ZD l.se l.sen)]) (by simp[results,Tryz.results25,go_sem]) rfl ⟨⟨Y,Z,rfl,zp d T.out,zp d S.out,P.out⟩,zf H d⟩
end
section
open Go.RowKit Classical
theorem zgE {x:Off}{z:Int}{base c:Nat}{w:World}(h:¬ (ql x/\zH x.sa z x.san<x.san)):LeftV x z base c (.returned (.tuple #[.slice none 0 0,.slice none 0 0,int i64 0,.bool false])) w:=by
 have hl:¬ LOk x z:=h;refine⟨.slice none 0 0,.slice none 0 0,?_,?_,?_,?_⟩
 ·unfold lM lOk;rw[if_neg hl];simp[hl]
 ·unfold lN1;rw[if_neg hl];exact own_nil _ _ _ _
 ·unfold lN2;rw[if_neg hl];exact own_nil _ _ _ _
 ·intro b a;simp[Value.ownBlock] at a
theorem leftV_yes {x:Off}{z:Int}{k base g:Nat}{d e:Value}{w:World}{s:Sail}{l:qm}(m:ql x)(c:zH x.sa z x.san=k)(f:k<x.san)(n:s=x.sa k)(hl:l=x.ld k)
  (h:w.ownsRow base g 1 d s.la.n (zw (Zy s.la l.st l.stn) s.la.n)) (i:w.ownsRow base g 1 e s.ca.n (zw (qk s.ca l.ro l.ron) s.ca.n)) (j:∀ b,d.ownBlock=some b->e.ownBlock≠some b) :
  LeftV x z base g (.returned (.tuple #[d,e,int i64 (s.most - ZD l.se l.sen),.bool true])) w:=by
 have a:LOk x z:=⟨m,by rw[c];exact f⟩
 subst n;subst hl;refine⟨d,e,?_,?_,?_,j⟩
 ·unfold lM lOk;rw[if_pos a,c];simp[a]
 ·unfold lN1 lF1;rw[if_pos a,c];exact h
 ·unfold lN2 lF2;rw[if_pos a,c];exact i
theorem zfL (cs:List Value)(x:Off)(z:Int)(w:World)(hs:Off.Short x 1048576)(h:Off.Is w cs x) :
  Calls Tryz.prog 8 #[.agg cs.toArray,int i64 z] w fun e w'=>LeftV x z w.heap.size 3 e w'/\Below w.heap.size w w':=by
 obtain⟨q,f,E,j,C,F,rfl,b7,_,i,_,b6,b9⟩:=h;have M:=hI b7;have a6:=hI i;have c3:=hI b6;have N:=hI hs;have c5:=hI b9.1;have n1:x.san<=1048576:=hs.1.1;clear b7 i b6 hs b9;have G:Below w.heap.size w (w.alloc (.cells #[.slice q x.san f,.slice E x.ldn j,.slice C x.bkn F] 27)):=zl bZ _;have bO:=heap_alloc_new w (.cells #[.slice q x.san f,.slice E x.ldn j,.slice C x.bkn F] 27);go_enter Tryz.func8,Tryz.ntmps8;go_wp2_with fail;generalize w.alloc (.cells #[.slice q x.san f,.slice E x.ldn j,.slice C x.bkn F] 27)=V0 at G bO ⊢;refine(QG q x.san f x.sa z _ n1 (M.out.below G)).mono ?_;rintro e V ⟨hr,g⟩;have Q:=zb bO g;have m:=zf G g;clear G bO g V0
 rcases hr with⟨hk,rfl⟩|⟨hk,rfl⟩
 case inr =>
  have HN:Hid (¬ (ql x/\zH x.sa z x.san<x.san)):=fun h=>by have:=h.2;omega
  clear hk;go_wp2;exact bodyPost_ret (v:=.tuple #[.slice none 0 0,.slice none 0 0,int i64 0,.bool false]) (by simp[results,Tryz.results8,go_sem]) rfl ⟨zgE HN.out,m⟩
 obtain⟨k,T⟩:∃ k,zH x.sa z x.san=k:=⟨_,rfl⟩;rw[T] at hk ⊢;have c6:=hI T;have a7:=hI hk;clear T hk;obtain⟨z0,z1,z2⟩:=ce3 Q;go_wp2_with fail;refine(zbh x q E C f j F _ N.out (M.out.below m) (a6.out.below m) (c3.out.below m) c5.out).mono ?_;rintro e P ⟨⟨t0,rfl,b8⟩,g⟩;have O:=hI b8;have b5:=zb Q g;have c:=zf m g;clear b8 m Q g z0 z1 z2
 cases t0 with
 | false =>
  have HN:Hid (¬ (ql x/\zH x.sa z x.san<x.san)):=fun h=>by have:=O.out.2 h.1;cases this
  go_wp2;exact bodyPost_ret (v:=.tuple #[.slice none 0 0,.slice none 0 0,int i64 0,.bool false]) (by simp[results,Tryz.results8,go_sem]) rfl ⟨zgE HN.out,c⟩
 | true =>
 have L:Hid (ql x):=O.out.1 rfl;clear O;have I:=a7.out;obtain⟨a,b,la,lc,ca,cc,rfl,f0,f1,f2,f3,f4,f5,f6,f7,U,S,c1,c0⟩:=M.out k I;obtain⟨s,J⟩:∃ s,s=x.sa k:=⟨_,rfl⟩;have K:=N.out.1.2 k I;rw[← J] at f0 f1 f2 f3 f4 f5 f6 f7 U S c1 c0 K;have d6:=hI J;have d:=World.block_lt_of_cell? w _ f0;obtain⟨D,hD,hJ⟩:=a6.out;have H:k<x.ldn:=by have:=L.out.2.1;omega
 obtain⟨n,lo,rfl,hc⟩:=hD k H;obtain⟨l,i⟩:∃ l,l=x.ld k:=⟨_,rfl⟩;have W:=N.out.2.1.2 k H;obtain⟨t,A,o,u,r,y,eC,a0,a5,Y,a2,Z,a3⟩:=hJ k H;rw[← i] at eC a0 a5 Y a2 Z a3 W;have c9:=hI i;have a1:n<w.heap.size:=World.block_lt_of_cell? w _ (hc 0 (by decide))
 have X:=L.out.2.2.2.1 k I;rw[← J,← i] at X;have HP:=hI X;have c7:=hI U;have c4:=hI S;have b0:Hid (qp w t l.stn l.st/\l.stn<=A):=⟨a0,a5.1⟩;have a8:Hid (qo w o l.ron l.ro/\l.ron<=u):=⟨Y,a2.1⟩;have a9:Hid (qx w r l.sen l.se/\l.sen<=y):=⟨Z,a3.1⟩;have c8:=hI W;have d7:Hid (s.la.n<=1048576/\s.ca.n<=1048576):=⟨K.2.2.1,K.2.2.2⟩;have KS:Hid (∀ w',Below P.heap.size P w'->(w'.cell? ⟨w.heap.size,0,none⟩=some (.slice (some ⟨a,b,none⟩) x.san f)/\w'.cell? ⟨w.heap.size,1,none⟩=some (.slice (some ⟨n,lo,none⟩) x.ldn j) /\
   w'.cell? ⟨a,b+k*8,none⟩=some (int i64 s.id)/\w'.cell? ⟨a,b+k*8+1,none⟩=some (.string s.fr)/\w'.cell? ⟨a,b+k*8+2,none⟩=some (.string s.dst)/\w'.cell? ⟨a,b+k*8+3,none⟩=some (int i64 s.dep)/\w'.cell? ⟨a,b+k*8+4,none⟩=some (int i64 s.arr)/\w'.cell? ⟨a,b+k*8+5,none⟩=some (.slice la s.la.n lc)/\w'.cell? ⟨a,b+k*8+6,none⟩=some (.slice ca s.ca.n cc)/\w'.cell? ⟨a,b+k*8+7,none⟩=some (int i64 s.most) /\
   w'.cell? ⟨n,lo+k*3,none⟩=some (.slice t l.stn A)/\w'.cell? ⟨n,lo+k*3+1,none⟩=some (.slice o l.ron u)/\w'.cell? ⟨n,lo+k*3+2,none⟩=some (.slice r l.sen y))):=fun w' h=>by
  have g2:=zb b5 h;have B:=zf c h;exact⟨za g2 0 _ rfl,za g2 1 _ rfl,(B.cell (p:=⟨a,b+k*8,none⟩) d).trans f0,(B.cell (p:=⟨a,b+k*8+1,none⟩) d).trans f1,(B.cell (p:=⟨a,b+k*8+2,none⟩) d).trans f2,(B.cell (p:=⟨a,b+k*8+3,none⟩) d).trans f3,(B.cell (p:=⟨a,b+k*8+4,none⟩) d).trans f4,(B.cell (p:=⟨a,b+k*8+5,none⟩) d).trans f5,(B.cell (p:=⟨a,b+k*8+6,none⟩) d).trans f6,(B.cell (p:=⟨a,b+k*8+7,none⟩) d).trans f7,
   (B.cell (p:=⟨n,lo+k*3,none⟩) a1).trans (by have:=hc 0 (by decide);rw[eC] at this;exact this),(B.cell (p:=⟨n,lo+k*3+1,none⟩) a1).trans (by have:=hc 1 (by decide);rw[eC] at this;exact this),(B.cell (p:=⟨n,lo+k*3+2,none⟩) a1).trans (by have:=hc 2 (by decide);rw[eC] at this;exact this)⟩
 have d9:(0:Int)<=(k:Int):=by omega
 have e0:(k:Int)<(x.ldn:Int):=by omega
 have e1:(k:Int)<(x.san:Int):=by omega
 clear X hD hJ hc eC J i f0 f1 f2 f3 f4 f5 f6 f7 U S c1 c0 a0 a5 Y a2 Z a3 W K H I;have HC:Hid (∀ w',Below P.heap.size P w'->Calls Tryz.prog 25 #[.agg #[int i64 s.id,.string s.fr,.string s.dst,int i64 s.dep,int i64 s.arr,.slice la s.la.n lc,.slice ca s.ca.n cc,int i64 s.most],.agg #[.slice t l.stn A,.slice o l.ron u,.slice r l.sen y]] w' fun e w2=>OnV s l w'.heap.size 3 e w2/\Below w'.heap.size w' w2):=fun w' h =>
  zhj s l la ca t o r lc cc A u y w' HP.out d7.out c8.out (c7.out.below (zf c h)) (c4.out.below (zf c h)) ⟨b0.out.1.below (zf c h),b0.out.2⟩ ⟨a8.out.1.below (zf c h),a8.out.2⟩ ⟨a9.out.1.below (zf c h),a9.out.2⟩
 go_upto_region 4 with fail;go_region_held3 (fun w'=>w'.cell? ⟨w.heap.size,0,none⟩=some (.slice (some ⟨a,b,none⟩) x.san f)/\w'.cell? ⟨w.heap.size,1,none⟩=some (.slice (some ⟨n,lo,none⟩) x.ldn j) /\
   w'.cell? ⟨a,b+k*8,none⟩=some (int i64 s.id)/\w'.cell? ⟨a,b+k*8+1,none⟩=some (.string s.fr)/\w'.cell? ⟨a,b+k*8+2,none⟩=some (.string s.dst)/\w'.cell? ⟨a,b+k*8+3,none⟩=some (int i64 s.dep)/\w'.cell? ⟨a,b+k*8+4,none⟩=some (int i64 s.arr)/\w'.cell? ⟨a,b+k*8+5,none⟩=some (.slice la s.la.n lc)/\w'.cell? ⟨a,b+k*8+6,none⟩=some (.slice ca s.ca.n cc)/\w'.cell? ⟨a,b+k*8+7,none⟩=some (int i64 s.most) /\
   w'.cell? ⟨n,lo+k*3,none⟩=some (.slice t l.stn A)/\w'.cell? ⟨n,lo+k*3+1,none⟩=some (.slice o l.ron u)/\w'.cell? ⟨n,lo+k*3+2,none⟩=some (.slice r l.sen y))
   ((refine KS.out _ ?_;exact(by repeat(first|exact bZ|refine Below.drew ?_|refine zf ?_ R|refine zl ?_ _))))
   (first|(go_at_call 25;refine Calls.mono (HC.out _ (by repeat(first|exact bZ|refine Below.drew ?_))) ?_;rintro e w9 ⟨⟨v1,v2,rfl,o1,o2,oa⟩,R⟩))
 have d8:Below w.heap.size w w9:=zf (zf c (Below.refl _ P).drew) R;have d0:Hid (w9.ownsRow w.heap.size 3 1 v1 s.la.n (zw (Zy s.la l.st l.stn) s.la.n)):=zC o1 (zf c (Below.refl _ P).drew).size;have d5:Hid (w9.ownsRow w.heap.size 3 1 v2 s.ca.n (zw (qk s.ca l.ro l.ron) s.ca.n)):=zC o2 (zf c (Below.refl _ P).drew).size;have c2:=hI oa;clear o1 o2 oa R KS HC c b5;go_wp2;exact bodyPost_ret (v:=.tuple #[v1,v2,int i64 (s.most - ZD l.se l.sen),.bool true]) (by simp[results,Tryz.results8,go_sem]) rfl ⟨leftV_yes L.out c6.out a7.out d6.out c9.out d0.out d5.out c2.out,d8⟩
end
theorem lawLegs (ao:Option Addr)(n c:Nat)(w:World)(hn:n<=1000000000000000)(hx:BytesAt w ao n) :
  Calls Tryz.prog 3 #[.slice ao n c] w fun e w'=>e=.returned (.bool true)/\Below w.heap.size w w':=by
 have HX:=hI hx;clear hx
 by_cases hsz:n<=1048576
 case neg =>
  have hd:decide ((1048576:Int)<(n:Int))=true:=by simp;omega
  go_enter Tryz.func3,Tryz.ntmps3;go_wp2;go_ret;exact⟨rfl,bZ⟩
 have hd:decide ((1048576:Int)<(n:Int))=false:=by simp;omega
 go_enter Tryz.func3,Tryz.ntmps3;go_wp2_with fail;refine(zfA ao n c w (by omega) HX.out).mono ?_
 rintro e w1 ⟨⟨x,a1,a2,a3,K,N,O,L,C,A,B,D,E,rfl,j1,j2,g8,e0⟩,b6⟩;have I:=hI e0.is;have HS:Hid (Off.Short x 1048576):=g8.up (by decide)
 clear e0 g8 L C A B D E hd HX;have e7:Below w1.heap.size w1 (w1.alloc (.cells #[.slice a1 x.san K,.slice a2 x.ldn N,.slice a3 x.bkn O] 27)):=zl bZ _;have J:=heap_alloc_new w1 (.cells #[.slice a1 x.san K,.slice a2 x.ldn N,.slice a3 x.bkn O] 27);replace I:=hI (I.out.below e7);have o:=zf b6 e7;clear e7 b6;go_upto_region 4 with fail;generalize w1.alloc (.cells #[.slice a1 x.san K,.slice a2 x.ldn N,.slice a3 x.bkn O] 27)=V at I J o ⊢;generalize w1.heap.size=ob at J ⊢;have z0:∀ G:zv V,G.val.cell? ⟨ob,0,none⟩=some (.slice a1 x.san K):=fun G=>za (zb J G.bel) 0 _ rfl
 have z1:∀ G:zv V,G.val.cell? ⟨ob,1,none⟩=some (.slice a2 x.ldn N):=fun G=>za (zb J G.bel) 1 _ rfl
 have z2:∀ G:zv V,G.val.cell? ⟨ob,2,none⟩=some (.slice a3 x.bkn O):=fun G=>za (zb J G.bel) 2 _ rfl
 obtain⟨t,ht⟩:∃ t:Bool,t=(open Classical in decide (ql x)):=⟨_,rfl⟩;have HT:=hI ht;clear ht;have g5:(t != t)=false:=by cases t <;> rfl
 refine zg (by kernel_rfl) (by kernel_rfl) ?_
 repeat(first|go_big_quiet_skip|(go_big_quiet_want;go_big_quiet_op;first|go_big_quiet_on|(apply Exists.intro;refine⟨fun g=>?_,?_⟩;(focus(go_at_call 5;refine zh (v:=.bool t) ((zdm [.slice a1 x.san K,.slice a2 x.ldn N,.slice a3 x.bkn O] x _ HS.out (I.out.below g.bel)).mono ?_);rw[HT.out];exact fun _ _ h=>h));go_big_quiet_on)|(apply Exists.intro;refine⟨fun g=>?_,?_⟩;(focus(go_at_call 6;refine zh (v:=.bool t) ((zaS [.slice a1 x.san K,.slice a2 x.ldn N,.slice a3 x.bkn O] x _ HS.out (I.out.below g.bel)).mono ?_);rw[HT.out];exact fun _ _ h=>h));go_big_quiet_on)))
 refine wpQuiet_nil ?_;rintro _ ⟨G,rfl⟩;replace I:=hI (I.out.below G.bel);replace J:=zb J G.bel;replace o:=zf o G.bel;clear z0 z1 z2;obtain⟨V1,g0⟩:∃ V1,V1=G.val:=⟨_,rfl⟩;rw[← g0] at I J o ⊢;clear g0 G V;obtain⟨q0,q1,q2⟩:=ce3 J;go_wp2_with fail;clear q0 q1 q2;refine(zaS [.slice a1 x.san K,.slice a2 x.ldn N,.slice a3 x.bkn O] x _ HS.out I.out).mono ?_;rintro e V ⟨rfl,d0⟩;rw[← HT.out];replace I:=hI (I.out.below d0);replace J:=zb J d0;replace o:=zf o d0;clear d0 V1 g5
 cases t with
 | false =>
  go_wp2;go_ret;exact⟨rfl,o⟩
 | true =>
 have HO:Hid (ql x):=@of_decide_eq_true (ql x) (Classical.propDecidable _) HT.out.symm;clear HT;have q0:=za J 0 _ rfl;go_wp2;clear q0;go_loopw [5,6,7,8,9,10,11,13,14,15,17,18,20,22,24,41] (fun _ _ _ _ _ _ _ _ _ _ _ _ _ _ _ q wr=>∃ i:Nat,i<=x.san/\q=int i64 i/\Below V.heap.size V wr) (fun _ _ _ _ _ _ _ _ _ _ _ _ _ _ _ q _=>x.san - (intOf q).toNat)
 case atStart=>exact⟨0,Nat.zero_le _,rfl,bZ⟩
 case round =>
  obtain⟨i,hi,rfl,a⟩:=hrel
  by_cases hlt:i<x.san
  ·obtain⟨_,_,_,_,_,_,a0,g7,_⟩:=I.out
   simp only[List.cons.injEq,Value.slice.injEq,true_and,and_true] at a0;obtain⟨⟨rfl,rfl⟩,⟨rfl,rfl⟩,rfl,rfl⟩:=a0;obtain⟨sb,so,la,lc,ca,cc,rfl,f0,f1,f2,f3,f4,f5,f6,f7,_⟩:=g7 i hlt;obtain⟨s,e9⟩:∃ s,s=x.sa i:=⟨_,rfl⟩;rw[← e9] at f0 f1 f2 f3 f4 f5 f6 f7;have f8:=hI e9;have H:=World.block_lt_of_cell? V _ f0;have c0:=(a.cell (p:=⟨sb,so+i*8,none⟩) H).trans f0;have K:=(a.cell (p:=⟨sb,so+i*8+1,none⟩) H).trans f1;have N:=(a.cell (p:=⟨sb,so+i*8+2,none⟩) H).trans f2;have O:=(a.cell (p:=⟨sb,so+i*8+3,none⟩) H).trans f3;have c4:=(a.cell (p:=⟨sb,so+i*8+4,none⟩) H).trans f4;have c5:=(a.cell (p:=⟨sb,so+i*8+5,none⟩) H).trans f5;have c6:=(a.cell (p:=⟨sb,so+i*8+6,none⟩) H).trans f6;have c7:=(a.cell (p:=⟨sb,so+i*8+7,none⟩) H).trans f7;clear f0 f1 f2 f3 f4 f5 f6 f7 g7 e9;have bS:=heap_alloc_new wr (.cells #[int i64 s.id,.string s.fr,.string s.dst,int i64 s.dep,int i64 s.arr,.slice la s.la.n lc,.slice ca s.ca.n cc,int i64 s.most] 33);have m:=zl a (.cells #[int i64 s.id,.string s.fr,.string s.dst,int i64 s.dep,int i64 s.arr,.slice la s.la.n lc,.slice ca s.ca.n cc,int i64 s.most] 33);go_upto_region 11 with fail;generalize wr.alloc (.cells #[int i64 s.id,.string s.fr,.string s.dst,int i64 s.dep,int i64 s.arr,.slice la s.la.n lc,.slice ca s.ca.n cc,int i64 s.most] 33)=Y at bS m ⊢;generalize wr.heap.size=sx at bS ⊢;clear c0 K N O c4 c5 c6 c7 a wr;have HL:Hid (LOk x s.id):=by show LOk x s.id;rw[f8.out];exact lOk_at HO.out hlt
   obtain⟨q0,q1,q2⟩:=ce3 (zb J m);have y0:=za bS 0 _ rfl;go_wp2_with fail;clear q0 q1 q2 y0;refine(zgr [.slice (some ⟨sb,so,none⟩) x.san K,.slice a2 x.ldn N,.slice a3 x.bkn O] x s.id _ HS.out (I.out.below m)).mono ?_;rintro e Y1 ⟨⟨rv,rfl,d7⟩,u⟩;rw[lOk_yes HL.out];obtain⟨M,hM⟩:∃ M,M=(zeJ x s.id).length:=⟨_,rfl⟩;obtain⟨F,hF⟩:∃ F,F=zbj (zeJ x s.id):=⟨_,rfl⟩;have HM:Hid (M=(zeJ x s.id).length/\F=zbj (zeJ x s.id)):=⟨hM,hF⟩;have i6:M<=30:=by rw[hM];exact manL_le x s.id
   rw[← hM,← hF] at d7;clear hM hF;obtain⟨ar,cr,rfl,_,_,_⟩:=zr d7;have HR:=hI (zgf d7);replace m:=zf m u;replace bS:=zb bS u;clear u d7;obtain⟨q0,q1,q2⟩:=ce3 (zb J m);have y0:=za bS 0 _ rfl;go_wp2_with fail;clear q0 q1 q2 y0;refine(zfL [.slice (some ⟨sb,so,none⟩) x.san K,.slice a2 x.ldn N,.slice a3 x.bkn O] x s.id _ HS.out (I.out.below m)).mono ?_;rintro e W ⟨⟨u1,u2,rfl,d5,d6,_⟩,u⟩;rw[lOk_yes HL.out];replace m:=zf m u;replace bS:=zb bS u;replace HR:=hI (HR.out.below u);clear u;obtain⟨P,hP⟩:∃ P,P=lM x s.id:=⟨_,rfl⟩;obtain⟨N1,b0⟩:∃ P,P=lN1 x s.id:=⟨_,rfl⟩;obtain⟨N2,b5⟩:∃ P,P=lN2 x s.id:=⟨_,rfl⟩;obtain⟨G1,e3⟩:∃ P,P=lF1 x s.id:=⟨_,rfl⟩;obtain⟨G2,e4⟩:∃ P,P=lF2 x s.id:=⟨_,rfl⟩;have g4:=left_ok HL.out;have b6:=lN1_le s.id HS.out;have g1:=lN2_le s.id HS.out;rw[← hP,← b0,← b5,← e3,← e4] at g4;rw[← b0,← e3] at d5;rw[← b5,← e4] at d6;rw[← b0] at b6;rw[← b5] at g1;rw[← hP];obtain⟨hp,g2,g3⟩:=g4;have h3:=hI g2;have h4:=hI g3;have dP:decide (P<0)=false:=by simpa using hp
   obtain⟨i7,i9,rfl,_,_,_⟩:=zr d5;obtain⟨i8,j0,rfl,_,_,_⟩:=zr d6;have h6:=hI (own_ints d5);have h9:=hI (own_ints d6);clear hP b0 b5 e3 e4 g2 g3 d5 d6 hp;have q2:=za (zb J m) 2 _ rfl;go_wp2;clear q2 dP;have HB:Hid (qK W a3 x.bkn x.bk):=by
    obtain⟨_,_,_,_,_,_,a0,_,_,_,_,i3,_⟩:=(I.out.below m);simp only[List.cons.injEq,Value.slice.injEq,true_and,and_true] at a0;obtain⟨⟨rfl,rfl⟩,⟨rfl,rfl⟩,rfl,rfl⟩:=a0;exact i3
   go_loopw [13,14,15,17,18,20,74] (fun _ _ _ _ _ _ q wr=>∃ j:Nat,j<=x.bkn/\q=int i64 j/\Below W.heap.size W wr) (fun _ _ _ _ _ _ q _=>x.bkn - (intOf q).toNat)
   case atStart=>exact⟨0,Nat.zero_le _,rfl,bZ⟩
   case round =>
    obtain⟨j,hj,rfl,a⟩:=hrel
    by_cases hlt2:j<x.bkn
    ·obtain⟨D,hD,hJ⟩:=HB.out
     obtain⟨d,l,rfl,R⟩:=hD j hlt2;obtain⟨b,b7⟩:∃ b,b=x.bk j:=⟨_,rfl⟩;obtain⟨a8,a9,Q,e6,h1⟩:=hJ j hlt2;rw[← b7] at Q e6 h1;have f9:Hid (onB b.lg s.id (decide (zaZ b)) b.lgn=fndB F b.name M):=by rw[HM.out.1,HM.out.2,f8.out,b7];exact legs_same HO.out hlt hlt2
     have h2:Hid (qi.Short b 1048576):=by rw[b7];exact HS.out.2.2.2 j hlt2
     have f:d<W.heap.size:=World.block_lt_of_cell? W _ (R 0 (by decide))
     have c0:wr.cell? ⟨d,l+j*13,none⟩=some (int i64 b.name):=(a.cell (p:=⟨d,l+j*13,none⟩) f).trans (by have:=R 0 (by decide);rw[Q] at this;exact this)
     have K:wr.cell? ⟨d,l+j*13+1,none⟩=some (int i64 b.who):=(a.cell (p:=⟨d,l+j*13+1,none⟩) f).trans (by have:=R 1 (by decide);rw[Q] at this;exact this)
     have N:wr.cell? ⟨d,l+j*13+2,none⟩=some (.string b.own):=(a.cell (p:=⟨d,l+j*13+2,none⟩) f).trans (by have:=R 2 (by decide);rw[Q] at this;exact this)
     have O:wr.cell? ⟨d,l+j*13+3,none⟩=some (.slice a8 b.lgn a9):=(a.cell (p:=⟨d,l+j*13+3,none⟩) f).trans (by have:=R 3 (by decide);rw[Q] at this;exact this)
     have c4:wr.cell? ⟨d,l+j*13+4,none⟩=some (int i64 b.pe):=(a.cell (p:=⟨d,l+j*13+4,none⟩) f).trans (by have:=R 4 (by decide);rw[Q] at this;exact this)
     have c5:wr.cell? ⟨d,l+j*13+5,none⟩=some (int i64 b.len):=(a.cell (p:=⟨d,l+j*13+5,none⟩) f).trans (by have:=R 5 (by decide);rw[Q] at this;exact this)
     have c6:wr.cell? ⟨d,l+j*13+6,none⟩=some (int i64 b.hei):=(a.cell (p:=⟨d,l+j*13+6,none⟩) f).trans (by have:=R 6 (by decide);rw[Q] at this;exact this)
     have c7:wr.cell? ⟨d,l+j*13+7,none⟩=some (int i64 b.cl):=(a.cell (p:=⟨d,l+j*13+7,none⟩) f).trans (by have:=R 7 (by decide);rw[Q] at this;exact this)
     have c8:wr.cell? ⟨d,l+j*13+8,none⟩=some (.bool b.all):=(a.cell (p:=⟨d,l+j*13+8,none⟩) f).trans (by have:=R 8 (by decide);rw[Q] at this;exact this)
     have c9:wr.cell? ⟨d,l+j*13+9,none⟩=some (int i64 b.be):=(a.cell (p:=⟨d,l+j*13+9,none⟩) f).trans (by have:=R 9 (by decide);rw[Q] at this;exact this)
     have i0:wr.cell? ⟨d,l+j*13+10,none⟩=some (int i64 b.state):=(a.cell (p:=⟨d,l+j*13+10,none⟩) f).trans (by have:=R 10 (by decide);rw[Q] at this;exact this)
     have i1:wr.cell? ⟨d,l+j*13+11,none⟩=some (int i64 b.unt):=(a.cell (p:=⟨d,l+j*13+11,none⟩) f).trans (by have:=R 11 (by decide);rw[Q] at this;exact this)
     have i2:wr.cell? ⟨d,l+j*13+12,none⟩=some (int i64 b.price):=(a.cell (p:=⟨d,l+j*13+12,none⟩) f).trans (by have:=R 12 (by decide);rw[Q] at this;exact this)
     have bB:=heap_alloc_new wr (.cells #[int i64 b.name,int i64 b.who,.string b.own,.slice a8 b.lgn a9,int i64 b.pe,int i64 b.len,int i64 b.hei,int i64 b.cl,.bool b.all,int i64 b.be,int i64 b.state,int i64 b.unt,int i64 b.price] 43);have S:=zl a (.cells #[int i64 b.name,int i64 b.who,.string b.own,.slice a8 b.lgn a9,int i64 b.pe,int i64 b.len,int i64 b.hei,int i64 b.cl,.bool b.all,int i64 b.be,int i64 b.state,int i64 b.unt,int i64 b.price] 43);have h5:=hI e6;clear hD hJ R Q b7 e6 h1;go_upto_region 18 with fail;generalize wr.alloc (.cells #[int i64 b.name,int i64 b.who,.string b.own,.slice a8 b.lgn a9,int i64 b.pe,int i64 b.len,int i64 b.hei,int i64 b.cl,.bool b.all,int i64 b.be,int i64 b.state,int i64 b.unt,int i64 b.price] 43)=Z at bB S ⊢;generalize wr.heap.size=bx at bB ⊢;clear c0 K N O c4 c5 c6 c7 c8 c9 i0 i1 i2 a wr;have i5:=za bB 10 _ rfl;go_cut [14] (fun i4 wc=>i4=.bool (decide (zaZ b))/\Below Z.heap.size Z wc)
     case first =>
      by_cases e1:b.state=1
      ·have z:decide (zaZ b)=true:=decide_eq_true (Or.inl e1)
       have d1:(b.state == 1)=true:=by simpa using e1
       go_wp2;go_meet;exact⟨by rw[z],bZ⟩
      ·have d1:(b.state == 1)=false:=by simpa using e1
       by_cases e2:b.state=2
       ·have z:decide (zaZ b)=true:=decide_eq_true (Or.inr e2)
        have d2:(b.state == 2)=true:=by simpa using e2
        go_wp2;go_meet;exact⟨by rw[z],bZ⟩
       ·have z:decide (zaZ b)=false:=decide_eq_false (fun h=>by rcases h with h|h;exact e1 h;exact e2 h)
        have d2:(b.state == 2)=false:=by simpa using e2
        go_wp2;go_meet;exact⟨by rw[z],bZ⟩
     case rest =>
     obtain⟨rfl,e5⟩:=hcut;replace bB:=zb bB e5;replace S:=zf S e5;clear i5 e5;obtain⟨lv,z⟩:∃ lv,lv=decide (zaZ b):=⟨_,rfl⟩;rw[← z] at f9 ⊢;clear z;have y3:=za bB 3 _ rfl;have n1:b.lgn<=1048576:=h2.out.2;go_wp2;clear y3;go_loopw [15,17,89] (fun on _ q w3=>∃ k:Nat,k<=b.lgn/\q=int i64 k/\on=.bool (onB b.lg s.id lv k)/\Below wc.heap.size wc w3) (fun _ _ q _=>b.lgn - (intOf q).toNat)
     case atStart=>exact⟨0,Nat.zero_le _,rfl,rfl,bZ⟩
     case round =>
      obtain⟨k,hk,rfl,rfl,a5⟩:=hrel;have U:=zf S a5
      by_cases hlt3:k<b.lgn
      ·obtain⟨gb,go,rfl,y⟩:=h5.out k hlt3
       have cg:=(U.cell (p:=⟨gb,go+k,none⟩) (World.block_lt_of_cell? W _ y)).trans y;have ys:=za (zb bS U) 0 _ rfl;have HN:Hid (onB b.lg s.id lv (k+1)=(onB b.lg s.id lv k || (b.lg k == s.id && lv))):=rfl
       obtain⟨on,g6⟩:∃ on,on=onB b.lg s.id lv k:=⟨_,rfl⟩;rw[← g6] at HN ⊢;clear g6
       cases on with
       | true =>
        go_wp2;go_roundw
        case rel=>exact⟨k+1,by omega,by go_num,by rw[HN.out];rfl,a5⟩
        case measure=>simp[intOf];omega
       | false =>
        by_cases ez:b.lg k=s.id
        ·have dz:(b.lg k == s.id)=true:=by simpa using ez
         go_wp2;go_roundw
         case rel=>exact⟨k+1,by omega,by go_num,by rw[HN.out,dz];simp,a5⟩
         case measure=>simp[intOf];omega
        ·have dz:(b.lg k == s.id)=false:=by simpa using ez
         go_wp2;go_roundw
         case rel=>exact⟨k+1,by omega,by go_num,by rw[HN.out,dz];simp,a5⟩
         case measure=>simp[intOf];omega
      ·obtain rfl:k=b.lgn:=by omega
       clear hlt3 hk;replace bB:=zb bB a5;rw[f9.out];go_wp2;go_loopw [18,20,106] (fun fd _ q w4=>∃ k:Nat,k<=M/\q=int i64 k/\fd=.bool (fndB F b.name k)/\Below wr.heap.size wr w4) (fun _ _ q _=>M - (intOf q).toNat)
       case atStart=>exact⟨0,Nat.zero_le _,rfl,rfl,bZ⟩
       case round =>
        obtain⟨k,hk,rfl,rfl,b8⟩:=hrel
        by_cases hlt4:k<M
        ·obtain⟨rb,ro,rfl,r0,r1,r2,r3,r4⟩:=HR.out k hlt4
         obtain⟨r,e8⟩:∃ r,r=F k:=⟨_,rfl⟩;rw[← e8] at r0 r1 r2 r3 r4;have HN:Hid (fndB F b.name (k+1)=(fndB F b.name k || r.name == b.name)):=by rw[e8];rfl
         have a7:=World.block_lt_of_cell? W _ r0;have X:=zf U b8;have c0:=(X.cell (p:=⟨rb,ro+k*5,none⟩) a7).trans r0;have K:=(X.cell (p:=⟨rb,ro+k*5+1,none⟩) a7).trans r1;have N:=(X.cell (p:=⟨rb,ro+k*5+2,none⟩) a7).trans r2;have O:=(X.cell (p:=⟨rb,ro+k*5+3,none⟩) a7).trans r3;have c4:=(X.cell (p:=⟨rb,ro+k*5+4,none⟩) a7).trans r4;clear r0 r1 r2 r3 r4 e8;have bT:=heap_alloc_new wr (.cells #[int i64 r.name,.string r.own,int i64 r.pe,int i64 r.ln,int i64 r.cab] 45);have b9:=zl b8 (.cells #[int i64 r.name,.string r.own,int i64 r.pe,int i64 r.ln,int i64 r.cab] 45);go_upto_region 29 with fail;generalize wr.alloc (.cells #[int i64 r.name,.string r.own,int i64 r.pe,int i64 r.ln,int i64 r.cab] 45)=T at bT b9 ⊢;generalize wr.heap.size=tx at bT ⊢;clear c0 K N O c4 b8 X wr;have yb:=za (zb bB b9) 0 _ rfl;have yt:=za bT 0 _ rfl;obtain⟨fd,a6⟩:∃ fd,fd=fndB F b.name k:=⟨_,rfl⟩;rw[← a6] at HN ⊢;clear a6
         cases fd with
         | true =>
          go_wp2;go_roundw
          case rel=>exact⟨k+1,by omega,by go_num,by rw[HN.out];rfl,b9⟩
          case measure=>simp[intOf];omega
         | false =>
          go_wp2;go_roundw
          case rel=>exact⟨k+1,by omega,by go_num,by rw[HN.out];rfl,b9⟩
          case measure=>simp[intOf];omega
        ·obtain rfl:k=M:=by omega
         clear hlt4 hk;obtain⟨fd,a6⟩:∃ fd,fd=fndB F b.name k:=⟨_,rfl⟩;rw[← a6];clear a6;have g5:(fd != fd)=false:=by cases fd <;> rfl
         go_wp2;go_roundw
         case rel=>exact⟨j+1,by omega,by go_num,zf U b8⟩
         case measure=>simp[intOf];omega
    ·obtain rfl:j=x.bkn:=by omega
     clear hlt2 hj;go_wp2;go_loopw [22,125] (fun _ q w5=>∃ k:Nat,k<=N1/\q=int i64 k/\Below wr.heap.size wr w5) (fun _ q _=>N1 - (intOf q).toNat)
     case atStart=>exact⟨0,Nat.zero_le _,rfl,bZ⟩
     case round =>
      obtain⟨k,hk,rfl,g9⟩:=hrel;have d8:=zf a g9
      by_cases hlt5:k<N1
      ·obtain⟨gb,go,rfl,y⟩:=h6.out k hlt5
       have cg:=(d8.cell (p:=⟨gb,go+k,none⟩) (World.block_lt_of_cell? W _ y)).trans y;have dg:decide (G1 k<0)=false:=by simpa using h3.out k hlt5
       go_wp2;go_roundw
       case rel=>exact⟨k+1,by omega,by go_num,g9⟩
       case measure=>simp[intOf];omega
      ·obtain rfl:k=N1:=by omega
       clear hlt5 hk;go_wp2;go_loopw [24,134] (fun _ q w6=>∃ k:Nat,k<=N2/\q=int i64 k/\Below wr.heap.size wr w6) (fun _ q _=>N2 - (intOf q).toNat)
       case atStart=>exact⟨0,Nat.zero_le _,rfl,bZ⟩
       case round =>
        obtain⟨k,hk,rfl,h0⟩:=hrel;have d9:=zf d8 h0
        by_cases hlt5:k<N2
        ·obtain⟨gb,go,rfl,y⟩:=h9.out k hlt5
         have cg:=(d9.cell (p:=⟨gb,go+k,none⟩) (World.block_lt_of_cell? W _ y)).trans y;have dg:decide (G2 k<0)=false:=by simpa using h4.out k hlt5
         go_wp2;go_roundw
         case rel=>exact⟨k+1,by omega,by go_num,h0⟩
         case measure=>simp[intOf];omega
        ·obtain rfl:k=N2:=by omega
         clear hlt5 hk;go_wp2;go_roundw
         case rel=>exact⟨i+1,by omega,by go_num,zf m d9⟩
         case measure=>simp[intOf];omega
  ·obtain rfl:i=x.san:=by omega
   clear hlt hi;go_wp2;go_ret;exact⟨rfl,zf o a⟩
end Go.Proofs.YtgmdnkngnhkgbaaGreat
