import Derived.Test.YtgmdnkngnhkgbaaGreatB48
namespace Go.Proofs.YtgmdnkngnhkgbaaGreat
open Go.RowKit
open Go.Value (int)
open Go.IntKind (i64)
set_option maxHeartbeats 64000000
set_option maxRecDepth 1000000
theorem curX_newV {w:World}{a:Option Addr}{n c:Nat}(h:BytesAt w a n):CurX (w.alloc (.cells #[.slice a n c,int i64 0,.int .u64 0] 72)) w.heap.size a n c 0 :=
 ⟨0,0,Nat.le_refl _,heap_alloc_new w _,(cur_new (c:=c) h).2⟩
def DrewV (w:World)(e:Ending)(w':World):Prop :=
 (∃ (x:Off) (a b c:Option Addr) (d f g:Nat) (L C A B D E:Nat->Value),e=.returned (.agg #[.slice a x.san d,.slice b x.ldn f,.slice c x.bkn g])/\x.san<=7/\x.bkn<=31/\Off.Short x 1001/\zy w' w.heap.size (.slice a x.san d) (.slice b x.ldn f) (.slice c x.bkn g) x.san x.ldn x.bkn x L C A B D E)/\Below w.heap.size w w'
theorem zgA {w u:World}{base:Nat}{x:Off}{f g h:Option Addr}{j k l:Nat}{L C A B D E:Nat->Value}(m:Below w.heap.size w u)(i:u.heap[w.heap.size]?=some (.cells #[.slice none 0 0,.slice none 0 0,.slice none 0 0] 27 (0,0)))(hl:w.heap.size<=base)
  (n:zy u base (.slice f x.san j) (.slice g x.ldn k) (.slice h x.bkn l) x.san x.ldn x.bkn x L C A B D E) (c d e:Value) :
  Below w.heap.size w (((u.setCell ⟨w.heap.size,0,none⟩ c).setCell ⟨w.heap.size,1,none⟩ d).setCell ⟨w.heap.size,2,none⟩ e)/\(((u.setCell ⟨w.heap.size,0,none⟩ c).setCell ⟨w.heap.size,1,none⟩ d).setCell ⟨w.heap.size,2,none⟩ e).heap[w.heap.size]?=some (.cells #[c,d,e] 27 (0,0)) /\
   zy (((u.setCell ⟨w.heap.size,0,none⟩ c).setCell ⟨w.heap.size,1,none⟩ d).setCell ⟨w.heap.size,2,none⟩ e) w.heap.size (.slice f x.san j) (.slice g x.ldn k) (.slice h x.bkn l) x.san x.ldn x.bkn x L C A B D E :=
 ⟨((m.setCell (p:=⟨w.heap.size,0,none⟩) (Nat.le_refl _) _).setCell (p:=⟨w.heap.size,1,none⟩) (Nat.le_refl _) _).setCell (p:=⟨w.heap.size,2,none⟩) (Nat.le_refl _) _,zdE i _ _ _,(n.lower hl).box ((((zA.refl u (fun b=>b=w.heap.size)).set (a:=⟨w.heap.size,0,none⟩) rfl _).set (a:=⟨w.heap.size,1,none⟩) rfl _).set (a:=⟨w.heap.size,2,none⟩) rfl _) i (by decide)⟩
theorem zbB (f:Option Addr)(n c:Nat)(w:World)(hn:n<=1048576)(h:BytesAt w f n) :
  Calls Tryz.prog 9 #[.slice f n c] w fun e w'=>DrewV w e w':=by
 have b:Below w.heap.size w (w.alloc (.cells #[.slice none 0 0,.slice none 0 0,.slice none 0 0] 27)):=zl bZ _;have u:=heap_alloc_new w (.cells #[.slice none 0 0,.slice none 0 0,.slice none 0 0] 27);have l:(w.alloc (.cells #[.slice none 0 0,.slice none 0 0,.slice none 0 0] 27)).heap.size=w.heap.size+1:=by simp
 have J:=h.below b;go_enter Tryz.func9,Tryz.ntmps9;go_wp2_with fail;generalize w.alloc (.cells #[.slice none 0 0,.slice none 0 0,.slice none 0 0] 27)=V at b u l J ⊢;have a:=curX_newV (c:=c) J;have d:Below V.heap.size V (V.alloc (.cells #[.slice f n c,int i64 0,.int .u64 0] 72)):=zl bZ _;have g:=zb u d;have M:(V.alloc (.cells #[.slice f n c,int i64 0,.int .u64 0] 72)).heap.size=w.heap.size+1+1:=by simp[l]
 rw[l] at a;generalize V.alloc (.cells #[.slice f n c,int i64 0,.int .u64 0] 72)=Q at a d g M ⊢;have p:=zf b d;have o:Hid (CodeLow Q f n):=a.is.code_lt;refine(zgX (w.heap.size+1) f n c 0 Q (by omega) hn (by omega) o a).mono ?_
 rintro e T ⟨⟨x,r,s,t,y,z,F,L,C,A,B,D,E,rfl,N,O,P,R⟩,K,j⟩;have i:=j.blk g (by omega)
 have m:Below w.heap.size w T:=zA.below p (by omega) j (fun k e=>by have e:k=w.heap.size+1:=e;omega)
 have q:Hid _:=zgA m i (by omega) R (.slice r x.san y) (.slice s x.ldn z) (.slice t x.bkn F)
 clear R u g a d o b p J K j m;obtain⟨S,m1,m2⟩:=ce3 i;obtain⟨G,H,I⟩:=fe3 i;go_wp2;clear S G m1 H m2 I;obtain⟨U,W,X⟩:=ce3 q.out.2.1;exact bodyPost_ret (v:=.agg #[.slice r x.san y,.slice s x.ldn z,.slice t x.bkn F]) (by simp[results,Tryz.results9,go_sem,U,W,X]) rfl ⟨⟨x,r,s,t,y,z,F,L,C,A,B,D,E,rfl,N,O,P,q.out.2.2⟩,q.out.1⟩
theorem zfA (k:Option Addr)(n c:Nat)(w:World)(hn:n<=1048576)(h:BytesAt w k n) :
  Calls Tryz.prog 4 #[.slice k n c] w fun e w'=>DrewV w e w':=by
 have a:Below w.heap.size w (w.alloc (.cells #[.slice none 0 0,.slice none 0 0,.slice none 0 0] 27)):=zl bZ _;have l:=heap_alloc_new w (.cells #[.slice none 0 0,.slice none 0 0,.slice none 0 0] 27);have t:=h.below a;go_enter Tryz.func4,Tryz.ntmps4;go_wp2_with fail;generalize w.alloc (.cells #[.slice none 0 0,.slice none 0 0,.slice none 0 0] 27)=V at a l t ⊢;refine(zbB k n c V hn t).mono ?_;rintro e w1 ⟨⟨x,g,i,j,m,o,p,L,C,A,B,D,E,rfl,u,y,z,F⟩,d⟩;have b:=zb l d;have f:Hid _:=zgA (zf a d) b a.size F (.slice g x.san m) (.slice i x.ldn o) (.slice j x.bkn p);clear F l a t d;obtain⟨G,m1,m2⟩:=ce3 b;obtain⟨q,r,s⟩:=fe3 b;go_wp2;clear G q m1 r m2 s;obtain⟨H,I,J⟩:=ce3 f.out.2.1;exact bodyPost_ret (v:=.agg #[.slice g x.san m,.slice i x.ldn o,.slice j x.bkn p]) (by simp[results,Tryz.results4,go_sem,H,I,J]) rfl ⟨⟨x,g,i,j,m,o,p,L,C,A,B,D,E,rfl,u,y,z,f.out.2.2⟩,f.out.1⟩
theorem zdm (cs:List Value)(x:Off)(w:World)(n:Off.Short x 1048576)(h:Off.Is w cs x) :
  Calls Tryz.prog 5 #[.agg cs.toArray] w fun e w'=>e=.returned (.bool (decide (ql x)))/\Below w.heap.size w w':=by
 obtain⟨f,j,d,i,c,g,rfl,k,s1,l,s2,m,o⟩:=h;exact(zbh x f d c j i g w n k l m o.1).mono fun _ _ ⟨a,b⟩=>⟨zcT a,b⟩
section
open Go.RowKit Classical
theorem manU_yes {x:Off}{z:Int}{k base d:Nat}{v:Value}{w:World}(e:ql x)(b:zH x.sa z x.san=k)(a:k<x.san)(h:w.ownsRow base d 5 v (q9 (x.ld k) x.bk (x.sa k).id x.bkn).length (qC (zbj (q9 (x.ld k) x.bk (x.sa k).id x.bkn)) (q9 (x.ld k) x.bk (x.sa k).id x.bkn).length)) :
  ManU x z base d (.returned (.tuple #[v,.bool true])) w:=by
 have hl:LOk x z:=⟨e,by rw[b];exact a⟩
 have c:(x.sa k).id=z:=by rw[← b];exact QW x.sa z x.san (by rw[b];exact a)
 refine⟨v,by unfold lOk;simp[hl],?_⟩
 unfold zeJ;rw[if_pos hl,b];rw[c] at h;exact h
theorem zgr (cs:List Value)(x:Off)(z:Int)(w:World)(L:Off.Short x 1048576)(h:Off.Is w cs x) :
  Calls Tryz.prog 7 #[.agg cs.toArray,int i64 z] w fun e w'=>ManU x z w.heap.size 45 e w'/\Below w.heap.size w w':=by
 obtain⟨b,g,d,l,c,f,rfl,E,_,D,_,B,G⟩:=h;have p:Hid (SailsAt w b x.san x.sa):=E;have u:Hid (Zw w d x.ldn x.ld):=D;have t:Hid (qK w c x.bkn x.bk):=B;have y:Hid (Off.Short x 1048576):=L;have H:Hid (x.bkn<=f):=G.1;have U:x.san<=1048576:=L.1.1;clear E D B L G;have n:Below w.heap.size w (w.alloc (.cells #[.slice b x.san g,.slice d x.ldn l,.slice c x.bkn f] 27)):=zl bZ _;have K:=heap_alloc_new w (.cells #[.slice b x.san g,.slice d x.ldn l,.slice c x.bkn f] 27);go_enter Tryz.func7,Tryz.ntmps7;go_wp2_with fail;generalize w.alloc (.cells #[.slice b x.san g,.slice d x.ldn l,.slice c x.bkn f] 27)=S at n K ⊢;refine(QG b x.san g x.sa z _ U (p.out.below n)).mono ?_;rintro e V ⟨T,a⟩;have r:=zb K a;have i:=zf n a;clear n K a S
 rcases T with⟨C,rfl⟩|⟨C,rfl⟩
 case inr =>
  have J:Hid (¬ (ql x/\zH x.sa z x.san<x.san)):=fun h=>by have:=h.2;omega
  clear C;go_wp2;exact bodyPost_ret (v:=.tuple #[.slice none 0 0,.bool false]) (by simp[results,Tryz.results7,go_sem]) rfl ⟨manU_no J.out,i⟩
 obtain⟨k,s⟩:∃ k,zH x.sa z x.san=k:=⟨_,rfl⟩;rw[s] at C ⊢;have I:Hid (zH x.sa z x.san=k):=s;have o:Hid (k<x.san):=C;clear s C;obtain⟨M,N,O⟩:=ce3 r;go_wp2_with fail;refine(zbh x b d c g l f _ y.out (p.out.below i) (u.out.below i) (t.out.below i) H.out).mono ?_;rintro e V2 ⟨⟨Q,rfl,F⟩,a⟩;have q:Hid (Q=true↔ql x):=F;have A:=zb r a;have j:=zf i a;clear F i r a M N O
 cases Q with
 | false =>
  have J:Hid (¬ (ql x/\zH x.sa z x.san<x.san)):=fun h=>by have:=q.out.2 h.1;cases this
  go_wp2;exact bodyPost_ret (v:=.tuple #[.slice none 0 0,.bool false]) (by simp[results,Tryz.results7,go_sem]) rfl ⟨manU_no J.out,j⟩
 | true =>
 have m:Hid (ql x):=q.out.1 rfl;clear q;obtain⟨M,N,O⟩:=ce3 A;go_wp2_with fail;refine(zhg x b d c g l f k _ y.out (p.out.below j) (u.out.below j) (t.out.below j) m.out.2.2.1 o.out m.out.2.1 (m.out.2.2.2.1 k o.out)).mono ?_;rintro e V3 ⟨⟨v,rfl,P⟩,a⟩;have R:Hid _:=P;clear M N O A P;go_wp2;exact bodyPost_ret (v:=.tuple #[v,.bool true]) (by simp[results,Tryz.results7,go_sem]) rfl ⟨manU_yes m.out I.out o.out (zC R.out j.size),zf j a⟩
end
section
open Go.RowKit Classical
def OnV (s:Sail)(l:qm)(base a:Nat)(e:Ending)(w:World):Prop :=
 ∃ v1 v2,e=.returned (.tuple #[v1,v2,int i64 (s.most - ZD l.se l.sen)])/\w.ownsRow base a 1 v1 s.la.n (zw (Zy s.la l.st l.stn) s.la.n)/\w.ownsRow base a 1 v2 s.ca.n (zw (qk s.ca l.ro l.ron) s.ca.n)/\∀ b,v1.ownBlock=some b->v2.ownBlock≠some b
theorem zhj (s:Sail)(l:qm)(la ca i f g:Option Addr)(z x m j k:Nat)(w:World)(hp:zV s l)(N:s.la.n<=1048576/\s.ca.n<=1048576)(K:qm.Short l 1048576)(J:zT w la s.la)(I:zT w ca s.ca)
  (O:qp w i l.stn l.st/\l.stn<=m) (L:qo w f l.ron l.ro/\l.ron<=j) (M:qx w g l.sen l.se/\l.sen<=k) :
  Calls Tryz.prog 25 #[.agg #[int i64 s.id,.string s.fr,.string s.dst,int i64 s.dep,int i64 s.arr,.slice la s.la.n z,.slice ca s.ca.n x,int i64 s.most],.agg #[.slice i l.stn m,.slice f l.ron j,.slice g l.sen k]] w fun e w'=>OnV s l w.heap.size 3 e w'/\Below w.heap.size w w':=by
 have A:Hid (zV s l):=hp;have D:Hid (s.la.n<=1048576/\s.ca.n<=1048576):=N;have q:Hid (qm.Short l 1048576):=K;have T:Hid (zT w la s.la):=J;have S:Hid (zT w ca s.ca):=I;have E:Hid (qp w i l.stn l.st/\l.stn<=m):=O;have B:Hid (qo w f l.ron l.ro/\l.ron<=j):=L;have C:Hid (qx w g l.sen l.se/\l.sen<=k):=M;clear hp N K J I O L M;have n:Below w.heap.size w ((w.alloc (.cells #[int i64 s.id,.string s.fr,.string s.dst,int i64 s.dep,int i64 s.arr,.slice la s.la.n z,.slice ca s.ca.n x,int i64 s.most] 33)).alloc (.cells #[.slice i l.stn m,.slice f l.ron j,.slice g l.sen k] 55)):=zl (zl bZ _) _;have Y:((w.alloc (.cells #[int i64 s.id,.string s.fr,.string s.dst,int i64 s.dep,int i64 s.arr,.slice la s.la.n z,.slice ca s.ca.n x,int i64 s.most] 33)).alloc (.cells #[.slice i l.stn m,.slice f l.ron j,.slice g l.sen k] 55)).heap[w.heap.size]?=some (.cells #[int i64 s.id,.string s.fr,.string s.dst,int i64 s.dep,int i64 s.arr,.slice la s.la.n z,.slice ca s.ca.n x,int i64 s.most] 33 (0,0)):=zc (heap_alloc_new w _) _;have X:((w.alloc (.cells #[int i64 s.id,.string s.fr,.string s.dst,int i64 s.dep,int i64 s.arr,.slice la s.la.n z,.slice ca s.ca.n x,int i64 s.most] 33)).alloc (.cells #[.slice i l.stn m,.slice f l.ron j,.slice g l.sen k] 55)).heap[w.heap.size+1]?=some (.cells #[.slice i l.stn m,.slice f l.ron j,.slice g l.sen k] 55 (0,0)):=by simpa using heap_alloc_new (w.alloc _) _
 go_enter Tryz.func25,Tryz.ntmps25;go_wp2_with fail;generalize (w.alloc (.cells #[int i64 s.id,.string s.fr,.string s.dst,int i64 s.dep,int i64 s.arr,.slice la s.la.n z,.slice ca s.ca.n x,int i64 s.most] 33)).alloc (.cells #[.slice i l.stn m,.slice f l.ron j,.slice g l.sen k] 55)=V at n Y X ⊢;refine(zfK la i s.la.n z l.stn m s.la l.st _ rfl D.out.1 q.out.1 E.out.2 (T.out.below n) (E.out.1.below n)).mono ?_;rintro e W1 ⟨⟨P,rfl,y⟩,d⟩;rw[zdd ((Zd _ _ _).1 A.out.1)] at y;rw[zbW ((Zd _ _ _).1 A.out.1)];have r:Hid (W1.ownsRow w.heap.size 3 1 P s.la.n (zw (Zy s.la l.st l.stn) s.la.n)):=zC y n.size;have u:=zb Y d;have t:=zb X d;have o:=zf n d;clear Y X n d y;have s6:=za u 6 _ rfl;have l1:=za t 1 _ rfl;go_wp2_with fail;refine(zdl ca f s.ca.n x l.ron j s.ca l.ro _ rfl D.out.2 q.out.2.1 B.out.2 (S.out.below o) (B.out.1.below o)).mono ?_;rintro e W2 ⟨⟨Q,rfl,p⟩,d⟩;rw[zbq A.out.2.1] at p;rw[zaX A.out.2.1];have U:Hid (W2.ownsRow w.heap.size 3 1 Q s.ca.n (zw (qk s.ca l.ro l.ron) s.ca.n)):=zC p o.size;have R:Hid (∀ b,P.ownBlock=some b->Q.ownBlock≠some b):=fun b h1 h2=>by
  have a:=(r.out.lt b h1).2;have c:=(p.lt b h2).1
  omega
 have W:Hid (W2.ownsRow w.heap.size 3 1 P s.la.n (zw (Zy s.la l.st l.stn) s.la.n)):=zp d r.out;have G:=zb u d;have F:=zb t d;have H:=zf o d;clear u t o d s6 l1 p r;have s7:=za G 7 _ rfl;have l2:=za F 2 _ rfl;go_wp2_with fail;refine(zbH s.most g l.sen k l.se _ (by have:=q.out.2.2;omega) C.out.2 (C.out.1.below H)).mono ?_
 rintro e W3 ⟨he,d⟩;have Z:e=.returned (.tuple #[int i64 (s.most - ZD l.se l.sen),.bool true]):=by
  rcases he with⟨_,rfl⟩|⟨h,_⟩
  ·rfl
  ·exact absurd A.out.2.2 h
 subst Z;clear he s7 l2 G F;go_wp2;exact bodyPost_ret (v:=.tuple #[P,Q,int i64 (s.most - ZD l.se l.sen)]) (by simp[results,Tryz.results25,go_sem]) rfl ⟨⟨P,Q,rfl,zp d W.out,zp d U.out,R.out⟩,zf H d⟩
end
section
open Go.RowKit Classical
theorem zgE {x:Off}{z:Int}{base c:Nat}{w:World}(h:¬ (ql x/\zH x.sa z x.san<x.san)):LeftV x z base c (.returned (.tuple #[.slice none 0 0,.slice none 0 0,int i64 0,.bool false])) w:=by
 have hl:¬ LOk x z:=h;refine⟨.slice none 0 0,.slice none 0 0,?_,?_,?_,?_⟩
 ·unfold lM lOk;rw[if_neg hl];simp[hl]
 ·unfold lN1;rw[if_neg hl];exact own_nil _ _ _ _
 ·unfold lN2;rw[if_neg hl];exact own_nil _ _ _ _
 ·intro b a;simp[Value.ownBlock] at a
theorem leftV_yes {x:Off}{z:Int}{k base g:Nat}{d e:Value}{w:World}{s:Sail}{l:qm}(m:ql x)(c:zH x.sa z x.san=k)(f:k<x.san)(n:s=x.sa k)(hl:l=x.ld k)
  (h:w.ownsRow base g 1 d s.la.n (zw (Zy s.la l.st l.stn) s.la.n)) (i:w.ownsRow base g 1 e s.ca.n (zw (qk s.ca l.ro l.ron) s.ca.n)) (j:∀ b,d.ownBlock=some b->e.ownBlock≠some b) :
  LeftV x z base g (.returned (.tuple #[d,e,int i64 (s.most - ZD l.se l.sen),.bool true])) w:=by
 have a:LOk x z:=⟨m,by rw[c];exact f⟩
 subst n;subst hl;refine⟨d,e,?_,?_,?_,j⟩
 ·unfold lM lOk;rw[if_pos a,c];simp[a]
 ·unfold lN1 lF1;rw[if_pos a,c];exact h
 ·unfold lN2 lF2;rw[if_pos a,c];exact i
theorem zfL (cs:List Value)(x:Off)(z:Int)(w:World)(hs:Off.Short x 1048576)(h:Off.Is w cs x) :
  Calls Tryz.prog 8 #[.agg cs.toArray,int i64 z] w fun e w'=>LeftV x z w.heap.size 3 e w'/\Below w.heap.size w w':=by
 obtain⟨m,g,t,n,r,B,rfl,b8,_,j,_,b7,c0⟩:=h;have N:Hid (SailsAt w m x.san x.sa):=b8;have a7:Hid (Zw w t x.ldn x.ld):=j;have c4:Hid (qK w r x.bkn x.bk):=b7;have O:Hid (Off.Short x 1048576):=hs;have c6:Hid (x.bkn<=B):=c0.1;have n1:x.san<=1048576:=hs.1.1;clear b8 j b7 hs c0;have H:Below w.heap.size w (w.alloc (.cells #[.slice m x.san g,.slice t x.ldn n,.slice r x.bkn B] 27)):=zl bZ _;have bO:=heap_alloc_new w (.cells #[.slice m x.san g,.slice t x.ldn n,.slice r x.bkn B] 27);go_enter Tryz.func8,Tryz.ntmps8;go_wp2_with fail;generalize w.alloc (.cells #[.slice m x.san g,.slice t x.ldn n,.slice r x.bkn B] 27)=V0 at H bO ⊢;refine(QG m x.san g x.sa z _ n1 (N.out.below H)).mono ?_;rintro e V ⟨hr,i⟩;have R:=zb bO i;have o:=zf H i;clear H bO i V0
 rcases hr with⟨hk,rfl⟩|⟨hk,rfl⟩
 case inr =>
  have HN:Hid (¬ (ql x/\zH x.sa z x.san<x.san)):=fun h=>by have:=h.2;omega
  clear hk;go_wp2;exact bodyPost_ret (v:=.tuple #[.slice none 0 0,.slice none 0 0,int i64 0,.bool false]) (by simp[results,Tryz.results8,go_sem]) rfl ⟨zgE HN.out,o⟩
 obtain⟨k,U⟩:∃ k,zH x.sa z x.san=k:=⟨_,rfl⟩;rw[U] at hk ⊢;have c7:Hid (zH x.sa z x.san=k):=U;have a8:Hid (k<x.san):=hk;clear U hk;obtain⟨z0,z1,z2⟩:=ce3 R;go_wp2_with fail;refine(zbh x m t r g n B _ O.out (N.out.below o) (a7.out.below o) (c4.out.below o) c6.out).mono ?_;rintro e Q ⟨⟨t0,rfl,b9⟩,i⟩;have P:Hid (t0=true↔ql x):=b9;have b6:=zb R i;have d:=zf o i;clear b9 o R i z0 z1 z2
 cases t0 with
 | false =>
  have HN:Hid (¬ (ql x/\zH x.sa z x.san<x.san)):=fun h=>by have:=P.out.2 h.1;cases this
  go_wp2;exact bodyPost_ret (v:=.tuple #[.slice none 0 0,.slice none 0 0,int i64 0,.bool false]) (by simp[results,Tryz.results8,go_sem]) rfl ⟨zgE HN.out,d⟩
 | true =>
 have M:Hid (ql x):=P.out.1 rfl;clear P;have J:=a8.out;obtain⟨a,c,la,lc,ca,cc,rfl,f0,f1,f2,f3,f4,f5,f6,f7,W,T,c2,c1⟩:=N.out k J;obtain⟨s,K⟩:∃ s,s=x.sa k:=⟨_,rfl⟩;have L:=O.out.1.2 k J;rw[← K] at f0 f1 f2 f3 f4 f5 f6 f7 W T c2 c1 L;have d7:Hid (s=x.sa k):=K;have f:=World.block_lt_of_cell? w _ f0;obtain⟨D,hD,hJ⟩:=a7.out;have I:k<x.ldn:=by have:=M.out.2.1;omega
 obtain⟨q,lo,rfl,hc⟩:=hD k I;obtain⟨l,j⟩:∃ l,l=x.ld k:=⟨_,rfl⟩;have X:=O.out.2.1.2 k I;obtain⟨A,F,u,C,y,E,eC,a1,a6,Z,a3,a0,a5⟩:=hJ k I;rw[← j] at eC a1 a6 Z a3 a0 a5 X;have d0:Hid (l=x.ld k):=j;have a2:q<w.heap.size:=World.block_lt_of_cell? w _ (hc 0 (by decide))
 have Y:=M.out.2.2.2.1 k J;rw[← K,← j] at Y;have HP:Hid (zV s l):=Y;have c8:Hid (zT w la s.la):=W;have c5:Hid (zT w ca s.ca):=T;have b5:Hid (qp w A l.stn l.st/\l.stn<=F):=⟨a1,a6.1⟩;have a9:Hid (qo w u l.ron l.ro/\l.ron<=C):=⟨Z,a3.1⟩;have b0:Hid (qx w y l.sen l.se/\l.sen<=E):=⟨a0,a5.1⟩;have c9:Hid (qm.Short l 1048576):=X;have d8:Hid (s.la.n<=1048576/\s.ca.n<=1048576):=⟨L.2.2.1,L.2.2.2⟩;have KS:Hid (∀ w',Below Q.heap.size Q w'->(w'.cell? ⟨w.heap.size,0,none⟩=some (.slice (some ⟨a,c,none⟩) x.san g)/\w'.cell? ⟨w.heap.size,1,none⟩=some (.slice (some ⟨q,lo,none⟩) x.ldn n) /\
   w'.cell? ⟨a,c+k*8,none⟩=some (int i64 s.id)/\w'.cell? ⟨a,c+k*8+1,none⟩=some (.string s.fr)/\w'.cell? ⟨a,c+k*8+2,none⟩=some (.string s.dst)/\w'.cell? ⟨a,c+k*8+3,none⟩=some (int i64 s.dep)/\w'.cell? ⟨a,c+k*8+4,none⟩=some (int i64 s.arr)/\w'.cell? ⟨a,c+k*8+5,none⟩=some (.slice la s.la.n lc)/\w'.cell? ⟨a,c+k*8+6,none⟩=some (.slice ca s.ca.n cc)/\w'.cell? ⟨a,c+k*8+7,none⟩=some (int i64 s.most) /\
   w'.cell? ⟨q,lo+k*3,none⟩=some (.slice A l.stn F)/\w'.cell? ⟨q,lo+k*3+1,none⟩=some (.slice u l.ron C)/\w'.cell? ⟨q,lo+k*3+2,none⟩=some (.slice y l.sen E))):=fun w' h=>by
  have g2:=zb b6 h;have G:=zf d h;exact⟨za g2 0 _ rfl,za g2 1 _ rfl,(G.cell (p:=⟨a,c+k*8,none⟩) f).trans f0,(G.cell (p:=⟨a,c+k*8+1,none⟩) f).trans f1,(G.cell (p:=⟨a,c+k*8+2,none⟩) f).trans f2,(G.cell (p:=⟨a,c+k*8+3,none⟩) f).trans f3,(G.cell (p:=⟨a,c+k*8+4,none⟩) f).trans f4,(G.cell (p:=⟨a,c+k*8+5,none⟩) f).trans f5,(G.cell (p:=⟨a,c+k*8+6,none⟩) f).trans f6,(G.cell (p:=⟨a,c+k*8+7,none⟩) f).trans f7,
   (G.cell (p:=⟨q,lo+k*3,none⟩) a2).trans (by have:=hc 0 (by decide);rw[eC] at this;exact this),(G.cell (p:=⟨q,lo+k*3+1,none⟩) a2).trans (by have:=hc 1 (by decide);rw[eC] at this;exact this),(G.cell (p:=⟨q,lo+k*3+2,none⟩) a2).trans (by have:=hc 2 (by decide);rw[eC] at this;exact this)⟩
 have e0:(0:Int)<=(k:Int):=by omega
 have e1:(k:Int)<(x.ldn:Int):=by omega
 have e2:(k:Int)<(x.san:Int):=by omega
 clear Y hD hJ hc eC K j f0 f1 f2 f3 f4 f5 f6 f7 W T c2 c1 a1 a6 Z a3 a0 a5 X L I J;have HC:Hid (∀ w',Below Q.heap.size Q w'->Calls Tryz.prog 25 #[.agg #[int i64 s.id,.string s.fr,.string s.dst,int i64 s.dep,int i64 s.arr,.slice la s.la.n lc,.slice ca s.ca.n cc,int i64 s.most],.agg #[.slice A l.stn F,.slice u l.ron C,.slice y l.sen E]] w' fun e w2=>OnV s l w'.heap.size 3 e w2/\Below w'.heap.size w' w2):=fun w' h =>
  zhj s l la ca A u y lc cc F C E w' HP.out d8.out c9.out (c8.out.below (zf d h)) (c5.out.below (zf d h)) ⟨b5.out.1.below (zf d h),b5.out.2⟩ ⟨a9.out.1.below (zf d h),a9.out.2⟩ ⟨b0.out.1.below (zf d h),b0.out.2⟩
 go_upto_region 4 with fail;go_region_held3 (fun w'=>w'.cell? ⟨w.heap.size,0,none⟩=some (.slice (some ⟨a,c,none⟩) x.san g)/\w'.cell? ⟨w.heap.size,1,none⟩=some (.slice (some ⟨q,lo,none⟩) x.ldn n) /\
   w'.cell? ⟨a,c+k*8,none⟩=some (int i64 s.id)/\w'.cell? ⟨a,c+k*8+1,none⟩=some (.string s.fr)/\w'.cell? ⟨a,c+k*8+2,none⟩=some (.string s.dst)/\w'.cell? ⟨a,c+k*8+3,none⟩=some (int i64 s.dep)/\w'.cell? ⟨a,c+k*8+4,none⟩=some (int i64 s.arr)/\w'.cell? ⟨a,c+k*8+5,none⟩=some (.slice la s.la.n lc)/\w'.cell? ⟨a,c+k*8+6,none⟩=some (.slice ca s.ca.n cc)/\w'.cell? ⟨a,c+k*8+7,none⟩=some (int i64 s.most) /\
   w'.cell? ⟨q,lo+k*3,none⟩=some (.slice A l.stn F)/\w'.cell? ⟨q,lo+k*3+1,none⟩=some (.slice u l.ron C)/\w'.cell? ⟨q,lo+k*3+2,none⟩=some (.slice y l.sen E))
   ((refine KS.out _ ?_;exact(by repeat(first|exact bZ|refine Below.drew ?_|refine zf ?_ S|refine zl ?_ _))))
   (first|(go_at_call 25;refine Calls.mono (HC.out _ (by repeat(first|exact bZ|refine Below.drew ?_))) ?_;rintro e w9 ⟨⟨v1,v2,rfl,o1,o2,oa⟩,S⟩))
 have d9:Below w.heap.size w w9:=zf (zf d (Below.refl _ Q).drew) S;have d5:Hid (w9.ownsRow w.heap.size 3 1 v1 s.la.n (zw (Zy s.la l.st l.stn) s.la.n)):=zC o1 (zf d (Below.refl _ Q).drew).size;have d6:Hid (w9.ownsRow w.heap.size 3 1 v2 s.ca.n (zw (qk s.ca l.ro l.ron) s.ca.n)):=zC o2 (zf d (Below.refl _ Q).drew).size;have c3:Hid (∀ b,v1.ownBlock=some b->v2.ownBlock≠some b):=oa;clear o1 o2 oa S KS HC d b6;go_wp2;exact bodyPost_ret (v:=.tuple #[v1,v2,int i64 (s.most - ZD l.se l.sen),.bool true]) (by simp[results,Tryz.results8,go_sem]) rfl ⟨leftV_yes M.out c7.out a8.out d7.out d0.out d5.out d6.out c3.out,d9⟩
end
theorem lawLegs (ao:Option Addr)(n c:Nat)(w:World)(hn:n<=1000000000000000)(hx:BytesAt w ao n) :
  Calls Tryz.prog 3 #[.slice ao n c] w fun e w'=>e=.returned (.bool true)/\Below w.heap.size w w':=by
 have HX:Hid (BytesAt w ao n):=hx;clear hx
 by_cases hsz:n<=1048576
 case neg =>
  have hd:decide ((1048576:Int)<(n:Int))=true:=by simp;omega
  go_enter Tryz.func3,Tryz.ntmps3;go_wp2;go_ret;exact⟨rfl,bZ⟩
 have hd:decide ((1048576:Int)<(n:Int))=false:=by simp;omega
 go_enter Tryz.func3,Tryz.ntmps3;go_wp2_with fail;refine(zfA ao n c w (by omega) HX.out).mono ?_
 rintro e w1 ⟨⟨x,a1,U,O,o,u,y,L,C,A,B,D,E,rfl,j3,j4,h0,e4⟩,b8⟩;have N:Hid (Off.Is w1 [.slice a1 x.san o,.slice U x.ldn u,.slice O x.bkn y] x):=e4.is;have HS:Hid (Off.Short x 1048576):=h0.up (by decide)
 clear e4 h0 L C A B D E hd HX;have e9:Below w1.heap.size w1 (w1.alloc (.cells #[.slice a1 x.san o,.slice U x.ldn u,.slice O x.bkn y] 27)):=zl bZ _;have Q:=heap_alloc_new w1 (.cells #[.slice a1 x.san o,.slice U x.ldn u,.slice O x.bkn y] 27);replace N:Hid (Off.Is (w1.alloc (.cells #[.slice a1 x.san o,.slice U x.ldn u,.slice O x.bkn y] 27)) [.slice a1 x.san o,.slice U x.ldn u,.slice O x.bkn y] x):=N.out.below e9;have z:=zf b8 e9;clear e9 b8;go_upto_region 4 with fail;generalize w1.alloc (.cells #[.slice a1 x.san o,.slice U x.ldn u,.slice O x.bkn y] 27)=V at N Q z ⊢;generalize w1.heap.size=ob at Q ⊢;have z0:∀ G:zv V,G.val.cell? ⟨ob,0,none⟩=some (.slice a1 x.san o):=fun G=>za (zb Q G.bel) 0 _ rfl
 have z1:∀ G:zv V,G.val.cell? ⟨ob,1,none⟩=some (.slice U x.ldn u):=fun G=>za (zb Q G.bel) 1 _ rfl
 have z2:∀ G:zv V,G.val.cell? ⟨ob,2,none⟩=some (.slice O x.bkn y):=fun G=>za (zb Q G.bel) 2 _ rfl
 obtain⟨t,ht⟩:∃ t:Bool,t=(open Classical in decide (ql x)):=⟨_,rfl⟩;have HT:Hid (t=(open Classical in decide (ql x))):=ht;clear ht;have g7:(t != t)=false:=by cases t <;> rfl
 refine zg (by kernel_rfl) (by kernel_rfl) ?_
 repeat(first|go_big_quiet_skip|(go_big_quiet_want;go_big_quiet_op;first|go_big_quiet_on|(apply Exists.intro;refine⟨fun g=>?_,?_⟩;(focus(go_at_call 5;refine zh (v:=.bool t) ((zdm [.slice a1 x.san o,.slice U x.ldn u,.slice O x.bkn y] x _ HS.out (N.out.below g.bel)).mono ?_);rw[HT.out];exact fun _ _ h=>h));go_big_quiet_on)|(apply Exists.intro;refine⟨fun g=>?_,?_⟩;(focus(go_at_call 6;refine zh (v:=.bool t) ((zaS [.slice a1 x.san o,.slice U x.ldn u,.slice O x.bkn y] x _ HS.out (N.out.below g.bel)).mono ?_);rw[HT.out];exact fun _ _ h=>h));go_big_quiet_on)))
 refine wpQuiet_nil ?_;rintro _ ⟨G,rfl⟩;replace N:Hid (Off.Is G.val [.slice a1 x.san o,.slice U x.ldn u,.slice O x.bkn y] x):=N.out.below G.bel;replace Q:=zb Q G.bel;replace z:=zf z G.bel;clear z0 z1 z2;obtain⟨V1,g2⟩:∃ V1,V1=G.val:=⟨_,rfl⟩;rw[← g2] at N Q z ⊢;clear g2 G V;obtain⟨q0,q1,q2⟩:=ce3 Q;go_wp2_with fail;clear q0 q1 q2;refine(zaS [.slice a1 x.san o,.slice U x.ldn u,.slice O x.bkn y] x _ HS.out N.out).mono ?_;rintro e V ⟨rfl,d6⟩;rw[← HT.out];replace N:Hid (Off.Is V [.slice a1 x.san o,.slice U x.ldn u,.slice O x.bkn y] x):=N.out.below d6;replace Q:=zb Q d6;replace z:=zf z d6;clear d6 V1 g7
 cases t with
 | false =>
  go_wp2;go_ret;exact⟨rfl,z⟩
 | true =>
 have HO:Hid (ql x):=@of_decide_eq_true (ql x) (Classical.propDecidable _) HT.out.symm;clear HT;have q0:=za Q 0 _ rfl;go_wp2;clear q0;go_loopw [5,6,7,8,9,10,11,13,14,15,17,18,20,22,24,41] (fun _ _ _ _ _ _ _ _ _ _ _ _ _ _ _ q wr=>∃ i:Nat,i<=x.san/\q=int i64 i/\Below V.heap.size V wr) (fun _ _ _ _ _ _ _ _ _ _ _ _ _ _ _ q _=>x.san - (intOf q).toNat)
 case atStart=>exact⟨0,Nat.zero_le _,rfl,bZ⟩
 case round =>
  obtain⟨i,hi,rfl,a⟩:=hrel
  by_cases hlt:i<x.san
  ·obtain⟨_,_,_,_,_,_,a7,g9,_⟩:=N.out
   simp only[List.cons.injEq,Value.slice.injEq,true_and,and_true] at a7;obtain⟨⟨rfl,rfl⟩,⟨rfl,rfl⟩,rfl,rfl⟩:=a7;obtain⟨sb,so,la,lc,ca,cc,rfl,f0,f1,f2,f3,f4,f5,f6,f7,_⟩:=g9 i hlt;obtain⟨s,f9⟩:∃ s,s=x.sa i:=⟨_,rfl⟩;rw[← f9] at f0 f1 f2 f3 f4 f5 f6 f7;have g0:Hid (s=x.sa i):=f9;have K:=World.block_lt_of_cell? V _ f0;have c0:=(a.cell (p:=⟨sb,so+i*8,none⟩) K).trans f0;have o:=(a.cell (p:=⟨sb,so+i*8+1,none⟩) K).trans f1;have u:=(a.cell (p:=⟨sb,so+i*8+2,none⟩) K).trans f2;have y:=(a.cell (p:=⟨sb,so+i*8+3,none⟩) K).trans f3;have c4:=(a.cell (p:=⟨sb,so+i*8+4,none⟩) K).trans f4;have c5:=(a.cell (p:=⟨sb,so+i*8+5,none⟩) K).trans f5;have c6:=(a.cell (p:=⟨sb,so+i*8+6,none⟩) K).trans f6;have c7:=(a.cell (p:=⟨sb,so+i*8+7,none⟩) K).trans f7;clear f0 f1 f2 f3 f4 f5 f6 f7 g9 f9;have bS:=heap_alloc_new wr (.cells #[int i64 s.id,.string s.fr,.string s.dst,int i64 s.dep,int i64 s.arr,.slice la s.la.n lc,.slice ca s.ca.n cc,int i64 s.most] 33);have m:=zl a (.cells #[int i64 s.id,.string s.fr,.string s.dst,int i64 s.dep,int i64 s.arr,.slice la s.la.n lc,.slice ca s.ca.n cc,int i64 s.most] 33);go_upto_region 11 with fail;generalize wr.alloc (.cells #[int i64 s.id,.string s.fr,.string s.dst,int i64 s.dep,int i64 s.arr,.slice la s.la.n lc,.slice ca s.ca.n cc,int i64 s.most] 33)=Y at bS m ⊢;generalize wr.heap.size=sx at bS ⊢;clear c0 o u y c4 c5 c6 c7 a wr;have HL:Hid (LOk x s.id):=by show LOk x s.id;rw[g0.out];exact lOk_at HO.out hlt
   obtain⟨q0,q1,q2⟩:=ce3 (zb Q m);have y0:=za bS 0 _ rfl;go_wp2_with fail;clear q0 q1 q2 y0;refine(zgr [.slice (some ⟨sb,so,none⟩) x.san o,.slice U x.ldn u,.slice O x.bkn y] x s.id _ HS.out (N.out.below m)).mono ?_;rintro e Y1 ⟨⟨rv,rfl,d9⟩,H⟩;rw[lOk_yes HL.out];obtain⟨M,hM⟩:∃ M,M=(zeJ x s.id).length:=⟨_,rfl⟩;obtain⟨F,hF⟩:∃ F,F=zbj (zeJ x s.id):=⟨_,rfl⟩;have HM:Hid (M=(zeJ x s.id).length/\F=zbj (zeJ x s.id)):=⟨hM,hF⟩;have j0:M<=30:=by rw[hM];exact manL_le x s.id
   rw[← hM,← hF] at d9;clear hM hF;obtain⟨ar,cr,rfl,_,_,_⟩:=zr d9;have HR:Hid (zep Y1 ar M F):=zgf d9;replace m:=zf m H;replace bS:=zb bS H;clear H d9;obtain⟨q0,q1,q2⟩:=ce3 (zb Q m);have y0:=za bS 0 _ rfl;go_wp2_with fail;clear q0 q1 q2 y0;refine(zfL [.slice (some ⟨sb,so,none⟩) x.san o,.slice U x.ldn u,.slice O x.bkn y] x s.id _ HS.out (N.out.below m)).mono ?_;rintro e W ⟨⟨u1,u2,rfl,d7,d8,_⟩,H⟩;rw[lOk_yes HL.out];replace m:=zf m H;replace bS:=zb bS H;replace HR:Hid (zep W ar M F):=HR.out.below H;clear H;obtain⟨P,hP⟩:∃ P,P=lM x s.id:=⟨_,rfl⟩;obtain⟨N1,b6⟩:∃ P,P=lN1 x s.id:=⟨_,rfl⟩;obtain⟨N2,b7⟩:∃ P,P=lN2 x s.id:=⟨_,rfl⟩;obtain⟨G1,e5⟩:∃ P,P=lF1 x s.id:=⟨_,rfl⟩;obtain⟨G2,e6⟩:∃ P,P=lF2 x s.id:=⟨_,rfl⟩;have g6:=left_ok HL.out;have b8:=lN1_le s.id HS.out;have g3:=lN2_le s.id HS.out;rw[← hP,← b6,← b7,← e5,← e6] at g6;rw[← b6,← e5] at d7;rw[← b7,← e6] at d8;rw[← b6] at b8;rw[← b7] at g3;rw[← hP];obtain⟨hp,g4,g5⟩:=g6;have h5:Hid (∀ k,k<N1->0<=G1 k):=g4;have h6:Hid (∀ k,k<N2->0<=G2 k):=g5;have dP:decide (P<0)=false:=by simpa using hp
   obtain⟨i2,j1,rfl,_,_,_⟩:=zr d7;obtain⟨i3,j2,rfl,_,_,_⟩:=zr d8;have i0:Hid (zX W i2 N1 G1):=own_ints d7;have i1:Hid (zX W i3 N2 G2):=own_ints d8;clear hP b6 b7 e5 e6 g4 g5 d7 d8 hp;have q2:=za (zb Q m) 2 _ rfl;go_wp2;clear q2 dP;have HB:Hid (qK W O x.bkn x.bk):=by
    obtain⟨_,_,_,_,_,_,a7,_,_,_,_,i7,_⟩:=(N.out.below m);simp only[List.cons.injEq,Value.slice.injEq,true_and,and_true] at a7;obtain⟨⟨rfl,rfl⟩,⟨rfl,rfl⟩,rfl,rfl⟩:=a7;exact i7
   go_loopw [13,14,15,17,18,20,74] (fun _ _ _ _ _ _ q wr=>∃ j:Nat,j<=x.bkn/\q=int i64 j/\Below W.heap.size W wr) (fun _ _ _ _ _ _ q _=>x.bkn - (intOf q).toNat)
   case atStart=>exact⟨0,Nat.zero_le _,rfl,bZ⟩
   case round =>
    obtain⟨j,hj,rfl,a⟩:=hrel
    by_cases hlt2:j<x.bkn
    ·obtain⟨D,hD,hJ⟩:=HB.out
     obtain⟨d,l,rfl,S⟩:=hD j hlt2;obtain⟨b,b9⟩:∃ b,b=x.bk j:=⟨_,rfl⟩;obtain⟨a6,b5,R,e8,h3⟩:=hJ j hlt2;rw[← b9] at R e8 h3;have g1:Hid (onB b.lg s.id (decide (zaZ b)) b.lgn=fndB F b.name M):=by rw[HM.out.1,HM.out.2,g0.out,b9];exact legs_same HO.out hlt hlt2
     have h4:Hid (qi.Short b 1048576):=by rw[b9];exact HS.out.2.2.2 j hlt2
     have f:d<W.heap.size:=World.block_lt_of_cell? W _ (S 0 (by decide))
     have c0:wr.cell? ⟨d,l+j*13,none⟩=some (int i64 b.name):=(a.cell (p:=⟨d,l+j*13,none⟩) f).trans (by have:=S 0 (by decide);rw[R] at this;exact this)
     have o:wr.cell? ⟨d,l+j*13+1,none⟩=some (int i64 b.who):=(a.cell (p:=⟨d,l+j*13+1,none⟩) f).trans (by have:=S 1 (by decide);rw[R] at this;exact this)
     have u:wr.cell? ⟨d,l+j*13+2,none⟩=some (.string b.own):=(a.cell (p:=⟨d,l+j*13+2,none⟩) f).trans (by have:=S 2 (by decide);rw[R] at this;exact this)
     have y:wr.cell? ⟨d,l+j*13+3,none⟩=some (.slice a6 b.lgn b5):=(a.cell (p:=⟨d,l+j*13+3,none⟩) f).trans (by have:=S 3 (by decide);rw[R] at this;exact this)
     have c4:wr.cell? ⟨d,l+j*13+4,none⟩=some (int i64 b.pe):=(a.cell (p:=⟨d,l+j*13+4,none⟩) f).trans (by have:=S 4 (by decide);rw[R] at this;exact this)
     have c5:wr.cell? ⟨d,l+j*13+5,none⟩=some (int i64 b.len):=(a.cell (p:=⟨d,l+j*13+5,none⟩) f).trans (by have:=S 5 (by decide);rw[R] at this;exact this)
     have c6:wr.cell? ⟨d,l+j*13+6,none⟩=some (int i64 b.hei):=(a.cell (p:=⟨d,l+j*13+6,none⟩) f).trans (by have:=S 6 (by decide);rw[R] at this;exact this)
     have c7:wr.cell? ⟨d,l+j*13+7,none⟩=some (int i64 b.cl):=(a.cell (p:=⟨d,l+j*13+7,none⟩) f).trans (by have:=S 7 (by decide);rw[R] at this;exact this)
     have c8:wr.cell? ⟨d,l+j*13+8,none⟩=some (.bool b.all):=(a.cell (p:=⟨d,l+j*13+8,none⟩) f).trans (by have:=S 8 (by decide);rw[R] at this;exact this)
     have c9:wr.cell? ⟨d,l+j*13+9,none⟩=some (int i64 b.be):=(a.cell (p:=⟨d,l+j*13+9,none⟩) f).trans (by have:=S 9 (by decide);rw[R] at this;exact this)
     have i4:wr.cell? ⟨d,l+j*13+10,none⟩=some (int i64 b.state):=(a.cell (p:=⟨d,l+j*13+10,none⟩) f).trans (by have:=S 10 (by decide);rw[R] at this;exact this)
     have i5:wr.cell? ⟨d,l+j*13+11,none⟩=some (int i64 b.unt):=(a.cell (p:=⟨d,l+j*13+11,none⟩) f).trans (by have:=S 11 (by decide);rw[R] at this;exact this)
     have i6:wr.cell? ⟨d,l+j*13+12,none⟩=some (int i64 b.price):=(a.cell (p:=⟨d,l+j*13+12,none⟩) f).trans (by have:=S 12 (by decide);rw[R] at this;exact this)
     have bB:=heap_alloc_new wr (.cells #[int i64 b.name,int i64 b.who,.string b.own,.slice a6 b.lgn b5,int i64 b.pe,int i64 b.len,int i64 b.hei,int i64 b.cl,.bool b.all,int i64 b.be,int i64 b.state,int i64 b.unt,int i64 b.price] 43);have X:=zl a (.cells #[int i64 b.name,int i64 b.who,.string b.own,.slice a6 b.lgn b5,int i64 b.pe,int i64 b.len,int i64 b.hei,int i64 b.cl,.bool b.all,int i64 b.be,int i64 b.state,int i64 b.unt,int i64 b.price] 43);have h9:Hid (zX W a6 b.lgn b.lg):=e8;clear hD hJ S R b9 e8 h3;go_upto_region 18 with fail;generalize wr.alloc (.cells #[int i64 b.name,int i64 b.who,.string b.own,.slice a6 b.lgn b5,int i64 b.pe,int i64 b.len,int i64 b.hei,int i64 b.cl,.bool b.all,int i64 b.be,int i64 b.state,int i64 b.unt,int i64 b.price] 43)=Z at bB X ⊢;generalize wr.heap.size=bx at bB ⊢;clear c0 o u y c4 c5 c6 c7 c8 c9 i4 i5 i6 a wr;have i9:=za bB 10 _ rfl;go_cut [14] (fun i8 wc=>i8=.bool (decide (zaZ b))/\Below Z.heap.size Z wc)
     case first =>
      by_cases e1:b.state=1
      ·have J:decide (zaZ b)=true:=decide_eq_true (Or.inl e1)
       have d1:(b.state == 1)=true:=by simpa using e1
       go_wp2;go_meet;exact⟨by rw[J],bZ⟩
      ·have d1:(b.state == 1)=false:=by simpa using e1
       by_cases e2:b.state=2
       ·have J:decide (zaZ b)=true:=decide_eq_true (Or.inr e2)
        have d2:(b.state == 2)=true:=by simpa using e2
        go_wp2;go_meet;exact⟨by rw[J],bZ⟩
       ·have J:decide (zaZ b)=false:=decide_eq_false (fun h=>by rcases h with h|h;exact e1 h;exact e2 h)
        have d2:(b.state == 2)=false:=by simpa using e2
        go_wp2;go_meet;exact⟨by rw[J],bZ⟩
     case rest =>
     obtain⟨rfl,e7⟩:=hcut;replace bB:=zb bB e7;replace X:=zf X e7;clear i9 e7;obtain⟨lv,J⟩:∃ lv,lv=decide (zaZ b):=⟨_,rfl⟩;rw[← J] at g1 ⊢;clear J;have y3:=za bB 3 _ rfl;have n1:b.lgn<=1048576:=h4.out.2;go_wp2;clear y3;go_loopw [15,17,89] (fun on _ q w3=>∃ k:Nat,k<=b.lgn/\q=int i64 k/\on=.bool (onB b.lg s.id lv k)/\Below wc.heap.size wc w3) (fun _ _ q _=>b.lgn - (intOf q).toNat)
     case atStart=>exact⟨0,Nat.zero_le _,rfl,rfl,bZ⟩
     case round =>
      obtain⟨k,hk,rfl,rfl,a8⟩:=hrel;have a0:=zf X a8
      by_cases hlt3:k<b.lgn
      ·obtain⟨gb,go,rfl,I⟩:=h9.out k hlt3
       have cg:=(a0.cell (p:=⟨gb,go+k,none⟩) (World.block_lt_of_cell? W _ I)).trans I;have ys:=za (zb bS a0) 0 _ rfl;have HN:Hid (onB b.lg s.id lv (k+1)=(onB b.lg s.id lv k || (b.lg k == s.id && lv))):=rfl
       obtain⟨on,g8⟩:∃ on,on=onB b.lg s.id lv k:=⟨_,rfl⟩;rw[← g8] at HN ⊢;clear g8
       cases on with
       | true =>
        go_wp2;go_roundw
        case rel=>exact⟨k+1,by omega,by go_num,by rw[HN.out];rfl,a8⟩
        case measure=>simp[intOf];omega
       | false =>
        by_cases ez:b.lg k=s.id
        ·have dz:(b.lg k == s.id)=true:=by simpa using ez
         go_wp2;go_roundw
         case rel=>exact⟨k+1,by omega,by go_num,by rw[HN.out,dz];simp,a8⟩
         case measure=>simp[intOf];omega
        ·have dz:(b.lg k == s.id)=false:=by simpa using ez
         go_wp2;go_roundw
         case rel=>exact⟨k+1,by omega,by go_num,by rw[HN.out,dz];simp,a8⟩
         case measure=>simp[intOf];omega
      ·obtain rfl:k=b.lgn:=by omega
       clear hlt3 hk;replace bB:=zb bB a8;rw[g1.out];go_wp2;go_loopw [18,20,106] (fun fd _ q w4=>∃ k:Nat,k<=M/\q=int i64 k/\fd=.bool (fndB F b.name k)/\Below wr.heap.size wr w4) (fun _ _ q _=>M - (intOf q).toNat)
       case atStart=>exact⟨0,Nat.zero_le _,rfl,rfl,bZ⟩
       case round =>
        obtain⟨k,hk,rfl,rfl,d0⟩:=hrel
        by_cases hlt4:k<M
        ·obtain⟨rb,ro,rfl,r0,r1,r2,r3,r4⟩:=HR.out k hlt4
         obtain⟨r,f8⟩:∃ r,r=F k:=⟨_,rfl⟩;rw[← f8] at r0 r1 r2 r3 r4;have HN:Hid (fndB F b.name (k+1)=(fndB F b.name k || r.name == b.name)):=by rw[f8];rfl
         have b0:=World.block_lt_of_cell? W _ r0;have a5:=zf a0 d0;have c0:=(a5.cell (p:=⟨rb,ro+k*5,none⟩) b0).trans r0;have o:=(a5.cell (p:=⟨rb,ro+k*5+1,none⟩) b0).trans r1;have u:=(a5.cell (p:=⟨rb,ro+k*5+2,none⟩) b0).trans r2;have y:=(a5.cell (p:=⟨rb,ro+k*5+3,none⟩) b0).trans r3;have c4:=(a5.cell (p:=⟨rb,ro+k*5+4,none⟩) b0).trans r4;clear r0 r1 r2 r3 r4 f8;have bT:=heap_alloc_new wr (.cells #[int i64 r.name,.string r.own,int i64 r.pe,int i64 r.ln,int i64 r.cab] 45);have d5:=zl d0 (.cells #[int i64 r.name,.string r.own,int i64 r.pe,int i64 r.ln,int i64 r.cab] 45);go_upto_region 29 with fail;generalize wr.alloc (.cells #[int i64 r.name,.string r.own,int i64 r.pe,int i64 r.ln,int i64 r.cab] 45)=T at bT d5 ⊢;generalize wr.heap.size=tx at bT ⊢;clear c0 o u y c4 d0 a5 wr;have yb:=za (zb bB d5) 0 _ rfl;have yt:=za bT 0 _ rfl;obtain⟨fd,a9⟩:∃ fd,fd=fndB F b.name k:=⟨_,rfl⟩;rw[← a9] at HN ⊢;clear a9
         cases fd with
         | true =>
          go_wp2;go_roundw
          case rel=>exact⟨k+1,by omega,by go_num,by rw[HN.out];rfl,d5⟩
          case measure=>simp[intOf];omega
         | false =>
          go_wp2;go_roundw
          case rel=>exact⟨k+1,by omega,by go_num,by rw[HN.out];rfl,d5⟩
          case measure=>simp[intOf];omega
        ·obtain rfl:k=M:=by omega
         clear hlt4 hk;obtain⟨fd,a9⟩:∃ fd,fd=fndB F b.name k:=⟨_,rfl⟩;rw[← a9];clear a9;have g7:(fd != fd)=false:=by cases fd <;> rfl
         go_wp2;go_roundw
         case rel=>exact⟨j+1,by omega,by go_num,zf a0 d0⟩
         case measure=>simp[intOf];omega
    ·obtain rfl:j=x.bkn:=by omega
     clear hlt2 hj;go_wp2;go_loopw [22,125] (fun _ q w5=>∃ k:Nat,k<=N1/\q=int i64 k/\Below wr.heap.size wr w5) (fun _ q _=>N1 - (intOf q).toNat)
     case atStart=>exact⟨0,Nat.zero_le _,rfl,bZ⟩
     case round =>
      obtain⟨k,hk,rfl,h1⟩:=hrel;have e0:=zf a h1
      by_cases hlt5:k<N1
      ·obtain⟨gb,go,rfl,I⟩:=i0.out k hlt5
       have cg:=(e0.cell (p:=⟨gb,go+k,none⟩) (World.block_lt_of_cell? W _ I)).trans I;have dg:decide (G1 k<0)=false:=by simpa using h5.out k hlt5
       go_wp2;go_roundw
       case rel=>exact⟨k+1,by omega,by go_num,h1⟩
       case measure=>simp[intOf];omega
      ·obtain rfl:k=N1:=by omega
       clear hlt5 hk;go_wp2;go_loopw [24,134] (fun _ q w6=>∃ k:Nat,k<=N2/\q=int i64 k/\Below wr.heap.size wr w6) (fun _ q _=>N2 - (intOf q).toNat)
       case atStart=>exact⟨0,Nat.zero_le _,rfl,bZ⟩
       case round =>
        obtain⟨k,hk,rfl,h2⟩:=hrel;have e3:=zf e0 h2
        by_cases hlt5:k<N2
        ·obtain⟨gb,go,rfl,I⟩:=i1.out k hlt5
         have cg:=(e3.cell (p:=⟨gb,go+k,none⟩) (World.block_lt_of_cell? W _ I)).trans I;have dg:decide (G2 k<0)=false:=by simpa using h6.out k hlt5
         go_wp2;go_roundw
         case rel=>exact⟨k+1,by omega,by go_num,h2⟩
         case measure=>simp[intOf];omega
        ·obtain rfl:k=N2:=by omega
         clear hlt5 hk;go_wp2;go_roundw
         case rel=>exact⟨i+1,by omega,by go_num,zf m e3⟩
         case measure=>simp[intOf];omega
  ·obtain rfl:i=x.san:=by omega
   clear hlt hi;go_wp2;go_ret;exact⟨rfl,zf z a⟩
end Go.Proofs.YtgmdnkngnhkgbaaGreat
