import Derived.LaidMore
import Derived.Lib.LaidTab
import Derived.Deep.DeepHandedRow
import Derived.Test.YtfallpinmhbemaaGreatDoorB25
namespace Go.Proofs.YtfallpinmhbemaaGreatDoor
open Go.RowKit
open Go.Value (int)
open Go.IntKind (i64)
set_option maxHeartbeats 64000000
set_option maxRecDepth 1000000
theorem cover {P:Nat->Prop}{B:Nat->Int}(m:Nat):∀ (n:Nat)(F:Nat->Int),cnt P m=n->(∀ i,i<m->P i->Has F n (B i))->(∀ i,i<m->∀ j,j<i->B j≠B i)->∀ j,j<n->∃ i,i<m/\P i/\B i=F j:=by
 induction m with
 | zero=>intro n F h _ _ j f;rw[cnt] at h;omega
 | succ m ih =>
  intro n F h l hd j f
  by_cases c:P m
  ·rw[zag c] at h
   obtain⟨r,hr,o⟩:=l m (by omega) c
   obtain⟨n,rfl⟩:∃ n',n=n'+1:=⟨n - 1,by omega⟩
   have k:=ih n (Qf F r) (by omega) (fun i b a=>(zdk (by omega) (fun e=>hd m (by omega) i b (by rw[← e,o]))).2 (l i (by omega) a)) (fun i b j f=>hd i (by omega) j f)
   by_cases e:j=r
   ·exact⟨m,by omega,c,by rw[e,o]⟩
   ·by_cases d:j<r
    ·obtain⟨i,b,a,g⟩:=k j (by omega)
     exact⟨i,by omega,a,by rw[g,Qn d]⟩
    ·obtain⟨i,b,a,g⟩:=k (j - 1) (by omega)
     exact⟨i,by omega,a,by rw[g,QP (by omega),show j - 1+1=j by omega]⟩
  ·rw[zaQ c] at h
   obtain⟨i,b,a,g⟩:=ih n F h (fun i b a=>l i (by omega) a) (fun i b j f=>hd i (by omega) j f) j f
   exact⟨i,by omega,a,g⟩
theorem Zy.whos {o:Off}(h:Zy o):∀ i,i<o.bkn->∀ j,j<i->(o.bk j).who≠(o.bk i).who:=fun i a j b=>(h.2.2.2.2.1 i a).2.2.2.2.2.2.2.1 j b
theorem Zy.seat_of {o:Off}(h:Zy o){k:Nat}(d:k<o.san){j:Nat}(c:j<(o.ld k).sen):∃ i,i<o.bkn/\On o k i/\(o.bk i).who=((o.ld k).se j).who:=by
 obtain⟨l,_,_,a⟩:=h.2.2.2.2.2 k d;refine cover (P:=On o k) (B:=fun i=>(o.bk i).who) o.bkn _ (zaU (o.ld k).se) a.symm (fun i b f=>?_) h.whos j c
 obtain⟨q,g,e,_⟩:=(l i b f).1;exact⟨q,g,e⟩
theorem Zy.stay_of {o:Off}(h:Zy o){k:Nat}(f:k<o.san){j:Nat}(d:j<(o.ld k).stn):∃ i,i<o.bkn/\(On o k i/\0<(o.bk i).len)/\(o.bk i).who=((o.ld k).st j).who:=by
 obtain⟨l,b,_,_⟩:=h.2.2.2.2.2 k f;refine cover (P:=fun i=>On o k i/\0<(o.bk i).len) (B:=fun i=>(o.bk i).who) o.bkn _ (Q8 (o.ld k).st) b.symm (fun i c a=>?_) h.whos j d
 rcases (l i c a.1).2.1 with e|⟨q,g,e,_⟩
 ·have:=a.2;omega
 ·exact⟨q,g,e⟩
theorem Zy.room_of {o:Off}(h:Zy o){k:Nat}(f:k<o.san){j:Nat}(d:j<(o.ld k).ron):∃ i,i<o.bkn/\(On o k i/\0<(o.bk i).cl)/\(o.bk i).who=((o.ld k).ro j).who:=by
 obtain⟨l,_,b,_⟩:=h.2.2.2.2.2 k f;refine cover (P:=fun i=>On o k i/\0<(o.bk i).cl) (B:=fun i=>(o.bk i).who) o.bkn _ (zaW (o.ld k).ro) b.symm (fun i c a=>?_) h.whos j d
 rcases (l i c a.1).2.2 with e|⟨q,g,e,_⟩
 ·have:=a.2;omega
 ·exact⟨q,g,e⟩
theorem Zy.fresh {o:Off}(h:Zy o){x:Int}(f:∀ i,i<o.bkn->(o.bk i).who≠x){k:Nat}(d:k<o.san) :
  ¬ Has (zaU (o.ld k).se) (o.ld k).sen x/\¬ Has (Q8 (o.ld k).st) (o.ld k).stn x/\¬ Has (zaW (o.ld k).ro) (o.ld k).ron x:=by
 refine⟨?_,?_,?_⟩
 ·rintro⟨j,c,e⟩
  obtain⟨i,b,_,a⟩:=h.seat_of d c;exact f i b (a.trans e)
 ·rintro⟨j,c,e⟩
  obtain⟨i,b,_,a⟩:=h.stay_of d c;exact f i b (a.trans e)
 ·rintro⟨j,c,e⟩
  obtain⟨i,b,_,a⟩:=h.room_of d c;exact f i b (a.trans e)
theorem zdl {F:Nat->Int}{n:Nat}{x:Int}(h:∀ i,i<n->¬ Has F i (F i))(g:Has F n x):∃ r,r<n/\F r=x/\∀ j,j<n->j≠r->F j≠x:=by
 obtain⟨r,b,e⟩:=g;refine⟨r,b,e,fun j d f a=>?_⟩
 by_cases c:j<r
 ·exact h r b ⟨j,c,by rw[a,e]⟩
 ·exact h j d ⟨r,by omega,by rw[e,a]⟩
theorem qJ.seats_one {s:Sail}{x:qT}(h:qJ s x):∀ i,i<x.sen->¬ Has (zaU x.se) i (zaU x.se i):=fun i a=>(h.2.2.2.2.1 i a).2.1
theorem qJ.stays_one {s:Sail}{x:qT}(h:qJ s x):∀ i,i<x.stn->¬ Has (Q8 x.st) i (Q8 x.st i):=fun i a=>(h.1.2.2.1 i a).2.2.2.2
theorem qJ.rooms_one {s:Sail}{x:qT}(h:qJ s x):∀ i,i<x.ron->¬ Has (zaW x.ro) i (zaW x.ro i):=fun i a=>(h.2.1.2.2.1 i a).1.2.1
theorem Zy.here {o:Off}(h:Zy o){k i:Nat}(j:k<o.san)(g:i<o.bkn)(l:On o k i) :
  Has (zaU (o.ld k).se) (o.ld k).sen (o.bk i).who/\(0<(o.bk i).len->Has (Q8 (o.ld k).st) (o.ld k).stn (o.bk i).who)/\(0<(o.bk i).cl->Has (zaW (o.ld k).ro) (o.ld k).ron (o.bk i).who):=by
 obtain⟨b,d,f⟩:=(h.2.2.2.2.2 k j).1 i g l;refine⟨?_,fun c=>?_,fun c=>?_⟩
 ·obtain⟨q,a,e,_⟩:=b
  exact⟨q,a,e⟩
 ·rcases d with e|⟨q,a,e,_⟩
  ·omega
  ·exact⟨q,a,e⟩
 ·rcases f with e|⟨q,a,e,_⟩
  ·omega
  ·exact⟨q,a,e⟩
def qT.noStay (x:qT)(r:Nat):qT:={ x with stn:=x.stn - 1,st:=Z7 x.st r }
def qT.noRoom (x:qT)(r:Nat):qT:={ x with ron:=x.ron - 1,ro:=Qf x.ro r }
def qT.noSeat (x:qT)(r:Nat):qT:={ x with sen:=x.sen - 1,se:=Qf x.se r }
def qT.addStay (x:qT)(s:ZX):qT:={ x with stn:=x.stn+1,st:=QD x.st x.stn (fun _=>s) }
def qT.addRoom (x:qT)(s:ZF):qT:={ x with ron:=x.ron+1,ro:=Qj x.ro x.ron (fun _=>s) }
def qT.addSeat (x:qT)(s:zaf):qT:={ x with sen:=x.sen+1,se:=QW x.se x.sen (fun _=>s) }
theorem qJ.noStay {s:Sail}{x:qT}{r:Nat}(h:qJ s x)(hr:r<x.stn):qJ s (x.noStay r):=by
 obtain⟨a,b,c⟩:=h;refine⟨?_,b,c⟩
 show DeckS s.la (x.stn - 1) (Z7 x.st r)
 have e:x.stn=x.stn - 1+1:=by omega
 rw[e] at a;exact(Ql _ _ _).2 (zfX ((Ql _ _ _).1 a) (by omega))
theorem qJ.noRoom {s:Sail}{x:qT}{r:Nat}(h:qJ s x)(hr:r<x.ron):qJ s (x.noRoom r):=by
 obtain⟨b,a,c⟩:=h;refine⟨b,?_,c⟩
 show QL s.ca (x.ron - 1) (Qf x.ro r)
 have e:x.ron=x.ron - 1+1:=by omega
 rw[e] at a;exact out_rooms a (by omega)
theorem qJ.noSeat {s:Sail}{x:qT}{r:Nat}(h:qJ s x)(hr:r<x.sen):qJ s (x.noSeat r):=by
 obtain⟨b,c,a⟩:=h;refine⟨b,c,?_⟩
 show zbb s.most (x.sen - 1) (Qf x.se r)
 have e:x.sen=x.sen - 1+1:=by omega
 rw[e] at a;exact out_seats a (by omega)
theorem qJ.addStay {s:Sail}{x:qT}{who len hei:Int}{k:Nat}(h:qJ s x)(a:Places s.la x.stn x.st who len hei k):qJ s (x.addStay ⟨who,(k:Int),len,hei⟩) :=
 ⟨(Ql _ _ _).2 (zhY a).1,h.2.1,h.2.2⟩
theorem qJ.addRoom {s:Sail}{x:qT}{r:ZF}(h:qJ s x)(c:In r.who 1 9999)(a:¬ Has (zaW x.ro) x.ron r.who)(b:zcE s.ca (qW s.ca x.ro x.ron) r):qJ s (x.addRoom r) :=
 ⟨h.1,zhZ h.2.1 c a b,h.2.2⟩
theorem zbo {S:Nat->zaf}{n j:Nat}{r:zaf}(h:j<n):QW S n (fun _=>r) j=S j:=by unfold QW;rw[if_pos h]
theorem zcm {S:Nat->zaf}{n:Nat}{r:zaf}:QW S n (fun _=>r) n=r:=by unfold QW;rw[if_neg (Nat.lt_irrefl _)]
theorem zia {most:Int}{n:Nat}{S:Nat->zaf}{r:zaf}(h:zbb most n S)(hn:n≠60)(s:In r.who 1 9999)(p:In r.many 1 20)(m:¬ Has (zaU S) n r.who)(q:zbE S n+r.many<=most):zbb most (n+1) (QW S n (fun _=>r)):=by
 obtain⟨k,h1,l,h3⟩:=h;have g:∀ i,i<=n->∀ x,Has (zaU (QW S n (fun _=>r))) i x->Has (zaU S) i x:=by
  rintro i o x ⟨j,f,e⟩;refine⟨j,f,?_⟩;rw[← e];unfold zaU;rw[zbo (by omega)]
 refine⟨k,by omega,fun i o=>?_,?_⟩
 ·by_cases e:i=n
  ·subst e
   rw[zcm];exact⟨s,fun c=>m (g i (Nat.le_refl _) _ c),p⟩
  ·rw[zbo (by omega)]
   obtain⟨a,b,c⟩:=l i (by omega)
   exact⟨a,fun d=>b (g i (by omega) _ d),c⟩
 ·rw[zbE,zen n (fun j f=>zbo f),zcm]
  exact q
theorem qJ.addSeat {s:Sail}{x:qT}{r:zaf}(h:qJ s x)(hn:x.sen≠60)(d:In r.who 1 9999)(b:In r.many 1 20)(a:¬ Has (zaU x.se) x.sen r.who)(c:zbE x.se x.sen+r.many<=s.most):qJ s (x.addSeat r) :=
 ⟨h.1,h.2.1,zia h.2.2 hn d b a c⟩
section
open Go.RowKit Classical
def zar (S:Nat->ZX)(q:Int):Nat->Int
 | 0=>-1
 | n+1=>if (S n).who=q then (S n).ln else zar S q n
def QI (S:Nat->ZF)(q:Int):Nat->Int
 | 0=>-1
 | n+1=>if (S n).who=q then (S n).cab else QI S q n
def rowOf (l:qT)(b:ZK):zer:=⟨b.name,b.own,b.pe,zar l.st b.who l.stn,QI l.ro b.who l.ron⟩
def OnZ (b:ZK)(z:Int):Prop:=zee b/\HasLeg b z
noncomputable def QJ (l:qT)(S:Nat->ZK)(z:Int):Nat->List zer
 | 0=>[]
 | n+1=>if OnZ (S n) z then QJ l S z n++[rowOf l (S n)] else QJ l S z n
theorem zdp {l:qT}{S:Nat->ZK}{z:Int}{n:Nat}(h:OnZ (S n) z):QJ l S z (n+1)=QJ l S z n++[rowOf l (S n)]:=by rw[QJ,if_pos h]
theorem zbR {l:qT}{S:Nat->ZK}{z:Int}{n:Nat}(h:¬ OnZ (S n) z):QJ l S z (n+1)=QJ l S z n:=by rw[QJ,if_neg h]
theorem rowsL_le (l:qT)(S:Nat->ZK)(z:Int)(n:Nat):(QJ l S z n).length<=n:=by
 induction n with
 | zero=>exact Nat.le_refl _
 | succ n ih =>
  by_cases h:OnZ (S n) z
  ·rw[zdp h,List.length_append];simp;omega
  ·rw[zbR h];omega
def zii (l:List zer)(j:Nat):zer:=l.getD j zer.zero
theorem zgg (l:List zer)(r:zer):ZW (zii (l++[r])) (l.length+1)=ZW (zii l) l.length++[int i64 r.name,.string r.own,int i64 r.pe,int i64 r.ln,int i64 r.cab]:=by
 rw[zgf];have a:zii (l++[r]) l.length=r:=by simp[zii]
 have b:ZW (zii (l++[r])) l.length=ZW (zii l) l.length:=zeY (fun i c=>by unfold zii;rw[List.getD_eq_getElem?_getD,List.getD_eq_getElem?_getD,List.getElem?_append_left c])
 rw[a,b]
end
theorem Tryz.infoRow:(Tryz.prog.info? 212).map (fun i=>(i.zero,i.size,i.bytes))=some (some (.agg #[int i64 0,.string ⟨#[]⟩,int i64 0,int i64 0,int i64 0]),5,48):=by kernel_rfl
theorem wish_is (cl:Int)(all:Bool)(be:Int)(w:World) :
  Calls Tryz.prog 85 #[int i64 cl,.bool all,int i64 be] w fun e w'=>e=.returned (.bool (decide (zbH cl all be)))/\w'=w:=by
 obtain⟨c,f⟩:∃ c,c=decide (zbH cl all be):=⟨_,rfl⟩;rw[← f];have a:=hI f;clear f
 by_cases h1:In cl 1 3
 ·have i:decide (In cl 1 3)=true:=decide_eq_true h1
  have b:=hI h1;clear h1
  cases all with
  | true =>
   by_cases h2:be=0
   ·subst h2
    go_enter Tryz.func85,Tryz.ntmps85;go_wp2_with (first|(go_at_call 97;refine sC (QR _ _) ?_))
    go_ret;exact⟨by rw[a.out,decide_eq_true ⟨b.out,.inl ⟨rfl,rfl⟩⟩];rfl,rfl⟩
   ·have g:(be == 0)=false:=by simpa using h2
    have d:=hI h2;clear h2;go_enter Tryz.func85,Tryz.ntmps85;go_wp2_with (first|(go_at_call 97;refine sC (QR _ _) ?_))
    go_ret;exact⟨by rw[a.out,decide_eq_false (fun h=>by rcases h.2 with h|h;exact d.out h.2;cases h.1)];rfl,rfl⟩
  | false =>
   by_cases h2:In be 1 4
   ·have g:decide (In be 1 4)=true:=decide_eq_true h2
    have d:=hI h2;clear h2;go_enter Tryz.func85,Tryz.ntmps85;go_wp2_with (first|(go_at_call 97;refine sC (QR _ _) ?_)|(go_at_call 98;refine sC (zbi _ _) ?_))
    go_ret;exact⟨by rw[a.out,decide_eq_true ⟨b.out,.inr ⟨rfl,d.out⟩⟩];rfl,rfl⟩
   ·have g:decide (In be 1 4)=false:=decide_eq_false h2
    have d:=hI h2;clear h2;go_enter Tryz.func85,Tryz.ntmps85;go_wp2_with (first|(go_at_call 97;refine sC (QR _ _) ?_)|(go_at_call 98;refine sC (zbi _ _) ?_))
    go_ret;exact⟨by rw[a.out,decide_eq_false (fun h=>by rcases h.2 with h|h;cases h.1;exact d.out h.2)];rfl,rfl⟩
 ·have i:decide (In cl 1 3)=false:=decide_eq_false h1
  have b:=hI h1;clear h1
  cases all with
  | true =>
   go_enter Tryz.func85,Tryz.ntmps85;go_wp2_with (first|(go_at_call 97;refine sC (QR _ _) ?_))
   go_ret;exact⟨by rw[a.out,decide_eq_false (fun h=>b.out h.1)];rfl,rfl⟩
  | false =>
   go_enter Tryz.func85,Tryz.ntmps85;go_wp2_with (first|(go_at_call 97;refine sC (QR _ _) ?_))
   go_ret;exact⟨by rw[a.out,decide_eq_false (fun h=>b.out h.1)];rfl,rfl⟩
theorem zfj (pe len hei cl:Int)(all:Bool)(be:Int)(w:World) :
  Calls Tryz.prog 34 #[.agg #[int i64 pe,int i64 len,int i64 hei,int i64 cl,.bool all,int i64 be]] w fun e w'=>SaysIf (qI ⟨pe,len,hei,cl,all,be⟩) e/\Below w.heap.size w w':=by
 obtain⟨A,l⟩:∃ c,c=decide (In pe 1 20):=⟨_,rfl⟩;obtain⟨B,m⟩:∃ c,c=decide (¬ (len=0/\hei=0)):=⟨_,rfl⟩;obtain⟨C,n⟩:∃ c,c=decide (In len 1 2000/\In hei 1 500):=⟨_,rfl⟩;obtain⟨v,o⟩:∃ c,c=decide (¬ (cl=0/\all=false/\be=0)):=⟨_,rfl⟩;obtain⟨x,p⟩:∃ c,c=decide (zbH cl all be):=⟨_,rfl⟩;have F:=hI l;have G:=hI m;have H:=hI n;have D:=hI o;have E:=hI p;have f:Hid (qI ⟨pe,len,hei,cl,all,be⟩↔A=true/\(B=false∨C=true)/\(v=false∨x=true)):=by
  show qI ⟨pe,len,hei,cl,all,be⟩↔A=true/\(B=false∨C=true)/\(v=false∨x=true)
  rw[l,m,n,o,p];unfold qI Q3;simp only[decide_eq_true_eq,decide_eq_false_iff_not,Classical.not_not]
 clear l m n o p;go_enter Tryz.func34,Tryz.ntmps34;go_wp2_with fail;have i:Below w.heap.size w (w.alloc (.cells #[int i64 pe,int i64 len,int i64 hei,int i64 cl,.bool all,int i64 be] 25)):=zr bZ _;have u:=heap_alloc_new w (.cells #[int i64 pe,int i64 len,int i64 hei,int i64 cl,.bool all,int i64 be] 25);generalize w.alloc (.cells #[int i64 pe,int i64 len,int i64 hei,int i64 cl,.bool all,int i64 be] 25)=W at i u ⊢;obtain⟨t,y,z,q,r,s⟩:=ce6 u;refine(ql _ _ _ _).mono ?_;rw[← F.out];rintro e w' ⟨rfl,a⟩;have a:=a.symm;subst a
 cases A with
 | false =>
  have j:Hid (¬ qI ⟨pe,len,hei,cl,all,be⟩):=fun h=>by have:=(f.out.1 h).1;cases this
  clear f;go_wp2;go_ret;exact⟨zC j.out,i⟩
 | true =>
  go_wp2_with fail;refine(zds pe len hei cl all be _).mono ?_;rw[← G.out];rintro e w1 ⟨rfl,k⟩;have b1:=zc u k;have g:=zj i k;clear t y z q r s i u k;have y:=za b1 1 _ rfl;have z:=za b1 2 _ rfl
  cases B with
  | false =>
   have t:=za b1 0 _ rfl;have q:=za b1 3 _ rfl;have r:=za b1 4 _ rfl;have s:=za b1 5 _ rfl;go_wp2_with fail;refine(zaK pe len hei cl all be _).mono ?_;rw[← D.out];rintro e I ⟨rfl,d⟩;have b2:=zc b1 d;have b:=zj g d;clear t y z q r s g b1 d;have q:=za b2 3 _ rfl;have r:=za b2 4 _ rfl;have s:=za b2 5 _ rfl
   cases v with
   | false =>
    go_wp2;go_ret;exact⟨says_yes (f.out.2 (by simp)),b⟩
   | true =>
    go_wp2_with fail;refine(wish_is _ _ _ _).mono ?_;rw[← E.out];rintro e w' ⟨rfl,a⟩;have a:=a.symm;subst a
    cases x with
    | true =>
     go_wp2;go_ret;exact⟨says_yes (f.out.2 (by simp)),b⟩
    | false =>
     have j:Hid (¬ qI ⟨pe,len,hei,cl,all,be⟩):=fun h=>by have h:=f.out.1 h;simp at h
     clear f;go_wp2;go_ret;exact⟨zC j.out,b⟩
  | true =>
   go_wp2_with fail;refine(isCar_is _ _ _).mono ?_;rw[← H.out];rintro e w' ⟨rfl,a⟩;have a:=a.symm;subst a
   cases C with
   | false =>
    have j:Hid (¬ qI ⟨pe,len,hei,cl,all,be⟩):=fun h=>by have h:=f.out.1 h;simp at h
    clear f;go_wp2;go_ret;exact⟨zC j.out,g⟩
   | true =>
    have t:=za b1 0 _ rfl;have q:=za b1 3 _ rfl;have r:=za b1 4 _ rfl;have s:=za b1 5 _ rfl;go_wp2_with fail;refine(zaK pe len hei cl all be _).mono ?_;rw[← D.out];rintro e I ⟨rfl,d⟩;have b2:=zc b1 d;have b:=zj g d;clear t y z q r s g b1 d;have q:=za b2 3 _ rfl;have r:=za b2 4 _ rfl;have s:=za b2 5 _ rfl
    cases v with
    | false =>
     go_wp2;go_ret;exact⟨says_yes (f.out.2 (by simp)),b⟩
    | true =>
     go_wp2_with fail;refine(wish_is _ _ _ _).mono ?_;rw[← E.out];rintro e w' ⟨rfl,a⟩;have a:=a.symm;subst a
     cases x with
     | true =>
      go_wp2;go_ret;exact⟨says_yes (f.out.2 (by simp)),b⟩
     | false =>
      have j:Hid (¬ qI ⟨pe,len,hei,cl,all,be⟩):=fun h=>by have h:=f.out.1 h;simp at h
      clear f;go_wp2;go_ret;exact⟨zC j.out,b⟩
theorem ZC (x:Int)(w:World) :
  Calls Tryz.prog 60 #[int i64 x] w fun e w'=>e=.returned (.bool (decide (In x 1 99)))/\w'=w:=by
 go_enter Tryz.func60,Tryz.ntmps60;go_wp2_with (first|(go_at_call 31;refine(ql _ _ _ _).mono ?_;rintro e w' ⟨rfl,rfl⟩))
 go_ret;exact⟨rfl,rfl⟩
theorem Zd (a b:ByteArray)(w:World)(i:a.size<=1000000000000000)(k:b.size<=1000000000000000) :
  Calls Tryz.prog 61 #[.string a,.string b] w fun e w'=>e=.returned (.bool (decide (zaP a b)))/\w'=w:=by
 obtain⟨c,j⟩:∃ c,c=decide (zaP a b):=⟨_,rfl⟩;rw[← j];have g:=hI j;clear j
 by_cases n1:qK a
 ·have d1:decide (qK a)=true:=decide_eq_true n1
  by_cases n2:qK b
  ·have d2:decide (qK b)=true:=decide_eq_true n2
   by_cases n3:a=b
   ·subst n3
    have l:(a.toList == a.toList)=true:=Q4.2 rfl;have f:Hid (¬ zaP a a):=fun h=>h.2.2 rfl
    clear n1 n2;go_enter Tryz.func61,Tryz.ntmps61;go_wp2_with (first|(go_at_call 33;refine sC (Zz _ _ i) ?_))
    go_ret;exact⟨by rw[g.out,decide_eq_false f.out];rfl,rfl⟩
   ·have l:(a.toList == b.toList)=false:=zaz.2 n3
    have f:Hid (zaP a b):=⟨n1,n2,n3⟩;clear n1 n2 n3;go_enter Tryz.func61,Tryz.ntmps61;go_wp2_with fail;refine(Zz _ _ i).mono ?_;rintro e w' ⟨rfl,d⟩;have d:=d.symm;subst d;go_wp2_with fail;refine(Zz _ _ k).mono ?_;rintro e w' ⟨rfl,d⟩;have d:=d.symm;subst d;go_wp2;go_ret;exact⟨by rw[g.out,decide_eq_true f.out];rfl,rfl⟩
  ·have d2:decide (qK b)=false:=decide_eq_false n2
   have f:Hid (¬ zaP a b):=fun h=>n2 h.2.1
   clear n1 n2;go_enter Tryz.func61,Tryz.ntmps61;go_wp2_with fail;refine(Zz _ _ i).mono ?_;rintro e w' ⟨rfl,d⟩;have d:=d.symm;subst d;go_wp2_with fail;refine(Zz _ _ k).mono ?_;rintro e w' ⟨rfl,d⟩;have d:=d.symm;subst d;go_wp2;go_ret;exact⟨by rw[g.out,decide_eq_false f.out];rfl,rfl⟩
 ·have d1:decide (qK a)=false:=decide_eq_false n1
  have f:Hid (¬ zaP a b):=fun h=>n1 h.1
  clear n1;go_enter Tryz.func61,Tryz.ntmps61;go_wp2_with fail;refine(Zz _ _ i).mono ?_;rintro e w' ⟨rfl,d⟩;have d:=d.symm;subst d;go_wp2;go_ret;exact⟨by rw[g.out,decide_eq_false f.out];rfl,rfl⟩
theorem zdR (q:Option Addr)(n c:Nat)(p:qi)(w:World)(hl:p.n=n)(hn:n<=1048576)(x:qd w q p) :
  Calls Tryz.prog 63 #[.slice q n c] w fun e w'=>SaysIf (ZG p 6 1 3 1 4) e/\Below w.heap.size w w':=by
 have f:=hI hl;clear hl
 by_cases h0:n<=6
 ·have r:decide (6<n)=false:=by simp;omega
  go_enter Tryz.func63,Tryz.ntmps63;go_wp2;go_loopw [4,10] (fun _ i wr=>∃ k:Nat,k<=n/\i=int i64 k/\(∀ j,j<k->In (p.A j) 1 3/\In (p.B j) 1 4)/\Below w.heap.size w wr) (fun _ i _=>n - (intOf i).toNat)
  case atStart=>exact⟨0,Nat.zero_le _,rfl,fun j l=>by omega,bZ⟩
  case round =>
   obtain⟨k,hk,rfl,d,a⟩:=hrel;have o:=hI d;clear d r
   by_cases hlt:k<n
   ·obtain⟨b,off,rfl,m,s⟩:=x k (by rw[f.out];omega)
    have t:=World.block_lt_of_cell? w _ m;have c1:=(a.cell (p:=⟨b,off+k*2,none⟩) t).trans m;have c2:=(a.cell (p:=⟨b,off+k*2+1,none⟩) t).trans s;clear m s
    by_cases g1:In (p.A k) 1 3
    ·have u:decide (In (p.A k) 1 3)=true:=decide_eq_true g1
     by_cases g2:In (p.B k) 1 4
     ·have v:decide (In (p.B k) 1 4)=true:=decide_eq_true g2
      have g:Hid (In (p.A k) 1 3/\In (p.B k) 1 4):=⟨g1,g2⟩;clear g1 g2;go_wp2_with (first|(go_at_call 97;refine sC (QR _ _) ?_)|(go_at_call 98;refine sC (zbi _ _) ?_))
      go_roundw
      case rel=>exact⟨k+1,by omega,by go_num,fun j l=>by
       by_cases e:j=k
       ·subst e;exact g.out
       ·exact o.out j (by omega),zr a _⟩
      case measure=>simp[intOf];omega
     ·have v:decide (In (p.B k) 1 4)=false:=decide_eq_false g2
      have g:=hI g2;clear g1 g2;go_wp2_with (first|(go_at_call 97;refine sC (QR _ _) ?_)|(go_at_call 98;refine sC (zbi _ _) ?_))
      go_ret;exact⟨zC (fun h=>g.out (h.2 k (by rw[f.out];exact hlt)).2),zr a _⟩
    ·have u:decide (In (p.A k) 1 3)=false:=decide_eq_false g1
     have g:=hI g1;clear g1;go_wp2_with (first|(go_at_call 97;refine sC (QR _ _) ?_)|(go_at_call 98;refine sC (zbi _ _) ?_))
     go_ret;exact⟨zC (fun h=>g.out (h.2 k (by rw[f.out];exact hlt)).1),zr a _⟩
   ·obtain rfl:k=n:=by omega
    go_wp2;go_ret;exact⟨says_yes ⟨by rw[f.out];exact h0,fun j l=>o.out j (by rw[f.out] at l;exact l)⟩,a⟩
 ·have r:decide (6<n)=true:=by simp;omega
  go_enter Tryz.func63,Tryz.ntmps63;go_wp2;go_ret;exact⟨zC (fun h=>by have:=h.1;rw[f.out] at this;exact h0 this),bZ⟩
section
open Go.ChangeShapes Go.WideShapes Go.ChangeAt Go.RowKit
theorem Tryz.gForms : Tryz.prog.globalNamed "loop.example/g00084/impl.opForms" = some 0 := by kernel_rfl
theorem Tryz.gFormsType:(Tryz.prog.globals[0]?).map (·.type)=some 70:=by kernel_rfl
theorem Tryz.cellsF10:Tryz.prog.cellsOf 70=70:=by kernel_rfl
theorem Tryz.cellsForm:Tryz.prog.cellsOf 69=7:=by kernel_rfl
theorem Tryz.cellsInt1:Tryz.prog.cellsOf 3=1:=by kernel_rfl
theorem Tryz.cellsBool1:Tryz.prog.cellsOf 4=1:=by kernel_rfl
/-- A form read as its seven fields is those seven cells. -/
theorem zai {H:Type}{enc:TypeId × Value->H}{W:World}{base:Nat}{b:Nat->Bool}{c:Bool}{m:Nat}{l:List Value}{x:DataW H × List MemPlace}{e f:Bool}{i:Int}{g a4 j k:Bool}
  (h:DataW.trod enc Tryz.prog W base b c m 69 l=some x) (E:x.1=.agg [.lit (.bool e),.lit (.bool f),.lit (.int .i64 i),.lit (.bool g),.lit (.bool a4),.lit (.bool j),.lit (.bool k)]) :
  l=[.bool e,.bool f,int i64 i,.bool g,.bool a4,.bool j,.bool k]:=by
 obtain⟨N,n,_,rfl,hl,d,a⟩:=DataW.trod_struct Tryz.underlying69 h;rw[Tryz.cellsForm] at hl
 match N,d,l,hl with
 | [y0,y1,y2,y3,y4,y5,y6],_,[c0,c1,c2,c3,c4,c5,c6],_ =>
  have v:=a 0 _ rfl;have w:=a 1 _ rfl;have y:=a 2 _ rfl;have z:=a 3 _ rfl;have B:=a 4 _ rfl;have C:=a 5 _ rfl;have D:=a 6 _ rfl;simp[Tryz.cellsInt1,Tryz.cellsBool1] at v w y z B C D;obtain⟨k0,o,F⟩:=DataW.trod_bool Tryz.underlying4 v;obtain⟨k1,p,G⟩:=DataW.trod_bool Tryz.underlying4 w;obtain⟨k2,q,I,_⟩:=DataW.trod_int Tryz.underlying3 y;obtain⟨k3,r,J⟩:=DataW.trod_bool Tryz.underlying4 z;obtain⟨k4,s,K⟩:=DataW.trod_bool Tryz.underlying4 B;obtain⟨k5,t,L⟩:=DataW.trod_bool Tryz.underlying4 C;obtain⟨k6,u,M⟩:=DataW.trod_bool Tryz.underlying4 D;simp[F,G,I,J,K,L,M] at E;simp at o p q r s t u;obtain⟨rfl,rfl,rfl,rfl,rfl,rfl,rfl⟩:=E;rw[o,p,q,r,s,t,u]
theorem row_cell {l:List Value}{k j:Nat}(a:j<7)(r:List Value)(h:(l.drop (k*7)).take 7=r):l[k*7+j]?=r[j]?:=by
 rw[← h,List.getElem?_take,if_pos a,List.getElem?_drop]
theorem forms_of {H:Type}{enc:TypeId × Value->H}{W:World}{base:Nat}{e:Nat->Bool}{f:Bool}{fuel:Nat}{p:List MemPlace}{cs:Array Value}
  (hv : W.var? Tryz.prog "loop.example/g00084/impl.opForms" = some cs)
  (hd:DataW.trod enc Tryz.prog W base e f fuel 70 cs.toList=some (Rows.laid_loop_example_g00084_impl_opForms,p)):Qb W:=by
 obtain⟨B,m,_,i,g,hn,b⟩:=DataW.trod_array Tryz.underlying70 hd;rw[Tryz.cellsF10] at g;rw[Tryz.cellsForm] at b;have cell:=World.var?_cell Tryz.gForms hv;obtain⟨l⟩:=cs;simp only[Prod.mk.injEq] at i;have i:=i.1
 match B,hn with
 | [x0,x1,x2,x3,x4,x5,x6,x7,x8,x9],_ =>
  simp[Rows.laid_loop_example_g00084_impl_opForms] at i;obtain⟨q,s,t,u,v,w,x,y,z,A⟩:=i;intro k hk;have c:∀ r:List Value,(l.drop (k*7)).take 7=r->∀ j,j<7->W.cell? ⟨0,k*7+j,none⟩=r[j]?:=fun r h j o=>by
   have:=cell (k*7+j);simp at this;rw[this];exact row_cell o r h
  have n:k=0∨k=1∨k=2∨k=3∨k=4∨k=5∨k=6∨k=7∨k=8∨k=9:=by omega
  rcases n with rfl|rfl|rfl|rfl|rfl|rfl|rfl|rfl|rfl|rfl
  ·have d:=zai (b 0 (by decide)) q.symm
   have a:=c _ d;exact⟨a 0 (by decide),a 1 (by decide),a 2 (by decide),a 3 (by decide),a 4 (by decide),a 5 (by decide),a 6 (by decide)⟩
  ·have d:=zai (b 1 (by decide)) s.symm
   have a:=c _ d;exact⟨a 0 (by decide),a 1 (by decide),a 2 (by decide),a 3 (by decide),a 4 (by decide),a 5 (by decide),a 6 (by decide)⟩
  ·have d:=zai (b 2 (by decide)) t.symm
   have a:=c _ d;exact⟨a 0 (by decide),a 1 (by decide),a 2 (by decide),a 3 (by decide),a 4 (by decide),a 5 (by decide),a 6 (by decide)⟩
  ·have d:=zai (b 3 (by decide)) u.symm
   have a:=c _ d;exact⟨a 0 (by decide),a 1 (by decide),a 2 (by decide),a 3 (by decide),a 4 (by decide),a 5 (by decide),a 6 (by decide)⟩
  ·have d:=zai (b 4 (by decide)) v.symm
   have a:=c _ d;exact⟨a 0 (by decide),a 1 (by decide),a 2 (by decide),a 3 (by decide),a 4 (by decide),a 5 (by decide),a 6 (by decide)⟩
  ·have d:=zai (b 5 (by decide)) w.symm
   have a:=c _ d;exact⟨a 0 (by decide),a 1 (by decide),a 2 (by decide),a 3 (by decide),a 4 (by decide),a 5 (by decide),a 6 (by decide)⟩
  ·have d:=zai (b 6 (by decide)) x.symm
   have a:=c _ d;exact⟨a 0 (by decide),a 1 (by decide),a 2 (by decide),a 3 (by decide),a 4 (by decide),a 5 (by decide),a 6 (by decide)⟩
  ·have d:=zai (b 7 (by decide)) y.symm
   have a:=c _ d;exact⟨a 0 (by decide),a 1 (by decide),a 2 (by decide),a 3 (by decide),a 4 (by decide),a 5 (by decide),a 6 (by decide)⟩
  ·have d:=zai (b 8 (by decide)) z.symm
   have a:=c _ d;exact⟨a 0 (by decide),a 1 (by decide),a 2 (by decide),a 3 (by decide),a 4 (by decide),a 5 (by decide),a 6 (by decide)⟩
  ·have d:=zai (b 9 (by decide)) A.symm
   have a:=c _ d;exact⟨a 0 (by decide),a 1 (by decide),a 2 (by decide),a 3 (by decide),a 4 (by decide),a 5 (by decide),a 6 (by decide)⟩
end
end Go.Proofs.YtfallpinmhbemaaGreatDoor
