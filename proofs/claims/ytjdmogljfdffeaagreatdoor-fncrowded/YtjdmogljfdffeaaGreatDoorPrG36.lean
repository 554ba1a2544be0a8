import Derived.Test.YtjdmogljfdffeaaGreatDoorPrAo
import Derived.RangeFuncNested
import Derived.RangeFuncBound
import Derived.RangeFuncCalls
import Derived.RangeFuncLeaves
import Derived.RangeFuncBox
import Derived.Shelf.Abstract
import Derived.Shelf.RegionOpenV
import Derived.OwnWalkIn
import Derived.TacticsInMore
import Derived.LoopNIn
import Derived.LoopIn
import Derived.Sort.QuietIn
import Derived.Maps.AppendAt
import Derived.Maps.OwnIn
import Derived.Test.YtjdmogljfdffeaaGreatDoorPrG35
set_option maxHeartbeats 16000000
set_option maxRecDepth 8000
set_option linter.all false
namespace Go.Proofs.YtjdmogljfdffeaaGreatDoor
open _root_.ByteArray(empty)
section
open Tryz
open Go.RowKit Go.Shelf
attribute [local go_sem] Oper.semAt_some
def bn(b a c k:Nat):Value:=.slice (some ⟨b,a+k*20*2,none⟩) (min 20 (c-k*20)) (min 20 (c-k*20))
theorem tN(w:World)(q:Nat):w.grownBy (w.drewN q) none:=⟨rfl,rfl,rfl,Y _,λ_ _ _=>rfl⟩
theorem Di(F:Fence)(n:Nat)(N:F.fn 177)(K:F.round=none)(hn:1<=n)(l j h b g c d:Nat)(P:c<=100)(O:c<=d)(y:World->World->Prop)(o:∀A B,y A B->B.cell? ⟨j,0,none⟩=A.cell? ⟨j,0,none⟩/\B.cell? ⟨h,0,none⟩=A.cell? ⟨h,0,none⟩)(a w:List Nat->World->Prop)
  (D:∀f x W,a f W->f.length<(c+19) / 20->YieldAt F (n-1) prog l #[bn b g c x] W λe i =>
   (e=.returned (.bool true)/\a (f++[x]) i/\y W i)\/(e=.returned (.bool false)/\w (f++[x]) i))
  (W:World)(H:W.cell? ⟨j,0,none⟩=some (.slice (some ⟨b,g,none⟩) c d))(G:W.cell? ⟨h,0,none⟩=some (.int .i64 20))(M:a [] W)(C:∀s A B,a s A->A.grownBy B none->a s B):CallsIn F n prog 177 #[.func (.yield l) #[] #[],.pointer (some ⟨j,0,none⟩),.pointer (some ⟨h,0,none⟩)] W λe i=>(∃v,e=.returned v) /\
   ((∃k,k=List.range ((c+19) / 20)/\a k i)\/(∃f,True/\w f i)):=by
 refine JM func177 rfl N ?_ K;simp only[ntmps177,GK,CA,AR,Nat.reduceAdd,Nat.reduceSub,FT,FU,GJ,FE,DQ,DZ]
 gi_wp2
 gi_loopw [4] (λi wr=>∃k q:Nat,q=k*20/\k<=(c+19) / 20/\i=.int .i64 (q:Int)/\a (List.range k) wr/\wr.cell? ⟨j,0,none⟩=some (.slice (some ⟨b,g,none⟩) c d)/\wr.cell? ⟨h,0,none⟩=some (.int .i64 20)) (λi _=>c+20-(intOf i).toNat)
 case atStart=>exact⟨0,0,rfl,AO _,rfl,M,H,G⟩
 case round =>
  obtain⟨k,q,e,hk,rfl,u,z,x⟩:=hrel;have f:=Z e;clear e;have S:prog.follows .mixedOrders=true:=κ
  by_cases R:q<c
  ·have T:(0:Int)<=(q:Int):=ω
   have U:(q:Int)<=(c:Int):=ω
   have X:(q:Int)<(c:Int):=ω
   have aW:(c:Int)<=(d:Int):=ω
   by_cases hc:20<=c-q
   ·have p:Hid (min 20 (c-q)=20):=by show _=_;omega
    have I:(q:Int)+20<=(c:Int):=ω
    have Q:(q:Int)+20<=(d:Int):=ω
    gi_wp2
    gi_big_quiet_th_v (fail)
    obtain⟨L,m,B,E,i,v⟩:=D _ k (wr.drewN nq) (C _ _ _ u (tN wr nq)) (by have:=f.l;rw[KC];omega);have s:(wr.drewN nq).cell? ⟨j,0,none⟩=some (.slice (some ⟨b,g,none⟩) c d):=z;unfold bn at i;rw[<-f.l,p.l]at i
    gi_wp2
    refine v.A ?_;rintro e A (⟨rfl,hJ3,hk3⟩|⟨rfl,hJx3⟩)
    ·have r:=(o _ _ hk3).2.j (show(wr.drewN nq).cell? ⟨h,0,none⟩=some (.int .i64 20) from x)
     have t:=(o _ _ hk3).1.j s
     gi_wp2
     go_roundw
     case rel=>exact⟨k+1,q+20,by have:=f.l;omega,by have:=f.l;omega,σ,by rw[FA];exact hJ3,t,r⟩
     case measure=>simp[intOf];omega
    gi_wp2
    refine AI (JU rfl _ _ _) rfl ?_;exact⟨⟨_,rfl⟩,.inr ⟨_,trivial,hJx3⟩⟩
   have p:Hid (min 20 (c-q)=c-q):=by show _=_;omega
   have I:(q:Int)+((c-q:Nat):Int)=(c:Int):=ω
   gi_wp2
   gi_big_quiet_th_v (fail)
   obtain⟨L,m,B,E,i,v⟩:=D _ k (wr.drewN nq) (C _ _ _ u (tN wr nq)) (by have:=f.l;rw[KC];omega);have s:(wr.drewN nq).cell? ⟨j,0,none⟩=some (.slice (some ⟨b,g,none⟩) c d):=z;unfold bn at i;rw[<-f.l,p.l]at i
   gi_wp2
   refine v.A ?_;rintro e A (⟨rfl,hJ3,hk3⟩|⟨rfl,hJx3⟩)
   ·have r:=(o _ _ hk3).2.j (show(wr.drewN nq).cell? ⟨h,0,none⟩=some (.int .i64 20) from x)
    have t:=(o _ _ hk3).1.j s
    gi_wp2
    go_roundw
    case rel=>exact⟨k+1,q+20,by have:=f.l;omega,by have:=f.l;omega,σ,by rw[FA];exact hJ3,t,r⟩
    case measure=>simp[intOf];omega
   gi_wp2
   refine AI (JU rfl _ _ _) rfl ?_;exact⟨⟨_,rfl⟩,.inr ⟨_,trivial,hJx3⟩⟩
  have e:k=(c+19) / 20:=by have:=f.l;omega
  gi_wp2
  go_end0;exact⟨⟨_,rfl⟩,.inl ⟨_,by rw[e],u⟩⟩
theorem Fw(F:Fence)(n:Nat)(k:F.fn 177)(h:F.round=none)(l d f c:Nat)(a:Option Addr)(b:List Nat->World->Prop)(W:World)(m:W.cell? ⟨d,0,none⟩=some (.slice a 0 c))(j:b [] W):CallsIn F n prog 177 #[.func (.yield l) #[] #[],.pointer (some ⟨d,0,none⟩),.pointer (some ⟨f,0,none⟩)] W λe g=>(∃v,e=.returned v)/\b [] g:=by
 refine JM func177 rfl k ?_ h;simp only[ntmps177,GK,CA,AR,Nat.reduceAdd,Nat.reduceSub,FT,FU,GJ,FE,DQ,DZ]
 gi_wp2
 gi_loopw [4] (λi wr=>i=.int .i64 0/\wr=W) (λ_ _=>0)
 case atStart=>exact⟨rfl,rfl⟩
 case round =>
  obtain⟨rfl,rfl⟩:=hrel
  gi_wp2
  go_end0;exact⟨⟨_,rfl⟩,j⟩
theorem zG(F:Fence)(n:Nat)(f:F.fn 151)(d:F.round=none)(a:Option Addr)(c b:Nat)(w:World):CallsIn F n prog 151 #[.slice a c b,.int .i64 20] w λe g=>e=.returned (.func (.func 177) #[] #[.pointer (some ⟨w.heap.size,0,none⟩),.pointer (some ⟨w.heap.size+1,0,none⟩)])/\g=(w.alloc (.cells #[.slice a c b] 29)).alloc (.cells #[.int .i64 20] 3):=by
 refine JM func151 rfl f ?_ d;simp only[ntmps151,GK,CA,AR,Nat.reduceAdd,Nat.reduceSub,FT,FU,GJ,FE,DQ,DZ]
 gi_wp2
 go_ret;exact⟨rfl,rfl⟩
theorem Em(F:Fence)(n:Nat)(t:F.fn 177)(p:F.round=none)(K:1<=n)(g f b i h d:Nat)(a:Option Addr)(y:h<=100)(v:h<=d)(w:World)(C:g<w.heap.size)(z:f<w.heap.size)(k:World->World->Prop)(E:∀A B,k A B->B.cell? ⟨g,0,none⟩=A.cell? ⟨g,0,none⟩/\B.cell? ⟨f,0,none⟩=A.cell? ⟨f,0,none⟩)
  (o:w.cell? ⟨g,0,none⟩=some (.slice a h d))(I:w.cell? ⟨f,0,none⟩=some (.int .i64 20))(H:h=0\/a=some ⟨b,i,none⟩):SeqStopsK F n prog 177 #[.pointer (some ⟨g,0,none⟩),.pointer (some ⟨f,0,none⟩)] (λx:Nat=>#[bn b i h x]) k (λj=>j=List.range ((h+19) / 20)) (λ_=>True) ((h+19) / 20) w:=λl c u W e D m G q=>by
 have j:=(e.cell (p:=⟨g,0,none⟩) C).j o;have m:=(e.cell (p:=⟨f,0,none⟩) z).j I;rcases H with rfl|rfl
 ·exact(Fw F n t p l g f d a c W j q).A λe W' ⟨he,hj⟩=>⟨he,.inl ⟨_,rfl,hj⟩⟩
 exact Di F n t p K l g f b i h d y v k E c u G W j m q (λs A B o x=>D s A B none o x (λr e=>(by cases e)))
end
section
open Tryz
open Go.RowKit Go.Shelf
variable {B Bn Bs n₀:Nat}{v:Value}{W w:World}
def KpC(n₀ Bs Bn:Nat)(A B:World):Prop:=Below n₀ A B/\B.cell? ⟨Bs,0,none⟩=A.cell? ⟨Bs,0,none⟩/\B.cell? ⟨Bn,0,none⟩=A.cell? ⟨Bn,0,none⟩
theorem KpC.t{A B C:World}(h:KpC n₀ Bs Bn A B)(k:KpC n₀ Bs Bn B C):KpC n₀ Bs Bn A C:=⟨h.1.j k.1,k.2.1.j h.2.1,k.2.2.j h.2.2⟩
theorem KpC.b(d:n₀<=w.heap.size)(f:Bs<w.heap.size)(g:Bn<w.heap.size)(W:World)(l:Nat)(o a:Obj)(c:w.heap.size<=l)(h:W.heap[l]?=some o)(b:o.isCells=false)(e:o.isWalk=false):KpC n₀ Bs Bn W (W.putObj l a) :=⟨belowK_b d W l o a c h b e,CT (World.putObj_heap_other (by show Bs≠l;omega)),CT (World.putObj_heap_other (by show Bn≠l;omega))⟩
theorem Bat.boxed{a:Nat}{u z:Value}{b:List (List Ch)}(h:Bat w a v b)(f:Boxed w B 114 u):Bat (w.setCell ⟨B,0,none⟩ z) a v b:=by
 obtain⟨k,c,d,j⟩:=h;refine⟨k,c.kept (grownBy_setCell' w B z) (.inr λe=>f.not_row δ c e.symm),λi g=>(d i g).kept (grownBy_setCell' w B z) (.inr λe=>f.not_row δ (d i g) e.symm),j⟩
theorem nU{X a:World}{c:Option Nat}{b:Nat}{e:TypeId}{s:Nat}{n:Nat}{f:List Value}(h:X.ownsRow b e s v n f)(p:X.grownBy a c)(q:∀r,c=some r->∃o:Obj,X.heap[r]?=some o/\o.isCells=false):a.ownsRow b e s v n f:=by
 refine h.kept p ?_;rcases h.2 with ⟨rfl,_⟩|⟨g,j,k,rfl,_,i,_⟩
 ·exact .inl rfl
 refine .inr λl=>?_
 obtain⟨o,d,m⟩:=q g (by simpa[Value.ownBlock] using l.symm)
 rw[i]at d;cases d;cases m
theorem zi{X a:World}{b:Option Nat}{t:TypeId}(h:Boxed X B t v)(f:X.grownBy a b)(g:∀r,b=some r->∃o:Obj,X.heap[r]?=some o/\o.isCells=false):Boxed a B t v:=by
 refine h.kept f λe=>?_
 obtain⟨o,c,d⟩:=g B e.symm
 rw[show X.heap[B]?=_ from h]at c;cases c;cases d
def InSn(n₀ B Bs Bn:Nat)(b:Value)(a:List (List Ch))(W:World):Prop:=∃v,Boxed W B 114 v/\Bat W n₀ v a/\Boxed W Bs 29 b/\Boxed W Bn 3 (.int .i64 20)
theorem InSn.own(n₀ B Bs Bn:Nat)(m:Value)(f:List Nat->List (List Ch)):Own (λa W=>InSn n₀ B Bs Bn m (f a) W):=by
 rintro s X a l ⟨v,hv,⟨n,d,e,g⟩,h,j⟩ b c;exact⟨v,zi hv b c,⟨n,nU d b c,λi k=>nU (e i k) b c,g⟩,zi h b c,zi j b c⟩
theorem xD{a:World}(h:Below W.heap.size W a):KeepsOthers W a:=⟨h.size,λk o b _=>(h.block k (AT.1 b).1).j b⟩
theorem InSn.push{wr a:World}{x c y:Value}{f:List (List Ch)}{q:List Ch}{p:List Value}{d:Obj}(E:n₀<=W.heap.size)(O:n₀<=B)(hv:Boxed W B 114 v)(A:W.ownsRow n₀ 40 1 v f.length p)(C:∀i,i<f.length->W.ownsRow n₀ 45 3 (p.getD i OC) (f.getD i []).length (MJ (f.getD i [])))
  (N:∀i j k,i<j->j<f.length->(p.getD i OC).ownBlock=some k->(p.getD j OC).ownBlock≠some k)(s:Boxed W Bs 29 x)(r:Boxed W Bn 3 (.int .i64 20))(l:Below W.heap.size W wr)
  (F:wr.ownsRow W.heap.size 45 3 y q.length (MJ q))(P:a.ownsRow n₀ 40 1 c (f.length+1) (p++[y]))(n:(wr.alloc d).grownBy a v.ownBlock):Boxed a B 114 v/\InSn n₀ B Bs Bn x (f++[q]) (a.setCell ⟨B,0,none⟩ c)/\KeepsOthers W (a.setCell ⟨B,0,none⟩ c)/\KpC n₀ Bs Bn W (a.setCell ⟨B,0,none⟩ c):=by
 have m:∀ {b:Nat} {t:TypeId} {u:Value},Boxed W b t u->Boxed wr b t u:=λh=>(l.block _ h.lt).j h
 have h:=LR A l;have z:Boxed a B 114 v:=((m hv).alloc d).kept n ((m hv).not_row δ h);have K:Boxed a Bs 29 x:=((m s).alloc d).kept n ((m s).not_row δ h);have I:Boxed a Bn 3 (.int .i64 20):=((m r).alloc d).kept n ((m r).not_row δ h)
 have G:Bat a n₀ c (f++[q]):=Bat.push (h.alloc d) (λi g=>(LR (C i g) l).alloc d) N ((zf F E).alloc d) (λi k g o e=>by
  have S:=(C i g).lt k o;have T:=F.lt k e
  omega) P n
 have R:Bs≠B:=λe=>by
  have:=(show W.heap[Bs]?=_ from s);rw[e,show W.heap[B]?=_ from hv]at this;simp at this
 have Q:Bn≠B:=λe=>by
  have:=(show W.heap[Bn]?=_ from r);rw[e,show W.heap[B]?=_ from hv]at this;simp at this
 have k:Boxed (a.setCell ⟨B,0,none⟩ c) Bs 29 x:=K.kept (grownBy_setCell' a B c) (by simp[R]);have i:Boxed (a.setCell ⟨B,0,none⟩ c) Bn 3 (.int .i64 20):=I.kept (grownBy_setCell' a B c) (by simp[Q]);refine⟨z,⟨c,z.set c,G.boxed z,k,i⟩,?_,?_,k.cell.j s.cell.symm,i.cell.j r.cell.symm⟩
 ·refine(((xD l).j (KeepsOthers.alloc _ d)).j (KeepsOthers.of_grownBy n λj o e D=>?_)).j (KeepsOthers.setCell _ _ _)
  rcases(h.alloc d).2 with ⟨rfl,_⟩|⟨g,L,M,rfl,_,H,_⟩
  ·simp[Value.ownBlock]at e
  obtain rfl:g=j:=by simpa[Value.ownBlock] using e
  rw[H]at D;cases D;rfl
 refine((((AC n₀ W).j (l.A E)).alloc (by have:=l.size;omega) d).I n (by have:=l.size;simp;omega) λj e=>?_).setCell (p:=⟨B,0,none⟩) O c
 exact(A.lt j e).1
theorem InSn.z{b:World}{f:Value}{c:List (List Ch)}(h:InSn n₀ B Bs Bn f c W)(a:Below W.heap.size W b):InSn n₀ B Bs Bn f c b:=by
 obtain⟨v,hv,g,d,e⟩:=h;exact⟨v,(a.block _ hv.lt).j hv,g.z a,(a.block _ d.lt).j d,(a.block _ e.lt).j e⟩
theorem Jg{b o:Nat}{a:List Pr}(h:Prs w (some ⟨b,o,none⟩) a)(k:Nat):Prs w (some ⟨b,o+k*20*2,none⟩) ((a.drop (k*20)).take 20):=by
 rcases h with h|⟨j,l,c,d,f⟩
 ·subst h;exact .inl σ
 cases c
 refine .inr ⟨b,o+k*20*2,rfl,d,λi g=>?_⟩;simp only[BF,BV]at g;have:=f (k*20+i) ω;rw[show o+k*20*2+i*2=o+(k*20+i)*2 by omega]
 have e:((a.drop (k*20)).take 20).getD i (empty,empty)=a.getD (k*20+i) (empty,empty):=by
  simp[List.getD,FR,FK,show i<20 by omega]
 rw[e];exact this
end
section
open Tryz
open Go.RowKit Go.Shelf
attribute [local go_sem] Oper.semAt_some
theorem qB(a:Option Addr)(d:List Pr)(c:Nat)(w:World)(h:Prs w a d)(hc:d.length<=c)(hl:d.length<=1048576)(I:∀x∈d,x.1.size<=1048576/\x.2.size<=1048576):Calls prog 115 #[.agg #[.slice a d.length c]] w λe b=>∃v,e=.returned v/\Bat b w.heap.size v (LI d)/\Below w.heap.size w b:=by
 refine(EX (n:=4)).1 ?_;unfold LI;have b:Below w.heap.size w (w.alloc (.cells #[.slice a d.length c] 31)):=KW _ _;have hv:=nn a d c (w.alloc (.cells #[.slice a d.length c] 31)) (h.z b) hl I;have k:=Z hv;have g:=Z b;clear hv b;refine callsIn_of_wp_marks func115 rfl trivial ?_ rfl;simp only[ntmps115,GK,CA,AR,Nat.reduceAdd,Nat.reduceSub,FT,FU,GJ,FE,DQ,DZ]
 cases hok:LV d with
 | false =>
  rw[hok]at k;simp only[EW,IJ]
  gi_wp2_with (refine⟨trivial,?_⟩;gi_at_call 71;refine(EX.2 k.l).A ?_;rintro e f ⟨rfl,i⟩)
  exact⟨_,results_tmp rfl _ _ _,_,rfl,Bat.nil _ _,g.l.j (i.A g.l.size)⟩
 | true =>
  rw[hok]at k;simp only[GZ];have cZ:d.length<=100:=(ZT hok).1
  gi_wp2_with (first|(refine⟨trivial,?_⟩;gi_at_call 71;refine(EX.2 k.l).A ?_;rintro e f ⟨rfl,i⟩;have q:f.cell? ⟨w.heap.size,0,none⟩=some (.slice a d.length c):=NX i γ σ;have eB:w.heap.size<f.heap.size:=AD σ i.size)|(refine⟨trivial,?_⟩;gi_at_call 151;refine(zG Fence.wide _ trivial rfl _ _ _ _).A ?_;rintro e w4 ⟨rfl,rfl⟩))
  obtain⟨b,o,l,m⟩:∃b o,(d.length=0\/a=some ⟨b,o,none⟩)/\Prs w (some ⟨b,o,none⟩) d:=by
   rcases h with h|⟨b,o,j,n,p⟩
   ·exact⟨0,0,.inl (by rw[h];rfl),.inl h⟩
   exact⟨b,o,.inr j,.inr ⟨b,o,rfl,n,p⟩⟩
  have j:=m.z (g.l.j (i.A g.l.size));have U:=Z j;have F:=Z (g.l.j (i.A g.l.size));have cF:=Z l;clear m j l h k g i q;obtain⟨i0,g,l,m,n⟩:=kk uQ;have C:=Z (AH g (AH l (AH m n)));obtain⟨i1,q,i,j,k⟩:=kk sP;have E:=Z (AH q (AH i (AH j k)));clear g l m n q i j k;have X:=Boxed.new f 114 (.slice none 0 0);have H:=Boxed.new (f.alloc (.cells #[.slice none 0 0] 114)) 29 (.slice a d.length c);have G:=Boxed.new ((f.alloc (.cells #[.slice none 0 0] 114)).alloc (.cells #[.slice a d.length c] 29)) 3 (.int .i64 20);simp only[BB]at H G;have cU:Below f.heap.size f (((f.alloc (.cells #[.slice none 0 0] 114)).alloc (.cells #[.slice a d.length c] 29)).alloc (.cells #[.int .i64 20] 3)):=(((AC _ f).alloc (Y _) _).alloc σ _).alloc τ _
  refine wpIn_rangeFunc_ownG rfl ω (gf:=177) (lb:=#[.pointer (some ⟨f.heap.size+1,0,none⟩),.pointer (some ⟨f.heap.size+1+1,0,none⟩)]) rfl trivial (enters_of func177 κ rfl)
   (Em Fence.wide 3 trivial rfl ω (f.heap.size+1) (f.heap.size+1+1) b o d.length c a cZ hc _ σ σ (KpC f.heap.size (f.heap.size+1) (f.heap.size+1+1)) (λA B h=>h.2) (H.alloc _).cell G.cell cF.l)
   KpC.t (KpC.b τ σ σ) (AC _ _) (λ_=>rfl)
   (λk W=>InSn f.heap.size f.heap.size (f.heap.size+1) (f.heap.size+1+1) (.slice a d.length c) (k.map (NU d)) W/\Below f.heap.size f W)
   (λ_ _ _=>False)
   (OwnFrom.and (Own.from (InSn.own _ _ _ _ _ (λk=>k.map (NU d))) _) (ownFrom_below (Y _) τ))
   (λ_ _ _ _ _ I _ _=>I)
   ⟨⟨_,(X.alloc _).alloc _,Bat.nil _ _,H.alloc _,G⟩,cU⟩
   (λx=>{ tmps:=#[.agg #[.slice a d.length c],.pointer (some ⟨w.heap.size,0,none⟩),.slice none 0 0,.pointer (some ⟨f.heap.size,0,none⟩),bn b o d.length x,undef,undef,undef,.agg #[.slice a d.length c],.bool true,.bool false,.pointer (some ⟨w.heap.size,0,none⟩),.slice a d.length c,.func (.func 177) #[] #[.pointer (some ⟨f.heap.size+1,0,none⟩),.pointer (some ⟨f.heap.size+1+1,0,none⟩)],bn b o d.length x,undef,undef,undef,undef,undef,undef,undef,undef,undef,undef,undef,undef,undef,undef,undef,undef,undef,undef,undef,undef],defers:=[] }) ?assign ?body ?done ?stop
  case assign =>
   intro l x W K g
   gi_wp2
   exact g
  case body =>
   rintro l k x W ⟨⟨v,hv,⟨T,j,n,p⟩,s,q⟩,B⟩ dV;have r:=Jg (U.l.z B) x;obtain⟨m,g⟩:∃m,m=(d.drop (x*20)).take 20:=⟨_,rfl⟩;have t:m.length=min 20 (d.length-x*20):=by rw[g];simp
   have cJ:Hid (NU d x=m.map US):=by show _=_;rw[g];rfl
   obtain⟨D,i⟩:∃D,D=o+x*20*2:=⟨_,rfl⟩;unfold bn;rw[<-t,<-i];rw[<-g,<-i]at r;have dH:m.length<=20:=ω
   have cP:=Z r;have z:=Z j;have K:=Z n;have L:=Z p;have A:=Z hv;have cQ:=Z s;have cL:=Z q;have M:=Z B;clear r j n p hv s q g i t
   gi_wp2
   gi_loopw [5,17] (λy i wr=>∃j:Nat,j<=m.length/\i=.int .i64 (j:Int)/\wr.ownsRow W.heap.size 45 3 y j (MJ ((m.map US).take j))/\Below W.heap.size W wr) (λ_ i _=>m.length-(intOf i).toNat)
   case atStart=>exact⟨0,AO _,rfl,CE _ _ _ _,AC _ _⟩
   case round =>
    obtain⟨j,hj,rfl,r,n⟩:=hrel;have N:=Z n
    by_cases y:j<m.length
    ·obtain⟨P,ob,g,p,q,S,dQ,O⟩:=(cP.l.z n).at y
     obtain⟨rfl,rfl⟩:b=P/\D=ob:=by cases q;exact⟨rfl,rfl⟩
     clear q;have cY:(j:Int)<(m.length:Int):=ω
     have q:(0:Int)<=(j:Int):=ω
     have u:=Z ((r.alloc (.cells #[.string g,.string p] 136)).alloc (.cells #[.string g,.string p,.bool false] 45));have dN:=n.size;have dU:b<wr.heap.size:=by have:=DI wr _ S;simpa using this
     gi_wp2_with (gi_at_builtin;refine wpListIn_append_own _ rfl _ _ 40 rfl W.heap.size 45 i0 (.agg #[.string empty,.string empty,.bool false]) 3 40 underlying40 C.l.1 C.l.2.1 C.l.2.2.1 C.l.2.2.2 rfl ω _ j _ rfl u.l ⟨wr.heap.size+1,0,none⟩ 1 1 [.string g,.string p,.bool false] rfl rfl (mM wr _ _ _) (gj _ _ _) (by unfold maxLen;omega) ω τ ?_;intro v' w7 t s _;have R:=Z t;have Q:=Z (TL (((N.l.alloc dN _).alloc τ _)) u.l s τ);clear t s)
     go_roundw
     case rel =>
      refine⟨j+1,ω,ν,?_,Q.l⟩
      have s:(m.map US).take (j+1)=(m.map US).take j++[(g,p,false)]:=by
       rw[AX (by simpa using y)]
       congr 2
       have:=O.l;simp[List.getD,y]at this;rw[List.getElem_map,<-this];rfl
      rw[s,sE];exact R.l
     case measure=>simp[intOf];omega
    have cW:j=m.length:=ω
    subst cW;rw[AV σ]at r
    obtain⟨t,u,rfl⟩:∃t u,u5=Value.slice t m.length u:=by
     rcases MO r with ⟨q,s⟩|⟨g,p,q,_⟩
     ·exact⟨none,0,by rw[q,s]⟩
     exact⟨_,p,q⟩
    have O:wr.ownsRow W.heap.size 45 3 (.slice t m.length u) (NU d x).length (MJ (NU d x)):=by rw[cJ.l,BP];exact r
    have cS:=Z O;have qv:wr.cell? ⟨f.heap.size,0,none⟩=some v:=(n.cell (p:=⟨f.heap.size,0,none⟩) A.l.lt).j A.l.cell;have lv:f.heap.size<wr.heap.size:=AD A.l.lt n.size
    obtain⟨R,S,Q⟩:∃R S,v=Value.slice R (k.map (NU d)).length S:=by
     rcases MO z.l with ⟨q,s⟩|⟨g,p,q,_⟩
     ·exact⟨none,0,by rw[q,s]⟩
     exact⟨_,p,q⟩
    have dL:f.heap.size<=W.heap.size:=M.l.size;have dZ:f.heap.size<=wr.heap.size:=ω
    have dM:(k.map (NU d)).length<=10:=by rw[BP];omega
    obtain⟨p,g⟩:∃p,p=k.map (NU d):=⟨_,rfl⟩;have cI:Hid ((k++[x]).map (NU d)=p++[NU d x]):=by show _=_;rw[g];simp
    rw[<-g]at z K L Q dM;subst Q;have cE:=Z ((LR z.l n).alloc (.cells #[.slice t m.length u] 40));clear r n O g
    gi_wp2_with (gi_at_builtin;refine wpListIn_append_own _ rfl _ _ 114 rfl f.heap.size 40 i1 (.slice none 0 0) 1 24 underlying114 E.l.1 E.l.2.1 E.l.2.2.1 E.l.2.2.2 rfl ω _ p.length _ rfl cE.l ⟨wr.heap.size,0,none⟩ 1 1 [.slice t m.length u] rfl rfl (cell_one_new _ _ _) (by simp[Value.oneCell']) (by unfold maxLen;omega) ω τ ?_;intro v' w9 n r _;obtain⟨g',cT,rfl⟩:=ownsRow_succ n;obtain⟨q,s,O,P⟩:=InSn.push dL (Y _) A.l z.l K.l L.l cQ.l cL.l N.l cS.l n r;have q9:=q.cell;have r9:=q.frozen;have g:=Z (AH s (AH O P));clear n r q s O P)
    exact⟨g.l.2.1.from _,g.l.2.2,by rw[cI.l];exact g.l.1,M.l.j g.l.2.2.1⟩
  case done =>
   rintro D u W m rfl ⟨⟨v,hv,k,s,q⟩,B⟩ g;have t:=hv.cell
   gi_wp2
   refine⟨σ,.inl ⟨_,_,rfl,run_takeDeferred g,?_⟩⟩
   have l:Bat (W.putObj D (.deferred none)) f.heap.size v (SJ d d.length):=by
    obtain⟨T,j,n,p⟩:=k;rw[uH];exact⟨T,ownsRow_putObj j _ g rfl,λi r=>ownsRow_putObj (n i r) _ g rfl,p⟩
   exact⟨_,results_tmp rfl _ _ _,v,rfl,l.A F.l.size,F.l.j ((B.j (belowK_b (w:=f) (Y _) W D _ _ (by simp at m;omega) g rfl rfl)).A F.l.size)⟩
  case stop =>
   rintro D c k W _ _ h _;exact h.elim
theorem ZI(a:List Pr):(LI a).length<=5:=by
 unfold LI
 split
 ·rename_i h;exact wt a _ (ZT h).1
 simp
theorem mb{a:List Pr}{b:List Ch}(h:b∈LI a):b.length<=20/\∀x∈b,(x.1,x.2.1)∈a:=by
 unfold LI at h
 split at h
 ·exact Es h
 simp at h
