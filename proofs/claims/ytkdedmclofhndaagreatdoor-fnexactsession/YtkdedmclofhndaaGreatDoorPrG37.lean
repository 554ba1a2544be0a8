import Derived.Test.YtkdedmclofhndaaGreatDoorPrAo
import Derived.RangeFuncNested
import Derived.RangeFuncBound
import Derived.RangeFuncCalls
import Derived.RangeFuncLeaves
import Derived.RangeFuncBox
import Derived.Shelf.Abstract
import Derived.Shelf.RegionOpenV
import Derived.OwnWalkIn
import Derived.TacticsInMore
import Derived.LoopNIn
import Derived.LoopIn
import Derived.Sort.QuietIn
import Derived.Maps.AppendAt
import Derived.Maps.OwnIn
import Derived.Test.YtkdedmclofhndaaGreatDoorPrG34
set_option maxHeartbeats 16000000
set_option maxRecDepth 8000
set_option linter.all false
namespace Go.Proofs.YtkdedmclofhndaaGreatDoor
open _root_.ByteArray(empty)
section
open Tryz
open Go.RowKit Go.Shelf
attribute [local go_sem] Oper.semAt_some
def am(b a c k:Nat):qD:=yI (zY b (a+k*20*2)) (min 20 (c-k*20)) (min 20 (c-k*20))
theorem wI(w:xV)(q:Nat):w.grownBy (w.drewN q) none:=⟨rfl,rfl,rfl,AA _,λ_ _ _=>rfl⟩
theorem If(F:Fence)(n:Nat)(M:F.fn 300)(I:F.round=none)(hn:1<=n)(l h g b f a c:Nat)(O:a<=100)(N:a<=c)(y:xV->xV->Prop)(m:∀A B,y A B->B.cell? (yA h 0)=A.cell? (yA h 0)/\B.cell? (yA g 0)=A.cell? (yA g 0))(J w:List Nat->xV->Prop)
  (C:∀d x W,J d W->d.length<(a+19) / 20->YieldAt F (n-1) prog l #[am b f a x] W λe i =>
   (e=yT (yR true)/\J (d++[x]) i/\y W i)\/(e=yT (yR false)/\w (d++[x]) i))
  (W:xV)(G:W.cell? (yA h 0)=some (yI (zY b f) a c))(E:W.cell? (yA g 0)=some (Z 20))(L:J [] W)(z:∀s A B,J s A->A.grownBy B none->J s B):CallsIn F n prog 300 #[.func (.yield l) #[] #[],zW h 0,zW g 0] W λe i=>(∃v,e=yT v) /\
   ((∃j,j=List.range ((a+19) / 20)/\J j i)\/(∃d,True/\w d i)):=by
 refine JU func300 rfl M ?_ I;simp only[ntmps300,GP,BJ,AT,Nat.reduceAdd,Nat.reduceSub,FY,FZ,GO,FI,EK,EV]
 gi_wp2
 gi_loopw [4] (λi wr=>∃k q:Nat,q=k*20/\k<=(a+19) / 20/\i=Z (q:Int)/\J (List.range k) wr/\wr.cell? (yA h 0)=some (yI (zY b f) a c)/\wr.cell? (yA g 0)=some (Z 20)) (λi _=>a+20-(intOf i).toNat)
 case atStart=>exact⟨0,0,rfl,AL _,rfl,L,G,E⟩
 case round =>
  obtain⟨k,q,e,hk,rfl,t,x,v⟩:=hrel;have d:=Y e;clear e;have R:prog.follows .mixedOrders=true:=κ
  by_cases Q:q<a
  ·have S:(0:Int)<=(q:Int):=ω
   have T:(q:Int)<=(a:Int):=ω
   have U:(q:Int)<(a:Int):=ω
   have V:(a:Int)<=(c:Int):=ω
   by_cases X:20<=a-q
   ·have o:Hid (min 20 (a-q)=20):=by show _=_;omega
    have H:(q:Int)+20<=(a:Int):=ω
    have P:(q:Int)+20<=(c:Int):=ω
    gi_wp2
    gi_big_quiet_th_v (fail)
    obtain⟨K,j,B,D,i,u⟩:=C _ k (wr.drewN nq) (z _ _ _ t (wI wr nq)) (by have:=d.j;rw[KO];omega);have r:(wr.drewN nq).cell? (yA h 0)=some (yI (zY b f) a c):=x;unfold am at i;rw[<-d.j,o.j]at i
    gi_wp2
    refine u.J ?_;rintro e A (⟨rfl,hJ3,hk3⟩|⟨rfl,hJx3⟩)
    ·have p:=(m _ _ hk3).2.E (show(wr.drewN nq).cell? (yA g 0)=some (Z 20) from v)
     have s:=(m _ _ hk3).1.E r
     gi_wp2
     go_roundw
     case rel=>exact⟨k+1,q+20,by have:=d.j;omega,by have:=d.j;omega,σ,by rw[GW];exact hJ3,s,p⟩
     case measure=>simp[intOf];omega
    gi_wp2
    refine AE (KG rfl _ _ _) rfl ?_;exact⟨⟨_,rfl⟩,.inr ⟨_,trivial,hJx3⟩⟩
   have o:Hid (min 20 (a-q)=a-q):=by show _=_;omega
   have H:(q:Int)+((a-q:Nat):Int)=(a:Int):=ω
   gi_wp2
   gi_big_quiet_th_v (fail)
   obtain⟨K,j,B,D,i,u⟩:=C _ k (wr.drewN nq) (z _ _ _ t (wI wr nq)) (by have:=d.j;rw[KO];omega);have r:(wr.drewN nq).cell? (yA h 0)=some (yI (zY b f) a c):=x;unfold am at i;rw[<-d.j,o.j]at i
   gi_wp2
   refine u.J ?_;rintro e A (⟨rfl,hJ3,hk3⟩|⟨rfl,hJx3⟩)
   ·have p:=(m _ _ hk3).2.E (show(wr.drewN nq).cell? (yA g 0)=some (Z 20) from v)
    have s:=(m _ _ hk3).1.E r
    gi_wp2
    go_roundw
    case rel=>exact⟨k+1,q+20,by have:=d.j;omega,by have:=d.j;omega,σ,by rw[GW];exact hJ3,s,p⟩
    case measure=>simp[intOf];omega
   gi_wp2
   refine AE (KG rfl _ _ _) rfl ?_;exact⟨⟨_,rfl⟩,.inr ⟨_,trivial,hJx3⟩⟩
  have e:k=(a+19) / 20:=by have:=d.j;omega
  gi_wp2
  go_end0;exact⟨⟨_,rfl⟩,.inl ⟨_,by rw[e],t⟩⟩
theorem Kn(F:Fence)(n:Nat)(j:F.fn 300)(g:F.round=none)(l b d c:Nat)(a:xA)(J:List Nat->xV->Prop)(W:xV)(k:W.cell? (yA b 0)=some (yI a 0 c))(h:J [] W):CallsIn F n prog 300 #[.func (.yield l) #[] #[],zW b 0,zW d 0] W λe f=>(∃v,e=yT v)/\J [] f:=by
 refine JU func300 rfl j ?_ g;simp only[ntmps300,GP,BJ,AT,Nat.reduceAdd,Nat.reduceSub,FY,FZ,GO,FI,EK,EV]
 gi_wp2
 gi_loopw [4] (λi wr=>i=Z 0/\wr=W) (λ_ _=>0)
 case atStart=>exact⟨rfl,rfl⟩
 case round =>
  obtain⟨rfl,rfl⟩:=hrel
  gi_wp2
  go_end0;exact⟨⟨_,rfl⟩,h⟩
theorem Ed(F:Fence)(n:Nat)(f:F.fn 274)(d:F.round=none)(a:xA)(c b:Nat)(w:xV):CallsIn F n prog 274 #[yI a c b,Z 20] w λe g=>e=yT (.func (.func 300) #[] #[zW w.heap.size 0,zW (w.heap.size+1) 0])/\g=(w.alloc (.cells #[yI a c b] 35)).alloc (.cells #[Z 20] 3):=by
 refine JU func274 rfl f ?_ d;simp only[ntmps274,GP,BJ,AT,Nat.reduceAdd,Nat.reduceSub,FY,FZ,GO,FI,EK,EV]
 gi_wp2
 go_ret;exact⟨rfl,rfl⟩
theorem Jj(F:Fence)(n:Nat)(q:F.fn 300)(o:F.round=none)(I:1<=n)(f d b h g c:Nat)(a:xA)(v:g<=100)(u:g<=c)(w:xV)(z:f<w.heap.size)(y:d<w.heap.size)(j:xV->xV->Prop)(D:∀A B,j A B->B.cell? (yA f 0)=A.cell? (yA f 0)/\B.cell? (yA d 0)=A.cell? (yA d 0))
  (m:w.cell? (yA f 0)=some (yI a g c))(H:w.cell? (yA d 0)=some (Z 20))(G:g=0\/a=zY b h):SeqStopsK F n prog 300 #[zW f 0,zW d 0] (λx:Nat=>#[am b h g x]) j (λi=>i=List.range ((g+19) / 20)) (λ_=>True) ((g+19) / 20) w:=λl J t W e C k E p=>by
 have i:=(e.cell (p:=(yA f 0)) z).E m;have k:=(e.cell (p:=(yA d 0)) y).E H;rcases G with rfl|rfl
 ·exact(Kn F n q o l f d c a J W i p).J λe W' ⟨he,hj⟩=>⟨he,.inl ⟨_,rfl,hj⟩⟩
 exact If F n q o I l f d b h g c v u j D J t E W i k p (λs A B m x=>C s A B none m x (λr e=>(by cases e)))
end
section
open Tryz
open Go.RowKit Go.Shelf
variable {B Bn Bs n₀:Nat}{v:qD}{W w:xV}
def KpC(n₀ Bs Bn:Nat)(A B:xV):Prop:=Below n₀ A B/\B.cell? (yA Bs 0)=A.cell? (yA Bs 0)/\B.cell? (yA Bn 0)=A.cell? (yA Bn 0)
theorem KpC.t{A B C:xV}(h:KpC n₀ Bs Bn A B)(k:KpC n₀ Bs Bn B C):KpC n₀ Bs Bn A C:=⟨h.1.E k.1,k.2.1.E h.2.1,k.2.2.E h.2.2⟩
theorem KpC.b(d:n₀<=w.heap.size)(f:Bs<w.heap.size)(g:Bn<w.heap.size)(W:xV)(l:Nat)(o a:Obj)(c:w.heap.size<=l)(h:W.heap[l]?=some o)(b:o.isCells=false)(e:o.isWalk=false):KpC n₀ Bs Bn W (W.putObj l a) :=⟨belowK_b d W l o a c h b e,DP (World.putObj_heap_other (by show Bs≠l;omega)),DP (World.putObj_heap_other (by show Bn≠l;omega))⟩
theorem Bat.boxed{a:Nat}{u z:qD}{b:List (List Ch)}(h:Bat w a v b)(f:Boxed w B 215 u):Bat (w.setCell (yA B 0) z) a v b:=by
 obtain⟨k,c,d,j⟩:=h;refine⟨k,c.kept (grownBy_setCell' w B z) (.inr λe=>f.not_row δ c e.symm),λi g=>(d i g).kept (grownBy_setCell' w B z) (.inr λe=>f.not_row δ (d i g) e.symm),j⟩
theorem pM{X Y:xV}{b:Option Nat}{a:Nat}{e:TypeId}{s:Nat}{n:Nat}{d:List qD}(h:X.ownsRow a e s v n d)(m:X.grownBy Y b)(p:∀r,b=some r->∃o:Obj,X.heap[r]?=some o/\o.isCells=false):Y.ownsRow a e s v n d:=by
 refine h.kept m ?_;rcases h.2 with ⟨rfl,_⟩|⟨g,i,j,rfl,_,f,_⟩
 ·exact .inl rfl
 refine .inr λk=>?_
 obtain⟨o,c,l⟩:=p g (by simpa[Value.ownBlock] using k.symm)
 rw[f]at c;cases c;cases l
theorem mR{X Y:xV}{a:Option Nat}{t:TypeId}(h:Boxed X B t v)(d:X.grownBy Y a)(f:∀r,a=some r->∃o:Obj,X.heap[r]?=some o/\o.isCells=false):Boxed Y B t v:=by
 refine h.kept d λe=>?_
 obtain⟨o,b,c⟩:=f B e.symm
 rw[show X.heap[B]?=_ from h]at b;cases b;cases c
def InSn(n₀ B Bs Bn:Nat)(b:qD)(a:List (List Ch))(W:xV):Prop:=∃v,Boxed W B 215 v/\Bat W n₀ v a/\Boxed W Bs 35 b/\Boxed W Bn 3 (Z 20)
theorem InSn.own(n₀ B Bs Bn:Nat)(l:qD)(f:List Nat->List (List Ch)):Own (λa W=>InSn n₀ B Bs Bn l (f a) W):=by
 rintro s X Y k ⟨v,hv,⟨m,c,d,e⟩,g,h⟩ a b;exact⟨v,mR hv a b,⟨m,pM c a b,λi j=>pM (d i j) a b,e⟩,mR g a b,mR h a b⟩
theorem Az{a:xV}(h:yX W a):KeepsOthers W a:=⟨h.size,λk o b _=>(h.block k (AP.1 b).1).E b⟩
theorem InSn.push{wr a:xV}{x c y:qD}{f:List (List Ch)}{q:List Ch}{p:List qD}{d:Obj}(E:n₀<=W.heap.size)(M:n₀<=B)(hv:Boxed W B 215 v)(A:W.ownsRow n₀ 44 1 v f.length p)(C:∀i,i<f.length->W.ownsRow n₀ 92 3 (p.getD i OG) (f.getD i []).length (MS (f.getD i [])))
  (L:∀i j k,i<j->j<f.length->(p.getD i OG).ownBlock=some k->(p.getD j OG).ownBlock≠some k)(s:Boxed W Bs 35 x)(r:Boxed W Bn 3 (Z 20))(l:yX W wr)
  (F:wr.ownsRow W.heap.size 92 3 y q.length (MS q))(N:a.ownsRow n₀ 44 1 c (f.length+1) (p++[y]))(n:(wr.alloc d).grownBy a v.ownBlock):Boxed a B 215 v/\InSn n₀ B Bs Bn x (f++[q]) (a.setCell (yA B 0) c)/\KeepsOthers W (a.setCell (yA B 0) c)/\KpC n₀ Bs Bn W (a.setCell (yA B 0) c):=by
 have m:∀ {b:Nat} {t:TypeId} {u:qD},Boxed W b t u->Boxed wr b t u:=λh=>(l.block _ h.lt).E h
 have h:=LZ A l;have z:Boxed a B 215 v:=((m hv).alloc d).kept n ((m hv).not_row δ h);have I:Boxed a Bs 35 x:=((m s).alloc d).kept n ((m s).not_row δ h);have H:Boxed a Bn 3 (Z 20):=((m r).alloc d).kept n ((m r).not_row δ h)
 have G:Bat a n₀ c (f++[q]):=Bat.push (h.alloc d) (λi g=>(LZ (C i g) l).alloc d) L ((mJ F E).alloc d) (λi k g o e=>by
  have Q:=(C i g).lt k o;have R:=F.lt k e
  omega) N n
 have P:Bs≠B:=λe=>by
  have:=(show W.heap[Bs]?=_ from s);rw[e,show W.heap[B]?=_ from hv]at this;simp at this
 have O:Bn≠B:=λe=>by
  have:=(show W.heap[Bn]?=_ from r);rw[e,show W.heap[B]?=_ from hv]at this;simp at this
 have k:Boxed (a.setCell (yA B 0) c) Bs 35 x:=I.kept (grownBy_setCell' a B c) (by simp[P]);have i:Boxed (a.setCell (yA B 0) c) Bn 3 (Z 20):=H.kept (grownBy_setCell' a B c) (by simp[O]);refine⟨z,⟨c,z.set c,G.boxed z,k,i⟩,?_,?_,k.cell.E s.cell.symm,i.cell.E r.cell.symm⟩
 ·refine(((Az l).E (KeepsOthers.alloc _ d)).E (KeepsOthers.of_grownBy n λj o e D=>?_)).E (KeepsOthers.setCell _ _ _)
  rcases(h.alloc d).2 with ⟨rfl,_⟩|⟨g,J,K,rfl,_,o,_⟩
  ·simp[Value.ownBlock]at e
  obtain rfl:g=j:=by simpa[Value.ownBlock] using e
  rw[o]at D;cases D;rfl
 refine((((AB n₀ W).E (l.J E)).alloc (by have:=l.size;omega) d).V n (by have:=l.size;simp;omega) λj e=>?_).setCell (p:=(yA B 0)) M c
 exact(A.lt j e).1
theorem InSn.I{b:xV}{f:qD}{c:List (List Ch)}(h:InSn n₀ B Bs Bn f c W)(a:yX W b):InSn n₀ B Bs Bn f c b:=by
 obtain⟨v,hv,g,d,e⟩:=h;exact⟨v,(a.block _ hv.lt).E hv,g.I a,(a.block _ d.lt).E d,(a.block _ e.lt).E e⟩
theorem N9{b o:Nat}{a:List Pr}(h:Prs w (zY b o) a)(k:Nat):Prs w (zY b (o+k*20*2)) ((a.drop (k*20)).take 20):=by
 rcases h with h|⟨g,j,c,d,f⟩
 ·subst h;exact .inl σ
 cases c
 refine .inr ⟨b,o+k*20*2,rfl,d,λi e=>?_⟩;simp only[AX,BQ]at e;have:=f (k*20+i) ω;rw[show o+k*20*2+i*2=o+(k*20+i)*2 by omega]
 have e:((a.drop (k*20)).take 20).getD i (empty,empty)=a.getD (k*20+i) (empty,empty):=by
  simp[List.getD,FO,FC,show i<20 by omega]
 rw[e];exact this
end
section
open Tryz
open Go.RowKit Go.Shelf
attribute [local go_sem] Oper.semAt_some
theorem s6(a:xA)(d:List Pr)(c:Nat)(w:xV)(h:Prs w a d)(hc:d.length<=c)(hl:d.length<=1048576)(I:∀x∈d,x.1.size<=1048576/\x.2.size<=1048576):Calls prog 227 #[.agg #[yI a d.length c]] w λe b=>∃v,e=yT v/\Bat b w.heap.size v (MK d)/\yX w b:=by
 refine(FE (n:=4)).1 ?_;unfold MK;have b:yX w (w.alloc (.cells #[yI a d.length c] 37)):=LG _ _;have hv:=ei a d c (w.alloc (.cells #[yI a d.length c] 37)) (h.I b) hl I;have k:=Y hv;have g:=Y b;clear hv b;refine callsIn_of_wp_marks func227 rfl trivial ?_ rfl;simp only[ntmps227,GP,BJ,AT,Nat.reduceAdd,Nat.reduceSub,FY,FZ,GO,FI,EK,EV]
 cases hok:LX d with
 | false =>
  rw[hok]at k;simp only[FA,JA]
  gi_wp2_with (refine⟨trivial,?_⟩;gi_at_call 114;refine(FE.2 k.j).J ?_;rintro e f ⟨rfl,i⟩)
  exact⟨_,results_tmp rfl _ _ _,_,rfl,Bat.nil _ _,g.j.E (i.J g.j.size)⟩
 | true =>
  rw[hok]at k;simp only[IU];have cQ:d.length<=100:=(ZM hok).1
  gi_wp2_with (first|(refine⟨trivial,?_⟩;gi_at_call 114;refine(FE.2 k.j).J ?_;rintro e f ⟨rfl,i⟩;have q:f.cell? (yA w.heap.size 0)=some (yI a d.length c):=NF i γ σ;have dH:w.heap.size<f.heap.size:=AC σ i.size)|(refine⟨trivial,?_⟩;gi_at_call 274;refine(Ed Fence.wide _ trivial rfl _ _ _ _).J ?_;rintro e w4 ⟨rfl,rfl⟩))
  obtain⟨b,o,l,m⟩:∃b o,(d.length=0\/a=zY b o)/\Prs w (zY b o) d:=by
   rcases h with h|⟨b,o,j,n,p⟩
   ·exact⟨0,0,.inl (by rw[h];rfl),.inl h⟩
   exact⟨b,o,.inr j,.inr ⟨b,o,rfl,n,p⟩⟩
  have j:=m.I (g.j.E (i.J g.j.size));have T:=Y j;have F:=Y (g.j.E (i.J g.j.size));have X:=Y l;clear m j l h k g i q;obtain⟨i0,g,l,m,n⟩:=VI xW;have C:=Y (AG g (AG l (AG m n)));obtain⟨i1,q,i,j,k⟩:=VI vE;have E:=Y (AG q (AG i (AG j k)));clear g l m n q i j k;have U:=Boxed.new f 215 (yI none 0 0);have H:=Boxed.new (f.alloc (.cells #[yI none 0 0] 215)) 35 (yI a d.length c);have G:=Boxed.new ((f.alloc (.cells #[yI none 0 0] 215)).alloc (.cells #[yI a d.length c] 35)) 3 (Z 20);simp only[BE]at H G;have cM:yX f (((f.alloc (.cells #[yI none 0 0] 215)).alloc (.cells #[yI a d.length c] 35)).alloc (.cells #[Z 20] 3)):=(((AB _ f).alloc (AA _) _).alloc σ _).alloc τ _
  refine wpIn_rangeFunc_ownG rfl ω (gf:=300) (lb:=#[zW (f.heap.size+1) 0,zW (f.heap.size+1+1) 0]) rfl trivial (enters_of func300 κ rfl)
   (Jj Fence.wide 3 trivial rfl ω (f.heap.size+1) (f.heap.size+1+1) b o d.length c a cQ hc _ σ σ (KpC f.heap.size (f.heap.size+1) (f.heap.size+1+1)) (λA B h=>h.2) (H.alloc _).cell G.cell X.j)
   KpC.t (KpC.b τ σ σ) (AB _ _) (λ_=>rfl)
   (λk W=>InSn f.heap.size f.heap.size (f.heap.size+1) (f.heap.size+1+1) (yI a d.length c) (k.map (PQ d)) W/\yX f W)
   (λ_ _ _=>False)
   (OwnFrom.and (Own.from (InSn.own _ _ _ _ _ (λk=>k.map (PQ d))) _) (ownFrom_below (AA _) τ))
   (λ_ _ _ _ _ I _ _=>I)
   ⟨⟨_,(U.alloc _).alloc _,Bat.nil _ _,H.alloc _,G⟩,cM⟩
   (λx=>{ tmps:=#[.agg #[yI a d.length c],zW w.heap.size 0,yI none 0 0,zW f.heap.size 0,am b o d.length x,undef,undef,undef,.agg #[yI a d.length c],yR true,yR false,zW w.heap.size 0,yI a d.length c,.func (.func 300) #[] #[zW (f.heap.size+1) 0,zW (f.heap.size+1+1) 0],am b o d.length x,undef,undef,undef,undef,undef,undef,undef,undef,undef,undef,undef,undef,undef,undef,undef,undef,undef,undef,undef,undef],defers:=[] }) ?assign ?body ?done ?stop
  case assign =>
   intro l x W K g
   gi_wp2
   exact g
  case body =>
   rintro l k x W ⟨⟨v,hv,⟨S,j,n,p⟩,s,q⟩,B⟩ dB;have r:=N9 (T.j.I B) x;obtain⟨m,g⟩:∃m,m=(d.drop (x*20)).take 20:=⟨_,rfl⟩;have t:m.length=min 20 (d.length-x*20):=by rw[g];simp
   have cC:Hid (PQ d x=m.map XK):=by show _=_;rw[g];rfl
   obtain⟨D,i⟩:∃D,D=o+x*20*2:=⟨_,rfl⟩;unfold am;rw[<-t,<-i];rw[<-g,<-i]at r;have cS:m.length<=20:=ω
   have cH:=Y r;have z:=Y j;have J:=Y n;have K:=Y p;have A:=Y hv;have cI:=Y s;have cE:=Y q;have L:=Y B;clear r j n p hv s q g i t
   gi_wp2
   gi_loopw [5,17] (λy i wr=>∃j:Nat,j<=m.length/\i=Z (j:Int)/\wr.ownsRow W.heap.size 92 3 y j (MS ((m.map XK).take j))/\yX W wr) (λ_ i _=>m.length-(intOf i).toNat)
   case atStart=>exact⟨0,AL _,rfl,BT _ _ _ _,AB _ _⟩
   case round =>
    obtain⟨j,hj,rfl,r,n⟩:=hrel;have M:=Y n
    by_cases y:j<m.length
    ·obtain⟨P,ob,g,p,q,R,cX,N⟩:=(cH.j.I n).at y
     obtain⟨rfl,rfl⟩:b=P/\D=ob:=by cases q;exact⟨rfl,rfl⟩
     clear q;have cP:(j:Int)<(m.length:Int):=ω
     have q:(0:Int)<=(j:Int):=ω
     have u:=Y ((r.alloc (.cells #[yQ g,yQ p] 122)).alloc (.cells #[yQ g,yQ p,yR false] 92));have V:=n.size;have cZ:b<wr.heap.size:=by have:=DQ wr _ R;simpa using this
     gi_wp2_with (gi_at_builtin;refine wpListIn_append_own _ rfl _ _ 44 rfl W.heap.size 92 i0 (.agg #[yQ empty,yQ empty,yR false]) 3 40 underlying44 C.j.1 C.j.2.1 C.j.2.2.1 C.j.2.2.2 rfl ω _ j _ rfl u.j (yA (wr.heap.size+1) 0) 1 1 [yQ g,yQ p,yR false] rfl rfl (nY wr _ _ _) (gh _ _ _) (by unfold maxLen;omega) ω τ ?_;intro v' w7 t s _;have Q:=Y t;have O:=Y (RU (((M.j.alloc V _).alloc τ _)) u.j s τ);clear t s)
     go_roundw
     case rel =>
      refine⟨j+1,ω,ν,?_,O.j⟩
      have s:(m.map XK).take (j+1)=(m.map XK).take j++[(g,p,false)]:=by
       rw[BH (by simpa using y)]
       congr 2
       have:=N.j;simp[List.getD,y]at this;rw[List.getElem_map,<-this];rfl
      rw[s,uR];exact Q.j
     case measure=>simp[intOf];omega
    have cO:j=m.length:=ω
    subst cO;rw[AR σ]at r
    obtain⟨t,u,rfl⟩:∃t u,u5=yI t m.length u:=by
     rcases MC r with ⟨q,s⟩|⟨g,p,q,_⟩
     ·exact⟨none,0,by rw[q,s]⟩
     exact⟨_,p,q⟩
    have N:wr.ownsRow W.heap.size 92 3 (yI t m.length u) (PQ d x).length (MS (PQ d x)):=by rw[cC.j,BO];exact r
    have cJ:=Y N;have qv:wr.cell? (yA f.heap.size 0)=some v:=(n.cell (p:=(yA f.heap.size 0)) A.j.lt).E A.j.cell;have lv:f.heap.size<wr.heap.size:=AC A.j.lt n.size
    obtain⟨Q,R,P⟩:∃Q R,v=yI Q (k.map (PQ d)).length R:=by
     rcases MC z.j with ⟨q,s⟩|⟨g,p,q,_⟩
     ·exact⟨none,0,by rw[q,s]⟩
     exact⟨_,p,q⟩
    have cT:f.heap.size<=W.heap.size:=L.j.size;have dF:f.heap.size<=wr.heap.size:=ω
    have cV:(k.map (PQ d)).length<=10:=by rw[BO];omega
    obtain⟨p,g⟩:∃p,p=k.map (PQ d):=⟨_,rfl⟩;have cA:Hid ((k++[x]).map (PQ d)=p++[PQ d x]):=by show _=_;rw[g];simp
    rw[<-g]at z J K P cV;subst P;have V:=Y ((LZ z.j n).alloc (.cells #[yI t m.length u] 44));clear r n N g
    gi_wp2_with (gi_at_builtin;refine wpListIn_append_own _ rfl _ _ 215 rfl f.heap.size 44 i1 (yI none 0 0) 1 24 underlying215 E.j.1 E.j.2.1 E.j.2.2.1 E.j.2.2.2 rfl ω _ p.length _ rfl V.j (yA wr.heap.size 0) 1 1 [yI t m.length u] rfl rfl (cell_one_new _ _ _) (by simp[Value.oneCell']) (by unfold maxLen;omega) ω τ ?_;intro v' w9 n r _;obtain⟨g',cL,rfl⟩:=ownsRow_succ n;obtain⟨q,s,N,O⟩:=InSn.push cT (AA _) A.j z.j J.j K.j cI.j cE.j M.j cJ.j n r;have q9:=q.cell;have r9:=q.frozen;have g:=Y (AG s (AG N O));clear n r q s N O)
    exact⟨g.j.2.1.from _,g.j.2.2,by rw[cA.j];exact g.j.1,L.j.E g.j.2.2.1⟩
  case done =>
   rintro D u W m rfl ⟨⟨v,hv,k,s,q⟩,B⟩ g;have t:=hv.cell
   gi_wp2
   refine⟨σ,.inl ⟨_,_,rfl,run_takeDeferred g,?_⟩⟩
   have l:Bat (W.putObj D (.deferred none)) f.heap.size v (SU d d.length):=by
    obtain⟨S,j,n,p⟩:=k;rw[xI];exact⟨S,ownsRow_putObj j _ g rfl,λi r=>ownsRow_putObj (n i r) _ g rfl,p⟩
   exact⟨_,results_tmp rfl _ _ _,v,rfl,l.J F.j.size,F.j.E ((B.E (belowK_b (w:=f) (AA _) W D _ _ (by simp at m;omega) g rfl rfl)).J F.j.size)⟩
  case stop =>
   rintro D c k W _ _ h _;exact h.elim
theorem ZC(a:List Pr):(MK a).length<=5:=by
 unfold MK
 split
 ·rename_i h;exact xo a _ (ZM h).1
 simp
theorem mg{a:List Pr}{b:List Ch}(h:b∈MK a):b.length<=20/\∀x∈b,(x.1,x.2.1)∈a:=by
 unfold MK at h
 split at h
 ·exact Ju h
 simp at h
