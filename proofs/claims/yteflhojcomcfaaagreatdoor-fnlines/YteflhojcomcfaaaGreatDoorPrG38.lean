import Derived.Test.YteflhojcomcfaaaGreatDoorPrG26
import Derived.Deep.RegionLaw
set_option maxHeartbeats 16000000
set_option maxRecDepth 8000
set_option linter.all false
namespace Go.Proofs.YteflhojcomcfaaaGreatDoor
open _root_.ByteArray(empty)
section
open Tryz
open Go.RowKit Go.Shelf
variable {B Bn Bs n₀:Nat}{v:Ra}{W w:Q9}
def KpC(n₀ Bs Bn:Nat)(A B:Q9):Prop:=Below n₀ A B/\B.cell? (Ki Bs 0)=A.cell? (Ki Bs 0)/\B.cell? (Ki Bn 0)=A.cell? (Ki Bn 0)
theorem KpC.t{A B C:Q9}(h:KpC n₀ Bs Bn A B)(k:KpC n₀ Bs Bn B C):KpC n₀ Bs Bn A C:=⟨h.1.E k.1,k.2.1.E h.2.1,k.2.2.E h.2.2⟩
theorem KpC.b(d:n₀<=w.heap.size)(f:Bs<w.heap.size)(g:Bn<w.heap.size)(W:Q9)(l:Nat)(o a:Obj)(c:w.heap.size<=l)(h:W.heap[l]?=some o)(b:o.isCells=false)(e:o.isWalk=false):KpC n₀ Bs Bn W (W.putObj l a) :=⟨belowK_b d W l o a c h b e,DT (World.putObj_heap_other (by show Bs≠l;omega)),DT (World.putObj_heap_other (by show Bn≠l;omega))⟩
theorem Bat.boxed{a:Nat}{u z:Ra}{b:List (List Ch)}(h:Bat w a v b)(f:Boxed w B 245 u):Bat (w.setCell (Ki B 0) z) a v b:=by
 obtain⟨k,c,d,j⟩:=h;refine⟨k,c.kept (grownBy_setCell' w B z) (.inr λe=>f.not_row δ c e.symm),λi g=>(d i g).kept (grownBy_setCell' w B z) (.inr λe=>f.not_row δ (d i g) e.symm),j⟩
theorem tG{X a:Q9}{c:Option Nat}{b:Nat}{e:TypeId}{s:Nat}{n:Nat}{f:List Ra}(h:X.ownsRow b e s v n f)(p:X.grownBy a c)(q:∀r,c=some r->∃o:Obj,X.heap[r]?=some o/\o.isCells=false):a.ownsRow b e s v n f:=by
 refine h.kept p ?_;rcases h.2 with ⟨rfl,_⟩|⟨g,j,k,rfl,_,i,_⟩
 .exact .inl z
 refine .inr λl=>?_
 obtain⟨o,d,m⟩:=q g (by simpa[Value.ownBlock] using l.symm)
 rw[i]at d;cases d;cases m
theorem qA{X a:Q9}{b:Option Nat}{t:TypeId}(h:Boxed X B t v)(f:X.grownBy a b)(g:∀r,b=some r->∃o:Obj,X.heap[r]?=some o/\o.isCells=false):Boxed a B t v:=by
 refine h.kept f λe=>?_
 obtain⟨o,c,d⟩:=g B e.symm
 rw[show X.heap[B]?=_ from h]at c;cases c;cases d
def InSn(n₀ B Bs Bn:Nat)(b:Ra)(a:List (List Ch))(W:Q9):Prop:=∃v,Boxed W B 245 v/\Bat W n₀ v a/\Boxed W Bs 40 b/\Boxed W Bn 3 (Z 20)
theorem InSn.own(n₀ B Bs Bn:Nat)(m:Ra)(f:List Nat->List (List Ch)):Own (λa W=>InSn n₀ B Bs Bn m (f a) W):=by
 rintro s X a l ⟨v,hv,⟨n,d,e,g⟩,h,j⟩ b c;exact⟨v,qA hv b c,⟨n,tG d b c,λi k=>tG (e i k) b c,g⟩,qA h b c,qA j b c⟩
theorem Di{a:Q9}(h:Q3 W a):KeepsOthers W a:=⟨h.size,λk o b _=>(h.block k (AR.1 b).1).E b⟩
theorem InSn.push{wr a:Q9}{x c y:Ra}{f:List (List Ch)}{q:List Ch}{p:List Ra}{d:Obj}(E:n₀<=W.heap.size)(N:n₀<=B)(hv:Boxed W B 245 v)(A:W.ownsRow n₀ 49 1 v f.length p)(C:∀i,i<f.length->W.ownsRow n₀ 102 3 (p.getD i PD) (f.getD i []).length (NL (f.getD i [])))
  (M:∀i j k,i<j->j<f.length->(p.getD i PD).ownBlock=some k->(p.getD j PD).ownBlock≠some k)(s:Boxed W Bs 40 x)(r:Boxed W Bn 3 (Z 20))(l:Q3 W wr)
  (F:wr.ownsRow W.heap.size 102 3 y q.length (NL q))(O:a.ownsRow n₀ 49 1 c (f.length+1) (p++[y]))(n:(wr.alloc d).grownBy a v.ownBlock):Boxed a B 245 v/\InSn n₀ B Bs Bn x (f++[q]) (a.setCell (Ki B 0) c)/\KeepsOthers W (a.setCell (Ki B 0) c)/\KpC n₀ Bs Bn W (a.setCell (Ki B 0) c):=by
 have m:∀ {b:Nat} {t:TypeId} {u:Ra},Boxed W b t u->Boxed wr b t u:=λh=>(l.block _ h.lt).E h
 have h:=MK A l;have z:Boxed a B 245 v:=((m hv).alloc d).kept n ((m hv).not_row δ h);have J:Boxed a Bs 40 x:=((m s).alloc d).kept n ((m s).not_row δ h);have I:Boxed a Bn 3 (Z 20):=((m r).alloc d).kept n ((m r).not_row δ h)
 have G:Bat a n₀ c (f++[q]):=Bat.push (h.alloc d) (λi g=>(MK (C i g) l).alloc d) M ((pY F E).alloc d) (λi k g o e=>by
  have R:=(C i g).lt k o;have S:=F.lt k e
  omega) O n
 have Q:Bs≠B:=λe=>by
  have:=(show W.heap[Bs]?=_ from s);rw[e,show W.heap[B]?=_ from hv]at this;simp at this
 have P:Bn≠B:=λe=>by
  have:=(show W.heap[Bn]?=_ from r);rw[e,show W.heap[B]?=_ from hv]at this;simp at this
 have k:Boxed (a.setCell (Ki B 0) c) Bs 40 x:=J.kept (grownBy_setCell' a B c) (by simp[Q]);have i:Boxed (a.setCell (Ki B 0) c) Bn 3 (Z 20):=I.kept (grownBy_setCell' a B c) (by simp[P]);refine⟨z,⟨c,z.set c,G.boxed z,k,i⟩,?_,?_,k.cell.E s.cell.symm,i.cell.E r.cell.symm⟩
 .refine(((Di l).E (KeepsOthers.alloc _ d)).E (KeepsOthers.of_grownBy n λj o e D=>?_)).E (KeepsOthers.setCell _ _ _)
  rcases(h.alloc d).2 with ⟨rfl,_⟩|⟨g,K,L,rfl,_,H,_⟩
  .simp[Value.ownBlock]at e
  obtain rfl:g=j:=by simpa[Value.ownBlock] using e
  rw[H]at D;cases D;rfl
 refine((((@AB n₀ W).E (l.J E)).alloc (by have:=l.size;omega) d).V n (by have:=l.size;simp;omega) λj e=>?_).setCell (p:=(Ki B 0)) N c
 exact(A.lt j e).1
theorem InSn.I{b:Q9}{f:Ra}{c:List (List Ch)}(h:InSn n₀ B Bs Bn f c W)(a:Q3 W b):InSn n₀ B Bs Bn f c b:=by
 obtain⟨v,hv,g,d,e⟩:=h;exact⟨v,(a.block _ hv.lt).E hv,g.I a,(a.block _ d.lt).E d,(a.block _ e.lt).E e⟩
theorem Qg{b o:Nat}{a:List Pr}(h:Prs w (Hw b o) a)(k:Nat):Prs w (Hw b (o+k*20*2)) ((a.drop (k*20)).take 20):=by
 rcases h with h|⟨m,n,c,f,g⟩
 .subst h;exact .inl j
 cases c
 refine .inr ⟨b,o+k*20*2,z,f,λi l=>?_⟩;simp only[AZ,BS]at l;have:=g (k*20+i) d;rw[show o+k*20*2+i*2=o+(k*20+i)*2 by omega]
 have e:((a.drop (k*20)).take 20).getD i (empty,empty)=a.getD (k*20+i) (empty,empty):=by
  simp[List.getD,FQ,FE,show i<20 by omega]
 rw[e];exact this
end
section
open Tryz
open Go.RowKit Go.Shelf
attribute [local go_sem] Oper.semAt_some
theorem wE(a:Q5)(n:List Pr)(c:Nat)(w:Q9)(k:Prs w a n)(hc:n.length<=c)(hl:n.length<=1048576)(R:∀x∈n,x.1.size<=1048576/\x.2.size<=1048576):Calls prog 215 #[.agg #[Y a n.length c]] w λe b=>∃v,e=Q2 v/\Bat b w.heap.size v (NC n)/\Q3 w b:=by
 refine(FH (n:=4)).1 ?_;unfold NC;have b:Q3 w (w.alloc (.cells #[Y a n.length c] 42)):=LH _ _;have hv:=ky a n c (w.alloc (.cells #[Y a n.length c] 42)) (k.I b) hl R;have i:=LE hv;have f:=LE b;clear hv b;refine callsIn_of_wp_marks func215 z trivial ?_ z;simp only[ntmps215,GQ,BN,AU,Nat.reduceAdd,Nat.reduceSub,GA,GC,GP,FK,EL,EX]
 cases hok:MH n with
 | false =>
  rw[hok]at i;simp only[FD,JA]
  gi_wp2_with (refine⟨trivial,?_⟩;gi_at_call 97;refine(FH.2 i.j).J ?_;rintro e p ⟨rfl,g⟩)
  exact⟨_,results_tmp z _ _ _,_,z,Bat.nil _ _,f.j.E (g.J f.j.size)⟩
 | true =>
  rw[hok]at i;simp only[IV];have cQ:n.length<=100:=(gw hok).1
  gi_wp2_with (first|(refine⟨trivial,?_⟩;gi_at_call 97;refine(FH.2 i.j).J ?_;rintro e p ⟨rfl,g⟩;have B:p.cell? (Ki w.heap.size 0)=some (Y a n.length c):=OG g γ j;have dH:w.heap.size<p.heap.size:=AC j g.size)|(refine⟨trivial,?_⟩;gi_at_call 272;refine(Gj Fence.wide _ trivial z _ _ _ _).J ?_;rintro e w4 ⟨rfl,rfl⟩))
  obtain⟨b,o,m,s⟩:∃b o,(n.length=0\/a=Hw b o)/\Prs w (Hw b o) n:=by
   rcases k with k|⟨b,o,t,y,A⟩
   .exact⟨0,0,.inl (by rw[k];rfl),.inl k⟩
   exact⟨b,o,.inr t,.inr ⟨b,o,z,y,A⟩⟩
  have r:=s.I (f.j.E (g.J f.j.size));have HP:=LE r;have N:=LE (f.j.E (g.J f.j.size));have bY:=LE m;clear s r m k i f g B;obtain⟨i0,f,r,s,t⟩:=YO Au;have J:=LE (I f (I r (I s t)));obtain⟨i1,A,g,i,m⟩:=YO yE;have L:=LE (I A (I g (I i m)));clear f r s t A g i m;have bO:=Boxed.new p 245 (Y none 0 0);have Q:=Boxed.new (p.alloc (.cells #[Y none 0 0] 245)) 40 (Y a n.length c);have P:=Boxed.new ((p.alloc (.cells #[Y none 0 0] 245)).alloc (.cells #[Y a n.length c] 40)) 3 (Z 20);simp only[BG]at Q P;have cM:Q3 p (((p.alloc (.cells #[Y none 0 0] 245)).alloc (.cells #[Y a n.length c] 40)).alloc (.cells #[Z 20] 3)):=(((@AB _ p).alloc C _).alloc j _).alloc q _
  refine wpIn_rangeFunc_ownG z d (gf:=299) (lb:=#[Dr (p.heap.size+1) 0,Dr (p.heap.size+1+1) 0]) z trivial (enters_of func299 κ z)
   (Lh Fence.wide 3 trivial z d (p.heap.size+1) (p.heap.size+1+1) b o n.length c a cQ hc _ j j (KpC p.heap.size (p.heap.size+1) (p.heap.size+1+1)) (λA B k=>k.2) (Q.alloc _).cell P.cell bY.j)
   KpC.t (KpC.b q j j) AB (λ_=>z)
   (λr W=>InSn p.heap.size p.heap.size (p.heap.size+1) (p.heap.size+1+1) (Y a n.length c) (r.map (RC n)) W/\Q3 p W)
   (λ_ _ _=>False)
   (OwnFrom.and (Own.from (InSn.own _ _ _ _ _ (λr=>r.map (RC n))) _) (ownFrom_below C q))
   (λ_ _ _ _ _ R _ _=>R)
   ⟨⟨_,(bO.alloc _).alloc _,Bat.nil _ _,Q.alloc _,P⟩,cM⟩
   (λx=>{ tmps:=#[.agg #[Y a n.length c],Dr w.heap.size 0,Y none 0 0,Dr p.heap.size 0,je b o n.length x,undef,undef,undef,.agg #[Y a n.length c],Q1 true,Q1 false,Dr w.heap.size 0,Y a n.length c,.func (.func 299) #[] #[Dr (p.heap.size+1) 0,Dr (p.heap.size+1+1) 0],je b o n.length x,undef,undef,undef,undef,undef,undef,undef,undef,undef,undef,undef,undef,undef,undef,undef,undef,undef,undef,undef,undef],defers:=[] }) ?assign ?body ?done ?stop
  case assign =>
   intro m x W K g
   gi_wp2
   exact g
  case body =>
   rintro m r x W ⟨⟨v,hv,⟨vs,t,y,A⟩,E,B⟩,M⟩ dB;have i:=Qg (HP.j.I M) x;obtain⟨s,f⟩:=nMz ((n.drop (x*20)).take 20);have F:s.length=min 20 (n.length-x*20):=by rw[f];simp
   have cC:Hid (RC n x=s.map br):=by show _=_;rw[f];rfl
   obtain⟨oo,g⟩:=nMz (o+x*20*2);unfold je;rw[<-F,<-g];rw[<-f,<-g]at i;have cS:s.length<=20:=d
   have cH:=LE i;have H:=LE t;have S:=LE y;have T:=LE A;have K:=LE hv;have cI:=LE E;have cE:=LE B;have U:=LE M;clear i t y A hv E B f g F
   gi_wp2
   gi_loopw [5,17] (λy i wr=>∃f:Nat,f<=s.length/\i=Z (f:Int)/\wr.ownsRow W.heap.size 102 3 y f (NL ((s.map br).take f))/\Q3 W wr) (λ_ i _=>s.length-(intOf i).toNat)
   case atStart=>exact⟨0,AL,z,BU _ _ _ _,AB⟩
   case round =>
    obtain⟨f,hj,rfl,B,t⟩:=hrel;have V:=LE t
    by_cases O:f<s.length
    .obtain⟨l,ob,g,y,A,D,cX,X⟩:=(cH.j.I t).at O
     obtain⟨rfl,rfl⟩:b=l/\oo=ob:=by cases A;exact⟨z,z⟩
     clear A;have cP:(f:Int)<(s.length:Int):=d
     have A:(0:Int)<=(f:Int):=d
     have G:=LE ((B.alloc (.cells #[Ow g,Ow y] 151)).alloc (.cells #[Ow g,Ow y,Q1 false] 102));have cW:=t.size;have cZ:b<wr.heap.size:=by have:=DP wr _ D;simpa using this
     gi_wp2_with (gi_at_builtin;refine wpListIn_append_own _ z _ _ 49 z W.heap.size 102 i0 (.agg #[Ow empty,Ow empty,Q1 false]) 3 40 underlying49 J.j.1 J.j.2.1 J.j.2.2.1 J.j.2.2.2 z d _ f _ z G.j (Ki (wr.heap.size+1) 0) 1 1 [Ow g,Ow y,Q1 false] z z (qZ wr _ _ _) (mo _ _ _) (by unfold maxLen;omega) d q ?_;intro v' w7 F E _;have u:=LE F;have h:=LE (UJ (((V.j.alloc cW _).alloc q _)) G.j E q);clear F E)
     go_roundw
     case rel =>
      refine⟨f+1,d,ν,?_,h.j⟩
      have E:(s.map br).take (f+1)=(s.map br).take f++[(g,y,false)]:=by
       rw[BJ (by simpa using O)]
       congr 2
       have:=X.j;simp[List.getD,O]at this;rw[List.getElem_map,<-this];rfl
      rw[E,xS];exact u.j
     case measure=>simp[intOf];omega
    have cO:f=s.length:=d
    subst cO;rw[AS j]at B
    obtain⟨F,G,rfl⟩:∃F G,u5=Y F s.length G:=by
     rcases MS B with ⟨A,E⟩|⟨g,y,A,_⟩
     .exact⟨none,0,by rw[A,E]⟩
     exact⟨_,y,A⟩
    have X:wr.ownsRow W.heap.size 102 3 (Y F s.length G) (RC n x).length (NL (RC n x)):=by rw[cC.j,BP];exact B
    have cJ:=LE X;have qv:wr.cell? (Ki p.heap.size 0)=some v:=(t.cell (p:=(Ki p.heap.size 0)) K.j.lt).E K.j.cell;have lv:p.heap.size<wr.heap.size:=AC K.j.lt t.size
    obtain⟨u,D,l⟩:∃u D,v=Y u (r.map (RC n)).length D:=by
     rcases MS H.j with ⟨A,E⟩|⟨g,y,A,_⟩
     .exact⟨none,0,by rw[A,E]⟩
     exact⟨_,y,A⟩
    have cT:p.heap.size<=W.heap.size:=U.j.size;have dF:p.heap.size<=wr.heap.size:=d
    have cV:(r.map (RC n)).length<=10:=by rw[BP];omega
    obtain⟨E,g⟩:=nMz (r.map (RC n));have cA:Hid ((r++[x]).map (RC n)=E++[RC n x]):=by show _=_;rw[g];simp
    rw[<-g]at H S T l cV;subst l;have bW:=LE ((MK H.j t).alloc (.cells #[Y F s.length G] 49));clear B t X g
    gi_wp2_with (gi_at_builtin;refine wpListIn_append_own _ z _ _ 245 z p.heap.size 49 i1 (Y none 0 0) 1 24 underlying245 L.j.1 L.j.2.1 L.j.2.2.1 L.j.2.2.2 z d _ E.length _ z bW.j (Ki wr.heap.size 0) 1 1 [Y F s.length G] z z (cell_one_new _ _ _) (by simp[Value.oneCell']) (by unfold maxLen;omega) d q ?_;intro v' w9 t A _;obtain⟨g',cL,rfl⟩:=ownsRow_succ t;obtain⟨y,B,X,h⟩:=InSn.push cT C K.j H.j S.j T.j cI.j cE.j V.j cJ.j t A;have q9:=y.cell;have r9:=y.frozen;have g:=LE (I B (I X h));clear t A y B X h)
    exact⟨g.j.2.1.from _,g.j.2.2,by rw[cA.j];exact g.j.1,U.j.E g.j.2.2.1⟩
  case done =>
   rintro f H W s rfl ⟨⟨v,hv,m,E,B⟩,M⟩ g;have G:=hv.cell
   gi_wp2
   refine⟨j,.inl ⟨_,_,z,run_takeDeferred g,?_⟩⟩
   have r:Bat (W.putObj f (.deferred none)) p.heap.size v (VK n n.length):=by
    obtain⟨vs,t,y,A⟩:=m;rw[Ah];exact⟨vs,ownsRow_putObj t _ g z,λi F=>ownsRow_putObj (y i F) _ g z,A⟩
   exact⟨_,results_tmp z _ _ _,v,z,r.J N.j.size,N.j.E ((M.E (belowK_b (w:=p) C W f _ _ (by simp at s;omega) g z z)).J N.j.size)⟩
  case stop =>
   rintro f c r W _ _ k _;exact k.elim
theorem gi(a:List Pr):(NC a).length<=5:=by
 unfold NC
 split
 .rename_i h;exact oB a _ (gw h).1
 simp
theorem tg{a:List Pr}{b:List Ch}(h:b∈NC a):b.length<=20/\∀x∈b,(x.1,x.2.1)∈a:=by
 unfold NC at h
 split at h
 .exact Lr h
 simp at h
end
section
open Tryz
open Go.RowKit
variable {ws:List (Int×Q4)}{ss:List Q4}{B:Nat}{v0 v1:Ra}{w:Q9}
theorem LM{P:Program}{c:Array Oper}{o:Oper}{a:Act}{K:Act->Q9->Prop}{Q:Exit->Act->Q9->Prop}{E:Prop}(i:o.guard=none)(f:FuncId)(b:Array Ra)
  (g:(execOp a.eval o).run P w=.ok (.enter f b) w){C:Ending->Q9->Prop}(j:Calls P f b w C)(h:∀e d,C e d->∃v,e=Q2 v/\K (a.put o.dst v) d):if Region.wanted o (yielded c a.tmps)=true then Oper.wp P o a w K Q else E:=by
 have m:Region.wanted o (yielded c a.tmps)=true:=by simp[Region.wanted,i]
 rw[G m];unfold Oper.wp;rw[g,Oper.upon_enter]
 refine j.J λe d k=>?_
 obtain⟨v,rfl,l⟩:=h e d k;exact l
theorem ye(k v:Q4)(w:Q9):Calls prog 250 #[.agg #[Ow k,Ow v,Q1 false]] w λe a=>e=Q2 (.iface 343 (.agg #[Ow k,Ow v]))/\Q3 w a:=by
 go_enter func250,ntmps250;go_wp2;go_ret;exact⟨z,LH _ _⟩
theorem zy(k v:Q4)(w:Q9):Calls prog 250 #[.agg #[Ow k,Ow v,Q1 true]] w λe a=>e=Q2 (.iface 341 (.agg #[Ow k]))/\Q3 w a:=by
 go_enter func250,ntmps250;go_wp2;go_ret;exact⟨z,LH _ _⟩
def hv(n:Int):Int:=if 8<=n/\n<=200 then (n-2) / 2 else 0
theorem tq(n:Int)(w:Q9):Calls prog 26 #[Z n] w λe a=>e=Q2 (Q1 (decide (8<=n/\n<=200)))/\a=w:=by
 go_enter func26,ntmps26
 by_cases a:8<=n<;>by_cases b:n<=200<;>(go_wp2;go_ret;simp[a,b])
theorem it(n:Int)(w:Q9):Calls prog 66 #[Z n] w λe a=>e=Q2 (Z (hv n))/\a=w:=by
 by_cases h:8<=n/\n<=200
 .have a:decide (8<=n/\n<=200)=true:=by simp[h]
  have b:hv n=(n-2) / 2:=by unfold hv;rw[G h]
  obtain⟨d,f⟩:=h;go_enter func66,ntmps66;go_wp2_with (go_at_call 26;refine(tq _ _).J ?_;rw[a];rintro e c ⟨rfl,rfl⟩);go_ret;refine⟨?_,z⟩;rw[b];rfl
 have a:decide (8<=n/\n<=200)=false:=by simpa using h
 have b:hv n=0:=by unfold hv;rw[A h]
 rw[b];go_enter func66,ntmps66;go_wp2_with (go_at_call 26;refine(tq _ _).J ?_;rw[a];rintro e c ⟨rfl,rfl⟩);go_ret;exact⟨z,z⟩
theorem ZA(n:Int)(w:Q9):Calls prog 47 #[Z n] w λe a=>e=Q2 (Z (hv n))/\a=w:=by
 by_cases b:8<=n
 .by_cases c:n<=200
  .have a:hv n=(n-2) / 2:=by unfold hv;rw[G ⟨b,c⟩]
   go_enter func47,ntmps47;go_wp2;go_ret;refine⟨?_,z⟩;rw[a];rfl
  have a:hv n=0:=by unfold hv;rw[A (λx=>c x.2)]
  rw[a];go_enter func47,ntmps47;go_wp2;go_ret;exact⟨z,z⟩
 have a:hv n=0:=by unfold hv;rw[A (λx=>b x.1)]
 rw[a];go_enter func47,ntmps47;go_wp2;go_ret;exact⟨z,z⟩
def NA(W S L T H F R U O:Int)(a:Q5)(n c:Nat):Ra:=.agg #[Z W,Z S,Z L,Z T,Z H,Z F,Z R,Z U,Z O,Y a n c]
@[reducible] def LR(a:Q5)(n c:Nat)(b:Q5)(e d:Nat):Ra:=.agg #[Y a n c,Y b e d]
theorem mL:(prog.info? 9).map (λi=>(i.zero,i.size,i.bytes))=some (some (Ow empty),1,16):=h
theorem o7:(prog.info? 125).map (λi=>(i.zero,i.size,i.bytes))=some (some (.agg #[Z 0,Ow empty]),2,24):=h
theorem vi{W a:Q9}(c:Q3 W a):(∀b o,b<W.heap.size->a.cell? (Ki b o)=W.cell? (Ki b o))/\(∀b o,b<W.heap.size->a.frozen? (Ki b o)=W.frozen? (Ki b o)) :=⟨λb o h=>c.cell (p:=(Ki b o)) h,λb o h=>c.frozen (p:=(Ki b o)) h⟩
theorem UD{a b:Bool}(h:a=b):Q2 (Q1 a)=Q2 (Q1 b):=by rw[h]
def QR(n:Nat)(x:Int×Q4):Bool:=decide (0<=x.1/\x.1<(n:Int)/\(x.2.size:Int)=64)
def LT(ss:List Q4)(ws:List (Int×Q4)):Bool:=decide (8<=ss.length/\ss.length<=200/\ws.length<=300) && ss.all (λs=>decide ((s.size:Int)=64)) && ws.all (QR ss.length)
theorem uq(h:¬(8<=ss.length/\ss.length<=200/\ws.length<=300)):LT ss ws=false:=by simp[LT,h]
theorem uE{s:Q4}(a:s∈ss)(h:¬(s.size:Int)=64):LT ss ws=false:=by
 have:ss.all (λs=>decide ((s.size:Int)=64))=false:=FN.2 ⟨s,a,by simpa using h⟩;simp[LT,this]
theorem xV{x:Int×Q4}(a:x∈ws)(h:QR ss.length x=false):LT ss ws=false:=by
 have:ws.all (QR ss.length)=false:=FN.2 ⟨x,a,by simp[h]⟩;simp[LT,this]
theorem su(h:8<=ss.length/\ss.length<=200/\ws.length<=300)(a:∀s∈ss,(s.size:Int)=64)(b:∀x∈ws,QR ss.length x=true):LT ss ws=true:=by
 simp only[LT,BF,BH,DI];exact⟨⟨h,a⟩,b⟩
theorem QH(h:LT ss ws=true):(8<=ss.length/\ss.length<=200/\ws.length<=300)/\(∀s∈ss,(s.size:Int)=64)/\∀x∈ws,QR ss.length x=true:=by
 simp only[LT,BF,BH,DI]at h;exact⟨h.1.1,h.1.2,h.2⟩
theorem tM{n:Nat}{x:Int}{s:Q4}(a:0<=x)(b:x<(n:Int)):((s.size:Int) == 64)=QR n (x,s):=by
 rw[JB];simp[QR,a,b]
theorem tm(n:Nat)(x:Int)(s:Q4)(w:Q9)(d:s.size<=1048576)(c:n<=1048576):Calls prog 127 #[Z (n:Int),Z x,Ow s] w λe a=>e=Q2 (Q1 (QR n (x,s)))/\a=w:=by
 by_cases a:0<=x
 .by_cases b:x<(n:Int)
  .go_enter func127,ntmps127
   go_wp2;go_ret;exact⟨UD (tM a b),z⟩
  go_enter func127,ntmps127
  go_wp2;go_ret;exact⟨UD (by simp[QR];omega),z⟩
 go_enter func127,ntmps127
 go_wp2;go_ret;exact⟨UD (by simp[QR];omega),z⟩
theorem Bc(a:Q5)(n c:Nat)(b:Q5)(g d:Nat)(x:Int)(s:Q4)(w:Q9)(i:s.size<=1048576)(h:n<=1048576):Calls prog 170 #[LR a n c b g d,Z x,Ow s] w λe f=>e=Q2 (Q1 (QR n (x,s)))/\Q3 w f:=by
 by_cases e:0<=x
 .by_cases f:x<(n:Int)
  .go_enter func170,ntmps170
   go_wp2;go_ret;exact⟨UD (tM e f),LH _ _⟩
  go_enter func170,ntmps170
  go_wp2;go_ret;exact⟨UD (by simp[QR];omega),LH _ _⟩
 go_enter func170,ntmps170
 go_wp2;go_ret;exact⟨UD (by simp[QR];omega),LH _ _⟩
theorem jr(n:Int)(w:Q9):Calls prog 26 #[Z n] w λe a=>e=Q2 (Q1 (decide (8<=n/\n<=200)))/\a=w:=by
 by_cases b:8<=n
 .by_cases a:n<=200
  .go_enter func26,ntmps26
   go_wp2;go_ret;exact⟨UD (by simp[b,a]),z⟩
  go_enter func26,ntmps26
  go_wp2;go_ret;exact⟨UD (by simp[a]),z⟩
 go_enter func26,ntmps26
 go_wp2;go_ret;exact⟨UD q,z⟩
theorem ZL(a:Q5)(ss:List Q4)(c:Nat)(p:Q5)(ws:List (Int×Q4))(y:Nat)(w:Q9)(h:Strs w a ss)(M:Wrs w p ws)(X:ss.length<=1048576)(S:ws.length<=1048576)(D:∀s∈ss,s.size<=1048576)(L:∀f∈ws,f.2.size<=1048576):Calls prog 84 #[LR a ss.length c p ws.length y] w λe q=>e=Q2 (Q1 (LT ss ws))/\Q3 w q:=by
 have t:∀b,Q3 w (w.alloc b):=λb=>LH _ _
 obtain⟨R,j⟩:=nHz (LT ss ws);rw[<-j.j]
 by_cases F:8<=(ss.length:Int)/\(ss.length:Int)<=200
 focus
  have E:decide (8<=(ss.length:Int)/\(ss.length:Int)<=200)=true:=AM F;obtain⟨T,U⟩:=F
  by_cases x:(ws.length:Int)<=300
  .go_enter func84,ntmps84
   go_wp2_with (go_at_call 26;refine(jr _ _).J ?_;rw[E];rintro e q ⟨rfl,rfl⟩);go_loop [4,21] (λ_ i=>∃k:Nat,k<=ss.length/\i=Z k/\Hid (∀s∈ss.take k,(s.size:Int)=64)) (λ_ i=>ss.length-(intOf i).toNat)
   case atStart =>
    exact⟨0,AL,z,by show ∀s∈ss.take 0,_;simp⟩
   case round =>
    obtain⟨k,W,rfl,n⟩:=hrel
    by_cases v:k<ss.length
    .obtain⟨b,o,s,rfl,N,m⟩:=(h.I (t (.cells #[Y a ss.length c,Y p ws.length y] 37))).at v
     have A:Hid (s∈ss):=by show _∈_;rw[m.j];simp[List.getD,v]
     by_cases g:((s.size:Int) != 64)=true
     .go_wp2
      go_ret;exact⟨UD (by rw[j.j];exact(uE A.j (by simpa using g)).symm),t _⟩
     have u:((s.size:Int) != 64)=false:=by simpa using g
     have r:Hid ((s.size:Int)=64):=by show _=_;simpa using g
     clear g;go_wp2;go_round
     case rel =>
      exact⟨k+1,d,ν,λf g=>by
            rw[BJ v]at g;rcases BZ.1 g with g|g
            .exact n.j f g
            simp at g;have e:=m.j;simp[List.getD,v]at e;rw[g,<-e];exact r.j⟩
     case measure =>
      simp[intOf];omega
    go_wp2
    have b:∀s∈ss,(s.size:Int)=64:=by have:=n.j;rwa [AS d]at this
    have J:=LE b;clear b n;go_loopw [6,32] (λ_ i wr=>∃k:Nat,k<=ws.length/\i=Z k/\Hid (∀f∈ws.take k,QR ss.length f=true)/\Below (w.heap.size+1) (w.alloc (.cells #[Y a ss.length c,Y p ws.length y] 37)) wr) (λ_ i _=>ws.length-(intOf i).toNat)
    case atStart =>
     exact⟨0,AL,z,by show ∀s∈ws.take 0,_;simp,AB⟩
    case round =>
     obtain⟨I,Q,rfl,G,i⟩:=hrel;have q0:wr.cell? (Ki w.heap.size 0)=some (Y a ss.length c):=(i.cell (p:=(Ki w.heap.size 0)) (by show w.heap.size<_;omega)).E l;have q1:wr.cell? (Ki w.heap.size 1)=some (Y p ws.length y):=(i.cell (p:=(Ki w.heap.size 1)) (by show w.heap.size<_;omega)).E l;have u:Q3 w wr:=(t _).E (i.J d);have K:=LE i;have C:=LE u
     by_cases r:I<ws.length
     .obtain⟨b,o,n,s,rfl,N,P,m⟩:=(M.I u).at r
      have A:Hid ((n,s)∈ws):=by show _∈_;rw[m.j];simp[List.getD,r]
      have H:s.size<=1048576:=L (n,s) A.j;have V:w.heap.size+1<=wr.heap.size:=by have:=i.size;simpa using this
      have O:w.heap.size<wr.heap.size:=d
      clear i u
      cases hok:QR ss.length (n,s) with
      | false =>
       go_wp2_with (go_at_call 127;refine(tm ss.length n s _ H d).J ?_;rw[hok];rintro e q ⟨rfl,rfl⟩);go_ret;exact⟨UD (by rw[j.j];exact(xV A.j hok).symm),C.j.alloc C.j.size _⟩
      | true =>
       go_wp2_with (go_at_call 127;refine(tm ss.length n s _ H d).J ?_;rw[hok];rintro e q ⟨rfl,rfl⟩);go_roundw
       case rel =>
        exact⟨I+1,d,ν,λf g=>by
              rw[BJ r]at g;rcases BZ.1 g with g|g
              .exact G.j f g
              simp at g;have e:=m.j;simp[List.getD,r]at e;rw[g,<-e];exact hok,K.j.alloc d _⟩
       case measure =>
        simp[intOf];omega
     clear i u
     go_wp2;go_ret;refine⟨UD ?_,C.j⟩;rw[j.j];have b:=G.j;rw[AS d]at b;exact(su d J.j b).symm
  focus
  rotate_left
 rotate_left
 focus
  have E:decide (8<=(ss.length:Int)/\(ss.length:Int)<=200)=false:=AH F
 rotate_left
 all_goals
  go_enter func84,ntmps84;go_wp2_with (go_at_call 26;refine(jr _ _).J ?_;rw[E];rintro e q ⟨rfl,rfl⟩);go_ret;exact⟨UD (by rw[j.j];exact(uq d).symm),t _⟩
theorem ZX(a:Q5)(ss:List Q4)(c:Nat)(v:Q5)(ws:List (Int×Q4))(q:Nat)(w:Q9)(h:Strs w a ss)(T:Wrs w v ws)(hl:ss.length<=1048576)(X:ws.length<=1048576)(hs:∀s∈ss,s.size<=1048576)(P:∀f∈ws,f.2.size<=1048576):Calls prog 111 #[LR a ss.length c v ws.length q] w λe p=>e=Q2 (Q1 (LT ss ws))/\Q3 w p:=by
 have m:∀b,Q3 w (w.alloc b):=λb=>LH _ _
 obtain⟨R,j⟩:=nHz (LT ss ws);rw[<-j.j]
 by_cases x:8<=(ss.length:Int)
 .by_cases D:(ss.length:Int)<=200
  .by_cases hp:(ws.length:Int)<=300
   .go_enter func111,ntmps111
    go_wp2;go_loop [3] (λi=>∃k:Nat,k<=ss.length/\i=Z k/\Hid (∀s∈ss.take k,(s.size:Int)=64)) (λi=>ss.length-(intOf i).toNat)
    case atStart=>exact⟨0,AL,z,by show ∀s∈ss.take 0,_;simp⟩
    case round =>
     obtain⟨k,hk,rfl,n⟩:=hrel
     by_cases C:k<ss.length
     .obtain⟨b,o,s,rfl,E,u⟩:=(h.I (m (.cells #[Y a ss.length c,Y v ws.length q] 37))).at C
      have F:Hid (s∈ss):=by show _∈_;rw[u.j];simp[List.getD,C]
      by_cases g:((s.size:Int) != 64)=true
      .go_wp2
       go_ret;exact⟨UD (by rw[j.j];exact(uE F.j (by simpa using g)).symm),m _⟩
      have t:((s.size:Int) != 64)=false:=by simpa using g
      have r:Hid ((s.size:Int)=64):=by show _=_;simpa using g
      clear g;go_wp2;go_round
      case rel=>exact⟨k+1,d,ν,λf g=>by
             rw[BJ C]at g;rcases BZ.1 g with g|g
             .exact n.j f g
             simp at g;have e:=u.j;simp[List.getD,C]at e;rw[g,<-e];exact r.j⟩
      case measure=>simp[intOf];omega
     go_wp2
     have b:∀s∈ss,(s.size:Int)=64:=by have:=n.j;rwa [AS d]at this
     have N:=LE b;clear b n;go_loopw [4] (λi wr=>∃k:Nat,k<=ws.length/\i=Z k/\Hid (∀f∈ws.take k,QR ss.length f=true)/\Below (w.heap.size+1) (w.alloc (.cells #[Y a ss.length c,Y v ws.length q] 37)) wr) (λi _=>ws.length-(intOf i).toNat)
     case atStart=>exact⟨0,AL,z,by show ∀s∈ws.take 0,_;simp,AB⟩
     case round =>
      obtain⟨r,W,rfl,J,i⟩:=hrel;have L:wr.cell? (Ki w.heap.size 0)=some (Y a ss.length c):=(i.cell (p:=(Ki w.heap.size 0)) (by show w.heap.size<_;omega)).E l;have M:wr.cell? (Ki w.heap.size 1)=some (Y v ws.length q):=(i.cell (p:=(Ki w.heap.size 1)) (by show w.heap.size<_;omega)).E l;have A:Q3 w wr:=(m _).E (i.J d);have O:=LE i;have G:=LE A
      by_cases y:r<ws.length
      .obtain⟨b,o,n,s,rfl,E,g,u⟩:=(T.I A).at y
       have F:Hid ((n,s)∈ws):=by show _∈_;rw[u.j];simp[List.getD,y]
       have Q:s.size<=1048576:=P (n,s) F.j;have S:w.heap.size+1<=wr.heap.size:=by have:=i.size;simpa using this
       have H:w.heap.size<wr.heap.size:=d
       have K:b<wr.heap.size:=by have:=DP wr _ E;simpa using this
       have V:(r:Int)<(ws.length:Int):=d
       have U:(0:Int)<=(r:Int):=d
       have t:=LE (I L (I M (I E g)));go_wp2_with fail;clear i A L M E g
       go_region_held3 (λp=>p.cell? (Ki w.heap.size 0)=some (Y a ss.length c)/\p.cell? (Ki w.heap.size 1)=some (Y (Hw b o) ws.length q)/\p.cell? (Ki b (o+r*2))=some (Z n)/\p.cell? (Ki b (o+r*2+1))=some (Ow s))
        (first|assumption|exact t.j|exact⟨(p.cell (p:=⟨_,_,none⟩) H).E t.j.1,(p.cell (p:=⟨_,_,none⟩) H).E t.j.2.1,(p.cell (p:=(Ki b _)) K).E t.j.2.2.1,(p.cell (p:=(Ki b _)) K).E t.j.2.2.2⟩)
        (first|(go_at_call 170;refine(Bc a ss.length c (Hw b o) ws.length q n s _ Q d).J ?_;rintro e g ⟨rfl,p⟩))
       cases hok:QR ss.length (n,s) with
       | false =>
        go_wp2;go_ret;exact⟨UD (by rw[j.j];exact(xV F.j hok).symm),G.j.drew.E (p.J G.j.size)⟩
       | true =>
        go_wp2;go_roundw
        case rel=>exact⟨r+1,d,ν,λf g=>by
               rw[BJ y]at g;rcases BZ.1 g with g|g
               .exact J.j f g
               simp at g;have e:=u.j;simp[List.getD,y]at e;rw[g,<-e];exact hok,O.j.drew.E (p.J S)⟩
        case measure=>simp[intOf];omega
      clear i A
      go_wp2;go_ret;refine⟨UD ?_,G.j⟩;rw[j.j];have b:=J.j;rw[AS d]at b;exact(su d N.j b).symm
   go_enter func111,ntmps111
   go_wp2;go_ret;exact⟨UD (by rw[j.j];exact(uq d).symm),m _⟩
  go_enter func111,ntmps111
  go_wp2;go_ret;exact⟨UD (by rw[j.j];exact(uq d).symm),m _⟩
 go_enter func111,ntmps111
 go_wp2;go_ret;exact⟨UD (by rw[j.j];exact(uq d).symm),m _⟩
structure Cx(w:Q9)(B:Nat)(v0 v1:Ra):Prop where
 lt:B<w.heap.size
 c0:w.cell? (Ki B 0)=some v0
 c1:w.cell? (Ki B 1)=some v1
theorem Cx.I{b:Q9}(h:Cx w B v0 v1)(a:Q3 w b):Cx b B v0 v1 :=⟨AC h.lt a.size,(a.cell (p:=⟨_,0,none⟩) h.lt).E h.c0,(a.cell (p:=⟨_,1,none⟩) h.lt).E h.c1⟩
theorem Cx.V{c:Q9}{r:Option Nat}(h:Cx w B v0 v1)(a:w.grownBy c r)(b:some B≠r):Cx c B v0 v1 :=⟨AC h.lt a.size,(DT (a:=(Ki B 0)) (a.block B h.lt b)).E h.c0,(DT (a:=(Ki B 1)) (a.block B h.lt b)).E h.c1⟩
theorem Cx.drew(h:Cx w B v0 v1):Cx w.drew B v0 v1:=⟨h.lt,h.c0,h.c1⟩
theorem Cx.new(w:Q9)(v0 v1:Ra)(t:TypeId):Cx (w.alloc (.cells #[v0,v1] t)) w.heap.size v0 v1 :=⟨σ,by rw[EI _ _ _ _ rfl];rfl,by rw[EI _ _ _ _ rfl];rfl⟩
theorem MI(w:Q9)(o:Obj):Q3 w (w.alloc o):=LH _ _
theorem Below.then{a b c:Q9}(h:Below B a b)(d:B<=a.heap.size)(k:Q3 b c):Below B a c:=h.E (k.J (AJ d h.size))
