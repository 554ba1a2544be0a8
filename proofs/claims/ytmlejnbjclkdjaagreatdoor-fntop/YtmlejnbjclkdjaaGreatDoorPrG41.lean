import Derived.Test.YtmlejnbjclkdjaaGreatDoorPrChk
import Derived.Test.YtmlejnbjclkdjaaGreatDoorPrFbI
import Derived.Test.YtmlejnbjclkdjaaGreatDoorPrFbS
import Derived.Deep.AppendSrc
import Derived.Test.YtmlejnbjclkdjaaGreatDoorPrG46
import Derived.Test.YtmlejnbjclkdjaaGreatDoorPrG45
import Derived.Test.YtmlejnbjclkdjaaGreatDoorPrCutI
set_option maxHeartbeats 16000000
set_option maxRecDepth 8000
set_option linter.all false
namespace Go.Proofs.YtmlejnbjclkdjaaGreatDoor
open _root_.ByteArray(empty)
section
open Tryz
open Go.RowKit Go.Shelf
variable {B Bn Bs n₀:Nat}{v:Nc}{W w:Nb}
def KpC(n₀ Bs Bn:Nat)(A B:Nb):Prop:=Below n₀ A B/\B.cell? ⟨Bs,0,none⟩=A.cell? ⟨Bs,0,none⟩/\B.cell? ⟨Bn,0,none⟩=A.cell? ⟨Bn,0,none⟩
theorem KpC.t{A B C:Nb}(h:KpC n₀ Bs Bn A B)(k:KpC n₀ Bs Bn B C):KpC n₀ Bs Bn A C:=⟨h.1.j k.1,k.2.1.j h.2.1,k.2.2.j h.2.2⟩
theorem KpC.b(d:n₀<=w.heap.size)(f:Bs<w.heap.size)(g:Bn<w.heap.size)(W:Nb)(l:Nat)(o a:Obj)(c:w.heap.size<=l)(h:W.heap[l]?=some o)(b:o.isCells=false)(e:o.isWalk=false):KpC n₀ Bs Bn W (W.putObj l a) :=⟨belowK_b d W l o a c h b e,DH (World.putObj_heap_other (by show Bs≠l;omega)),DH (World.putObj_heap_other (by show Bn≠l;omega))⟩
theorem Bat.boxed{a:Nat}{u z:Nc}{b:List (List Ch)}(h:Bat w a v b)(f:Boxed w B 191 u):Bat (w.setCell ⟨B,0,none⟩ z) a v b:=by
 obtain⟨k,c,d,j⟩:=h;refine⟨k,c.kept (grownBy_setCell' w B z) (.inr λe=>f.not_row δ c e.symm),λi g=>(d i g).kept (grownBy_setCell' w B z) (.inr λe=>f.not_row δ (d i g) e.symm),j⟩
theorem nT{X a:Nb}{c:Option Nat}{b:Nat}{e:TypeId}{s:Nat}{n:Nat}{f:List Nc}(h:X.ownsRow b e s v n f)(p:X.grownBy a c)(q:∀r,c=some r->∃o:Obj,X.heap[r]?=some o/\o.isCells=false):a.ownsRow b e s v n f:=by
 refine h.kept p ?_;rcases h.2 with ⟨rfl,_⟩|⟨g,j,k,rfl,_,i,_⟩
 ·exact .inl rfl
 refine .inr λl=>?_
 obtain⟨o,d,m⟩:=q g (by simpa[Value.ownBlock] using l.symm)
 rw[i]at d;cases d;cases m
theorem ze{X a:Nb}{b:Option Nat}{t:TypeId}(h:Boxed X B t v)(f:X.grownBy a b)(g:∀r,b=some r->∃o:Obj,X.heap[r]?=some o/\o.isCells=false):Boxed a B t v:=by
 refine h.kept f λe=>?_
 obtain⟨o,c,d⟩:=g B e.symm
 rw[show X.heap[B]?=_ from h]at c;cases c;cases d
def InSn(n₀ B Bs Bn:Nat)(b:Nc)(a:List (List Ch))(W:Nb):Prop:=∃v,Boxed W B 191 v/\Bat W n₀ v a/\Boxed W Bs 29 b/\Boxed W Bn 3 (.int .i64 20)
theorem InSn.own(n₀ B Bs Bn:Nat)(m:Nc)(f:List Nat->List (List Ch)):Own (λa W=>InSn n₀ B Bs Bn m (f a) W):=by
 rintro s X a l ⟨v,hv,⟨n,d,e,g⟩,h,j⟩ b c;exact⟨v,ze hv b c,⟨n,nT d b c,λi k=>nT (e i k) b c,g⟩,ze h b c,ze j b c⟩
theorem yB{a:Nb}(h:Below W.heap.size W a):KeepsOthers W a:=⟨h.size,λk o b _=>(h.block k (AW.1 b).1).j b⟩
theorem InSn.push{wr a:Nb}{x c y:Nc}{f:List (List Ch)}{q:List Ch}{p:List Nc}{d:Obj}(E:n₀<=W.heap.size)(N:n₀<=B)(hv:Boxed W B 191 v)(A:W.ownsRow n₀ 42 1 v f.length p)(C:∀i,i<f.length->W.ownsRow n₀ 171 3 (p.getD i PK) (f.getD i []).length (NL (f.getD i [])))
  (M:∀i j k,i<j->j<f.length->(p.getD i PK).ownBlock=some k->(p.getD j PK).ownBlock≠some k)(s:Boxed W Bs 29 x)(r:Boxed W Bn 3 (.int .i64 20))(l:Below W.heap.size W wr)
  (F:wr.ownsRow W.heap.size 171 3 y q.length (NL q))(O:a.ownsRow n₀ 42 1 c (f.length+1) (p++[y]))(n:(wr.alloc d).grownBy a v.ownBlock):Boxed a B 191 v/\InSn n₀ B Bs Bn x (f++[q]) (a.setCell ⟨B,0,none⟩ c)/\KeepsOthers W (a.setCell ⟨B,0,none⟩ c)/\KpC n₀ Bs Bn W (a.setCell ⟨B,0,none⟩ c):=by
 have m:∀ {b:Nat} {t:TypeId} {u:Nc},Boxed W b t u->Boxed wr b t u:=λh=>(l.block _ h.lt).j h
 have h:=NC A l;have z:Boxed a B 191 v:=((m hv).alloc d).kept n ((m hv).not_row δ h);have J:Boxed a Bs 29 x:=((m s).alloc d).kept n ((m s).not_row δ h);have I:Boxed a Bn 3 (.int .i64 20):=((m r).alloc d).kept n ((m r).not_row δ h)
 have G:Bat a n₀ c (f++[q]):=Bat.push (h.alloc d) (λi g=>(NC (C i g) l).alloc d) M ((yy F E).alloc d) (λi k g o e=>by
  have R:=(C i g).lt k o;have S:=F.lt k e
  omega) O n
 have Q:Bs≠B:=λe=>by
  have:=(show W.heap[Bs]?=_ from s);rw[e,show W.heap[B]?=_ from hv]at this;simp at this
 have P:Bn≠B:=λe=>by
  have:=(show W.heap[Bn]?=_ from r);rw[e,show W.heap[B]?=_ from hv]at this;simp at this
 have k:Boxed (a.setCell ⟨B,0,none⟩ c) Bs 29 x:=J.kept (grownBy_setCell' a B c) (by simp[Q]);have i:Boxed (a.setCell ⟨B,0,none⟩ c) Bn 3 (.int .i64 20):=I.kept (grownBy_setCell' a B c) (by simp[P]);refine⟨z,⟨c,z.set c,G.boxed z,k,i⟩,?_,?_,k.cell.j s.cell.symm,i.cell.j r.cell.symm⟩
 ·refine(((yB l).j (KeepsOthers.alloc _ d)).j (KeepsOthers.of_grownBy n λj o e D=>?_)).j (KeepsOthers.setCell _ _ _)
  rcases(h.alloc d).2 with ⟨rfl,_⟩|⟨g,K,L,rfl,_,H,_⟩
  ·simp[Value.ownBlock]at e
  obtain rfl:g=j:=by simpa[Value.ownBlock] using e
  rw[H]at D;cases D;rfl
 refine((((AB n₀ W).j (l.z E)).alloc (by have:=l.size;omega) d).J n (by have:=l.size;simp;omega) λj e=>?_).setCell (p:=⟨B,0,none⟩) N c
 exact(A.lt j e).1
theorem InSn.I{b:Nb}{f:Nc}{c:List (List Ch)}(h:InSn n₀ B Bs Bn f c W)(a:Below W.heap.size W b):InSn n₀ B Bs Bn f c b:=by
 obtain⟨v,hv,g,d,e⟩:=h;exact⟨v,(a.block _ hv.lt).j hv,g.I a,(a.block _ d.lt).j d,(a.block _ e.lt).j e⟩
theorem Me{b o:Nat}{a:List Pr}(h:Prs w (Mw b o) a)(k:Nat):Prs w (Mw b (o+k*20*2)) ((a.drop (k*20)).take 20):=by
 rcases h with h|⟨j,l,c,d,f⟩
 ·subst h;exact .inl σ
 cases c
 refine .inr ⟨b,o+k*20*2,rfl,d,λi g=>?_⟩;simp only[AP,CU]at g;have:=f (k*20+i) ω;rw[show o+k*20*2+i*2=o+(k*20+i)*2 by omega]
 have e:((a.drop (k*20)).take 20).getD i (empty,empty)=a.getD (k*20+i) (empty,empty):=by
  simp[List.getD,FY,FQ,show i<20 by omega]
 rw[e];exact this
end
section
open Tryz
open Go.RowKit Go.Shelf
attribute [local go_sem] Oper.semAt_some
theorem qC(a:M6)(d:List Pr)(c:Nat)(w:Nb)(h:Prs w a d)(hc:d.length<=c)(hl:d.length<=1048576)(I:∀x∈d,x.1.size<=1048576/\x.2.size<=1048576):Calls prog 157 #[.agg #[.slice a d.length c]] w λe b=>∃v,e=M3 v/\Bat b w.heap.size v (MD d)/\Below w.heap.size w b:=by
 refine(FI (n:=4)).1 ?_;unfold MD;have b:Below w.heap.size w (w.alloc (.cells #[.slice a d.length c] 31)):=LO _ _;have hv:=mu a d c (w.alloc (.cells #[.slice a d.length c] 31)) (h.I b) hl I;have k:=Z hv;have g:=Z b;clear hv b;refine callsIn_of_wp_marks func157 rfl trivial ?_ rfl;simp only[ntmps157,GS,CY,AR,Nat.reduceAdd,Nat.reduceSub,FZ,GA,GR,FL,DW,EI]
 cases hok:MU d with
 | false =>
  rw[hok]at k;simp only[FH,IS]
  gi_wp2_with (refine⟨trivial,?_⟩;gi_at_call 112;refine(FI.2 k.l).z ?_;rintro e f ⟨rfl,i⟩)
  exact⟨_,results_tmp rfl _ _ _,_,rfl,Bat.nil _ _,g.l.j (i.z g.l.size)⟩
 | true =>
  rw[hok]at k;simp only[IH];have cS:d.length<=100:=(ZH hok).1
  gi_wp2_with (first|(refine⟨trivial,?_⟩;gi_at_call 112;refine(FI.2 k.l).z ?_;rintro e f ⟨rfl,i⟩;have q:f.cell? ⟨w.heap.size,0,none⟩=some (.slice a d.length c):=OK i γ σ;have dP:w.heap.size<f.heap.size:=AD σ i.size)|(refine⟨trivial,?_⟩;gi_at_call 200;refine(An Fence.wide _ trivial rfl _ _ _ _).z ?_;rintro e w4 ⟨rfl,rfl⟩))
  obtain⟨b,o,l,m⟩:∃b o,(d.length=0\/a=Mw b o)/\Prs w (Mw b o) d:=by
   rcases h with h|⟨b,o,j,n,p⟩
   ·exact⟨0,0,.inl (by rw[h];rfl),.inl h⟩
   exact⟨b,o,.inr j,.inr ⟨b,o,rfl,n,p⟩⟩
  have j:=m.I (g.l.j (i.z g.l.size));have T:=Z j;have F:=Z (g.l.j (i.z g.l.size));have X:=Z l;clear m j l h k g i q;obtain⟨i0,g,l,m,n⟩:=kc vO;have C:=Z (AH g (AH l (AH m n)));obtain⟨i1,q,i,j,k⟩:=kc sY;have E:=Z (AH q (AH i (AH j k)));clear g l m n q i j k;have V:=Boxed.new f 191 (.slice none 0 0);have H:=Boxed.new (f.alloc (.cells #[.slice none 0 0] 191)) 29 (.slice a d.length c);have G:=Boxed.new ((f.alloc (.cells #[.slice none 0 0] 191)).alloc (.cells #[.slice a d.length c] 29)) 3 (.int .i64 20);simp only[BD]at H G;have cN:Below f.heap.size f (((f.alloc (.cells #[.slice none 0 0] 191)).alloc (.cells #[.slice a d.length c] 29)).alloc (.cells #[.int .i64 20] 3)):=(((AB _ f).alloc (AA _) _).alloc σ _).alloc τ _
  refine wpIn_rangeFunc_ownG rfl ω (gf:=220) (lb:=#[Mv (f.heap.size+1) 0,Mv (f.heap.size+1+1) 0]) rfl trivial (enters_of func220 κ rfl)
   (Gs Fence.wide 3 trivial rfl ω (f.heap.size+1) (f.heap.size+1+1) b o d.length c a cS hc _ σ σ (KpC f.heap.size (f.heap.size+1) (f.heap.size+1+1)) (λA B h=>h.2) (H.alloc _).cell G.cell X.l)
   KpC.t (KpC.b τ σ σ) (AB _ _) (λ_=>rfl)
   (λk W=>InSn f.heap.size f.heap.size (f.heap.size+1) (f.heap.size+1+1) (.slice a d.length c) (k.map (PC d)) W/\Below f.heap.size f W)
   (λ_ _ _=>False)
   (OwnFrom.and (Own.from (InSn.own _ _ _ _ _ (λk=>k.map (PC d))) _) (ownFrom_below (AA _) τ))
   (λ_ _ _ _ _ I _ _=>I)
   ⟨⟨_,(V.alloc _).alloc _,Bat.nil _ _,H.alloc _,G⟩,cN⟩
   (λx=>{ tmps:=#[.agg #[.slice a d.length c],Mv w.heap.size 0,.slice none 0 0,Mv f.heap.size 0,aj b o d.length x,undef,undef,undef,.agg #[.slice a d.length c],M0 true,M0 false,Mv w.heap.size 0,.slice a d.length c,.func (.func 220) #[] #[Mv (f.heap.size+1) 0,Mv (f.heap.size+1+1) 0],aj b o d.length x,undef,undef,undef,undef,undef,undef,undef,undef,undef,undef,undef,undef,undef,undef,undef,undef,undef,undef,undef,undef],defers:=[] }) ?assign ?body ?done ?stop
  case assign =>
   intro l x W K g
   gi_wp2
   exact g
  case body =>
   rintro l k x W ⟨⟨v,hv,⟨S,j,n,p⟩,s,q⟩,B⟩ dM;have r:=Me (T.l.I B) x;obtain⟨m,g⟩:∃m,m=(d.drop (x*20)).take 20:=⟨_,rfl⟩;have t:m.length=min 20 (d.length-x*20):=by rw[g];simp
   have cE:Hid (PC d x=m.map VF):=by show _=_;rw[g];rfl
   obtain⟨D,i⟩:∃D,D=o+x*20*2:=⟨_,rfl⟩;unfold aj;rw[<-t,<-i];rw[<-g,<-i]at r;have cT:m.length<=20:=ω
   have cI:=Z r;have z:=Z j;have J:=Z n;have K:=Z p;have A:=Z hv;have cJ:=Z s;have cF:=Z q;have L:=Z B;clear r j n p hv s q g i t
   gi_wp2
   gi_loopw [5,17] (λy i wr=>∃j:Nat,j<=m.length/\i=.int .i64 (j:Int)/\wr.ownsRow W.heap.size 171 3 y j (NL ((m.map VF).take j))/\Below W.heap.size W wr) (λ_ i _=>m.length-(intOf i).toNat)
   case atStart=>exact⟨0,AM _,rfl,DA _ _ _ _,AB _ _⟩
   case round =>
    obtain⟨j,hj,rfl,r,n⟩:=hrel;have M:=Z n
    by_cases y:j<m.length
    ·obtain⟨O,ob,g,p,q,R,cZ,N⟩:=(cI.l.I n).at y
     obtain⟨rfl,rfl⟩:b=O/\D=ob:=by cases q;exact⟨rfl,rfl⟩
     clear q;have cQ:(j:Int)<(m.length:Int):=ω
     have q:(0:Int)<=(j:Int):=ω
     have u:=Z ((r.alloc (.cells #[Mz g,Mz p] 103)).alloc (.cells #[Mz g,Mz p,M0 false] 171));have U:=n.size;have dL:b<wr.heap.size:=by have:=DM wr _ R;simpa using this
     gi_wp2_with (gi_at_builtin;refine wpListIn_append_own _ rfl _ _ 42 rfl W.heap.size 171 i0 (.agg #[Mz empty,Mz empty,M0 false]) 3 40 underlying42 C.l.1 C.l.2.1 C.l.2.2.1 C.l.2.2.2 rfl ω _ j _ rfl u.l ⟨wr.heap.size+1,0,none⟩ 1 1 [Mz g,Mz p,M0 false] rfl rfl (mJ wr _ _ _) (ft _ _ _) (by unfold maxLen;omega) ω τ ?_;intro v' w7 t s _;have Q:=Z t;have P:=Z (UC (((M.l.alloc U _).alloc τ _)) u.l s τ);clear t s)
     go_roundw
     case rel =>
      refine⟨j+1,ω,ν,?_,P.l⟩
      have s:(m.map VF).take (j+1)=(m.map VF).take j++[(g,p,false)]:=by
       rw[AY (by simpa using y)]
       congr 2
       have:=N.l;simp[List.getD,y]at this;rw[List.getElem_map,<-this];rfl
      rw[s,sG];exact Q.l
     case measure=>simp[intOf];omega
    have cP:j=m.length:=ω
    subst cP;rw[AQ σ]at r
    obtain⟨t,u,rfl⟩:∃t u,u5=Value.slice t m.length u:=by
     rcases NU r with ⟨q,s⟩|⟨g,p,q,_⟩
     ·exact⟨none,0,by rw[q,s]⟩
     exact⟨_,p,q⟩
    have N:wr.ownsRow W.heap.size 171 3 (.slice t m.length u) (PC d x).length (NL (PC d x)):=by rw[cE.l,BU];exact r
    have cL:=Z N;have qv:wr.cell? ⟨f.heap.size,0,none⟩=some v:=(n.cell (p:=⟨f.heap.size,0,none⟩) A.l.lt).j A.l.cell;have lv:f.heap.size<wr.heap.size:=AD A.l.lt n.size
    obtain⟨Q,R,P⟩:∃Q R,v=Value.slice Q (k.map (PC d)).length R:=by
     rcases NU z.l with ⟨q,s⟩|⟨g,p,q,_⟩
     ·exact⟨none,0,by rw[q,s]⟩
     exact⟨_,p,q⟩
    have cU:f.heap.size<=W.heap.size:=L.l.size;have dN:f.heap.size<=wr.heap.size:=ω
    have cV:(k.map (PC d)).length<=10:=by rw[BU];omega
    obtain⟨p,g⟩:∃p,p=k.map (PC d):=⟨_,rfl⟩;have cC:Hid ((k++[x]).map (PC d)=p++[PC d x]):=by show _=_;rw[g];simp
    rw[<-g]at z J K P cV;subst P;have U:=Z ((NC z.l n).alloc (.cells #[.slice t m.length u] 42));clear r n N g
    gi_wp2_with (gi_at_builtin;refine wpListIn_append_own _ rfl _ _ 191 rfl f.heap.size 42 i1 (.slice none 0 0) 1 24 underlying191 E.l.1 E.l.2.1 E.l.2.2.1 E.l.2.2.2 rfl ω _ p.length _ rfl U.l ⟨wr.heap.size,0,none⟩ 1 1 [.slice t m.length u] rfl rfl (cell_one_new _ _ _) (by simp[Value.oneCell']) (by unfold maxLen;omega) ω τ ?_;intro v' w9 n r _;obtain⟨g',cM,rfl⟩:=ownsRow_succ n;obtain⟨q,s,N,O⟩:=InSn.push cU (AA _) A.l z.l J.l K.l cJ.l cF.l M.l cL.l n r;have q9:=q.cell;have r9:=q.frozen;have g:=Z (AH s (AH N O));clear n r q s N O)
    exact⟨g.l.2.1.from _,g.l.2.2,by rw[cC.l];exact g.l.1,L.l.j g.l.2.2.1⟩
  case done =>
   rintro D u W m rfl ⟨⟨v,hv,k,s,q⟩,B⟩ g;have t:=hv.cell
   gi_wp2
   refine⟨σ,.inl ⟨_,_,rfl,run_takeDeferred g,?_⟩⟩
   have l:Bat (W.putObj D (.deferred none)) f.heap.size v (TL d d.length):=by
    obtain⟨S,j,n,p⟩:=k;rw[vB];exact⟨S,ownsRow_putObj j _ g rfl,λi r=>ownsRow_putObj (n i r) _ g rfl,p⟩
   exact⟨_,results_tmp rfl _ _ _,v,rfl,l.z F.l.size,F.l.j ((B.j (belowK_b (w:=f) (AA _) W D _ _ (by simp at m;omega) g rfl rfl)).z F.l.size)⟩
  case stop =>
   rintro D c k W _ _ h _;exact h.elim
theorem YX(a:List Pr):(MD a).length<=5:=by
 unfold MD
 split
 ·rename_i h;exact vq a _ (ZH h).1
 simp
theorem kt{a:List Pr}{b:List Ch}(h:b∈MD a):b.length<=20/\∀x∈b,(x.1,x.2.1)∈a:=by
 unfold MD at h
 split at h
 ·exact Gz h
 simp at h
end
section
open Tryz
open Go.RowKit
variable {S:Int}{cs:List Nc}{c e g:Nat}{a b:M6}{P:Program}{w w':Nb}
theorem pQ{T e:TypeId}{B b:Nat}{bs:List Nc}(h:Lib.IsBuilder T e B b bs w)(i:Below w.heap.size w w'):Lib.IsBuilder T e B b bs w':=by
 have f:∀p,Lib.BuilderAt T e B b p bs w->Lib.BuilderAt T e B b p bs w':=λp j=>by
  obtain⟨k,v,d,l,m⟩:=j
  have j:b<w.heap.size:=by
   rcases GF b w.heap.size with h|h
   ·exact h
   rw[DU h]at d;cases d
  exact⟨k,v,by rw[i.block b j];exact d,NC l i,m⟩
 rcases h with h|h
 ·exact .inl (f _ h)
 exact .inr (f _ h)
theorem Mg(f s:Y):Lib.byteCells f.data.toList++Lib.strCells s=Lib.byteCells (f++s).data.toList:=by
 rw[Lib.strCells_eq,<-Lib.byteCells_append]
 congr 1
theorem Jg(k:Y)(w:Nb)(l:k.size<=255):Calls prog 260 #[.agg #[Mz k]] w λe w'=>e=M3 (Mz (strOfNums [1]++(strOfNums [(k.size:Int)]++k)))/\Below w.heap.size w w':=by
 have i:∀o,Below w.heap.size w (w.alloc o):=λo=>LO _ _
 have j:∀o d,Below w.heap.size w ((w.alloc o).alloc d):=λo d=>(i o).alloc σ _
 have n:∀(x:Nb) (b:Nat),x.cell? ⟨b,0,none⟩=some (.int .u8 1)->(convert 22 9 (.slice (Mw b 0) 1 1)).run prog x=.ok (Mz (strOfNums [1])) x:=λx b h=>tJ x b 1 h
 have q:¬9223372036854775807<1+(1+k.size):=ω
 have s:(strOfNums [1]).size=1:=by rw[CJ];rfl
 have t:(strOfNums [(k.size:Int)]++k).size=1+k.size:=by rw[BN,CJ];rfl
 go_enter func260,ntmps260;go_wp2_with fail;go_region_law (refine LW ρ 265 #[Mz k] γ (uu k _ l) ?_;rintro e m ⟨rfl,d⟩;refine⟨_,rfl,?_⟩;have h:=d.size;simp only[BD,IZ]at h;have o:w.heap.size<m.heap.size:=ω;have p:=Nat.lt_of_succ_le h;obtain⟨r,_⟩:=xz d;have f:=Z d;clear d)
 all_goals
  go_wp2;go_ret;refine⟨rfl,?_⟩
  first
   | exact bs (j _ _).drew f.l
   | exact(bs (i _).drew f.l).alloc (bs (i _).drew f.l).size _
theorem Ij(j:Nat)(v d:Nc)(w:Nb):Sem.run prog (method (j+1) 279 (.agg #[v,d]) "loop.example/kilnstone/impl.form") w=.ok (269,.agg #[v,d]) w:=κ
theorem Db(j:Nat)(v:Nc)(w:Nb):Sem.run prog (method (j+1) 277 (.agg #[v]) "loop.example/kilnstone/impl.form") w=.ok (260,.agg #[v]) w:=κ
theorem uz(a:M6)(d:List (Y×Y×Bool))(c:Nat)(w:Nb)(h:Chs w a d)(R:d.length<=1048576)(U:∀x∈d,x.1.size<=1048576/\x.2.1.size<=1048576):Calls prog 115 #[.slice a d.length c] w λe w'=>e=M3 (Mz (LT d))/\Below w.heap.size w w':=by
 unfold LT
 cases hok:PA d
 focus
  simp only[FH,IS]
 rotate_left
 focus
  simp only[IH];obtain⟨hn,f⟩:=WR hok;have C:=Z f;clear f;obtain⟨F,A⟩:∃F,Hid (F=SC d):=⟨_,Z rfl⟩;rw[<-A.l]
 rotate_left
 all_goals
  go_enter func115,ntmps115;go_wp2_with (go_at_call 113;refine(db a d c _ h R U).z ?_;rw[hok];rintro e u ⟨rfl,p⟩)
 ·go_ret
  exact⟨rfl,p⟩
 go_loopw [5,11] (λ_ i wr=>∃k:Nat,k<=d.length/\i=.int .i64 k/\Lib.IsBuilder 221 5 u.heap.size u.heap.size (Lib.byteCells (SC (d.take k)).data.toList) wr/\Below u.heap.size u wr) (λ_ i _=>d.length-(intOf i).toNat)
 case atStart =>
  exact⟨0,AM _,rfl,by rw[ES];exact Lib.fresh_isBuilder _ _ _,LO _ _⟩
 case round =>
  obtain⟨k,hk,rfl,t,m⟩:=hrel
  by_cases y:k<d.length
  ·obtain⟨b,o,f,l,z,rfl,bC,bE,bG,B⟩:=(h.I (p.j (m.z p.size))).at y
   have T:Hid ((f,l,z)∈d):=by show _∈_;rw[B.l];simp[List.getD,y]
   have i:=C.l _ T.l;have H:f.size<=255:=by simp[PJ,QD,PE]at i;omega
   have Q:l.size<=255:=by simp[PJ,QD,PE]at i;omega
   have L:=Z (lT _ i);have K:=Z (rn (d.take k) (λx j=>C.l x (DE j)));have M:=Z (Do d k _ _ y B.l)
   have D:(Lib.byteCells (SC (d.take k)).data.toList).length+(strOfNums (NV (f,l,z))).size<=140737488355328:=by
    rw[Lib.byteCells_length];have n:(SC (d.take k)).data.toList.length=(SC (d.take k)).size:=rfl;have j:=K.l;have q:=L.l;rw[AP]at j;omega
   have X:(k:Int)<(d.length:Int):=ω
   have x:=m.size;have J:=Z m;have n:=Z t;clear t m i
   cases z
   focus
    have N:=λj w=>Ij j (Mz f) (Mz l) w
    go_wp2_with (first|(go_at_call 166;refine(qw f l _).z ?_;rintro e V ⟨rfl,q⟩)|(go_at_call 269;refine(Gy f l _ H Q).z ?_;rw[Bf];rintro e W ⟨rfl,r⟩;have i:=bs (bs ((AB wr.heap.size wr).alloc (AA _) _) q) r;have E:=Z i;have v:=Z (pQ n.l i);have O:=i.size;clear q r i)|(go_at_call 149;refine(zy _ _ _ _ _ v.l D ω).z ?_;rintro e I ⟨rfl,s,G⟩))
   rotate_left
   focus
    have N:=λj w=>Db j (Mz f) w
    go_wp2_with (first|(go_at_call 166;refine(tg f l _).z ?_;rintro e V ⟨rfl,q⟩)|(go_at_call 260;refine(Jg f _ H).z ?_;rw[Ec f l];rintro e W ⟨rfl,r⟩;have i:=bs (bs ((AB wr.heap.size wr).alloc (AA _) _) q) r;have E:=Z i;have v:=Z (pQ n.l i);have O:=i.size;clear q r i)|(go_at_call 149;refine(zy _ _ _ _ _ v.l D ω).z ?_;rintro e I ⟨rfl,s,G⟩))
   rotate_left
   all_goals
    refine⟨⟨k+1,ω,ν,?_,J.l.j ((E.l.z x).j G)⟩,by simp[intOf];omega⟩;rw[M.l,<-Mg];exact .inr s
  have f:k=d.length:=ω
  subst f;have x:=m.size;have n:=Z t;clear t;rw[CW,<-A.l]at n;go_wp2_with (go_at_call 151;refine(Bu _ _ _ _ n.l x).z ?_;rintro e I ⟨rfl,s⟩);go_ret;refine⟨?_,p.j ((m.j s).z p.size)⟩;have e:(⟨F.data.toList.toArray⟩:Y)=F:=σ
  first|rw[<-e];rfl|(simp;rfl)
def MJ(d:List (List Ch))(n:Int):Int:=(d.map λb=>OR (LT b).size n).sum
theorem tn(l:Nat)(n:Int):0<=OR l n/\OR l n<=(l:Int)+1:=by
 unfold OR OG
 split
 ·split
  ·omega
  have h:=KT (l-1) (56-n).toNat
  obtain⟨q,d⟩:∃q,q=(l-1) / (56-n).toNat:=⟨_,rfl⟩;rw[<-d]at h⊢;omega
 omega
theorem ZY(b:List Ch):(LT b).size<=2460:=by
 unfold LT
 split
 ·rename_i h
  obtain⟨f,d⟩:=WR h;have:=rn b d;omega
 simp
theorem sf(n:Int):MJ [] n=0:=rfl
theorem gj(d:List (List Ch))(b:List Ch)(n:Int):MJ (d++[b]) n=MJ d n+OR (LT b).size n:=by simp[MJ]
theorem bp(d:List (List Ch))(n:Int):0<=MJ d n/\MJ d n<=2461*(d.length:Int):=by
 induction d with
 | nil=>exact⟨Int.le_refl _,by simp[MJ]⟩
 | cons b r i =>
  have e:MJ (b::r) n=OR (LT b).size n+MJ r n:=by simp[MJ]
  have f:=tn (LT b).size n;have h:=ZY b;rw[e,CY];omega
theorem ZM{α:Type}(l:List α)(k:Nat)(d:α)(h:k<l.length):l.take (k+1)=l.take k++[l.getD k d]:=by
 rw[AY h];simp[List.getD,h]
theorem pn(a:M6)(f:List Pr)(c:Nat)(n:Int)(w:Nb)(h:Prs w a f)(Q:f.length<=1048576)(F:∀x∈f,x.1.size<=1048576/\x.2.size<=1048576):Calls prog 79 #[.agg #[.slice a f.length c],.int .i64 n] w λe w'=>e=M3 (.int .i64 (MJ (MD f) n))/\Below w.heap.size w w':=by
 have d:Below w.heap.size w (w.alloc (.cells #[.slice a f.length c] 31)):=LO _ _;have hv:=qN a f c (w.alloc (.cells #[.slice a f.length c] 31)) (h.I d) Q F;have i:=Z hv;have l:=Z d;clear hv d;obtain⟨d,k⟩:∃d,d=MD f:=⟨_,rfl⟩;have K:=YX f
 have J:Hid (∀b∈d,b.length<=1048576/\∀x∈b,x.1.size<=1048576/\x.2.1.size<=1048576):=by
  intro b j;rw[k]at j;obtain⟨p,m⟩:=kt j;exact⟨ω,λx o=>F _ (m x o)⟩
 rw[<-k]at i K⊢;clear k;go_enter func79,ntmps79;go_wp2_with (go_at_call 133;refine i.l.z ?_;rintro e G ⟨v,rfl,j,k⟩);obtain⟨va,vc,rfl,m⟩:=j.bts;have H:=Z m;have z:=Z (l.l.j (k.z l.l.size));clear j k m i l;go_loopw [5,7] (λy i wr=>∃k:Nat,k<=d.length/\i=.int .i64 (k:Int)/\y=.int .i64 (MJ (d.take k) n)/\Below G.heap.size G wr) (λ_ i _=>d.length-(intOf i).toNat)
 case atStart=>exact⟨0,AM _,rfl,rfl,AB _ _⟩
 case round =>
  obtain⟨k,hk,rfl,rfl,l⟩:=hrel
  by_cases t:k<d.length
  ·obtain⟨g,p,L,rfl,X,O,s⟩:=(H.l.I l).at t
   have R:(k:Int)<(d.length:Int):=ω
   have U:(0:Int)<=(k:Int):=ω
   have m:=J.l (d.getD k []) (by simp[List.getD,t]);have i:=Z (gj (d.take k) (d.getD k []) n);rw[<-ZM d k [] t]at i;have M:=bp (d.take k) n;have T:(d.take k).length<=5:=by rw[AP];omega
   have u:=tn (LT (d.getD k [])).size n;have C:=ZY (d.getD k []);obtain⟨b,j⟩:∃b,b=d.getD k []:=⟨_,rfl⟩;rw[<-j]at O s m i u C;obtain⟨r,E⟩:∃r,r=MJ (d.take k) n:=⟨_,rfl⟩;rw[<-E]at i M⊢;have x:=Z (λW (N:Chs W p b)=>cw p b L W N m.1 m.2);have o:=Z (λW=>xB (LT b) n W ω);have I:=Z s;have y:=Z l;obtain⟨q,D⟩:∃q,q=OR (LT b).size n:=⟨_,rfl⟩;rw[<-D]at o u i;obtain⟨B,A⟩:∃B,B=LT b:=⟨_,rfl⟩;rw[<-A]at x o u C;have V:IntKind.i64.wrap (r+q)=r+q:=by simp[IntKind.wrap,IntKind.bits,IntKind.signed];omega
   clear j E D A m s l
   go_wp2_with (first|(go_at_call 135;refine(x.l _ I.l).z ?_;rintro e s ⟨rfl,j⟩)|(go_at_call 134;refine(o.l _).z ?_;rintro e A ⟨rfl,m⟩))
   refine⟨⟨k+1,ω,ν,?_,?_⟩,by simp[intOf];omega⟩
   ·rw[i.l]
   exact y.l.j ((j.j (m.z j.size)).z y.l.size)
  have i:k=d.length:=ω
  subst i;go_wp2;go_ret;exact⟨σ,z.l.j (l.z z.l.size)⟩
theorem Au(a:M6)(f:List Pr)(c:Nat)(n:Int)(w:Nb)(h:Prs w a f)(L:f.length<=c)(R:f.length<=1048576)(F:∀x∈f,x.1.size<=1048576/\x.2.size<=1048576):Calls prog 153 #[.agg #[.slice a f.length c],.int .i64 n] w λe w'=>e=M3 (.int .i64 (MJ (MD f) n))/\Below w.heap.size w w':=by
 have d:Below w.heap.size w (w.alloc (.cells #[.slice a f.length c] 31)):=LO _ _;have hv:=qC a f c (w.alloc (.cells #[.slice a f.length c] 31)) (h.I d) L R F;have i:=Z hv;have l:=Z d;clear hv d;obtain⟨d,k⟩:∃d,d=MD f:=⟨_,rfl⟩;have K:=YX f
 have J:Hid (∀b∈d,b.length<=1048576/\∀x∈b,x.1.size<=1048576/\x.2.1.size<=1048576):=by
  intro b j;rw[k]at j;obtain⟨p,m⟩:=kt j;exact⟨ω,λx o=>F _ (m x o)⟩
 rw[<-k]at i K⊢;clear k;go_enter func153,ntmps153;go_wp2_with (go_at_call 157;refine i.l.z ?_;rintro e G ⟨v,rfl,j,k⟩;obtain⟨va,vc,rfl,m⟩:=j.bts);have H:=Z m;have z:=Z (l.l.j (k.z l.l.size));clear j k m i l;go_loopw [5,11] (λy i wr=>∃k:Nat,k<=d.length/\i=.int .i64 (k:Int)/\y=.int .i64 (MJ (d.take k) n)/\Below G.heap.size G wr) (λ_ i _=>d.length-(intOf i).toNat)
 case atStart=>exact⟨0,AM _,rfl,rfl,AB _ _⟩
 case round =>
  obtain⟨k,hk,rfl,rfl,l⟩:=hrel
  by_cases t:k<d.length
  ·obtain⟨g,p,M,rfl,X,Q,s⟩:=(H.l.I l).at t
   have T:(k:Int)<(d.length:Int):=ω
   have V:(0:Int)<=(k:Int):=ω
   have m:=J.l (d.getD k []) (by simp[List.getD,t]);have i:=Z (gj (d.take k) (d.getD k []) n);rw[<-ZM d k [] t]at i;have N:=bp (d.take k) n;have U:(d.take k).length<=5:=by rw[AP];omega
   have u:=tn (LT (d.getD k [])).size n;have C:=ZY (d.getD k []);obtain⟨b,j⟩:∃b,b=d.getD k []:=⟨_,rfl⟩;rw[<-j]at Q s m i u C;obtain⟨r,E⟩:∃r,r=MJ (d.take k) n:=⟨_,rfl⟩;rw[<-E]at i N⊢;have x:=Z (λW (O:Chs W p b)=>uz p b M W O m.1 m.2);have o:=Z (λW=>uo (LT b) n W ω);have I:=Z s;have y:=Z l;obtain⟨q,D⟩:∃q,q=OR (LT b).size n:=⟨_,rfl⟩;rw[<-D]at o u i;obtain⟨B,A⟩:∃B,B=LT b:=⟨_,rfl⟩;rw[<-A]at x o u C;have W:IntKind.i64.wrap (r+q)=r+q:=by simp[IntKind.wrap,IntKind.bits,IntKind.signed];omega
   clear j E D A m s l
   go_wp2_with (first|(go_at_call 115;refine(x.l _ I.l).z ?_;rintro e s ⟨rfl,j⟩)|(go_at_call 116;refine(o.l _).z ?_;rintro e A ⟨rfl,m⟩))
   refine⟨⟨k+1,ω,ν,?_,?_⟩,by simp[intOf];omega⟩
   ·rw[i.l]
   exact y.l.j ((j.j (m.z j.size)).z y.l.size)
  have i:k=d.length:=ω
  subst i;go_wp2;go_ret;exact⟨σ,z.l.j (l.z z.l.size)⟩
def SW(T H F R:Int):Bool:=decide (0<=T/\T<=1000000000) && decide (0<=R/\R<=60000) && decide (0<=H/\H<=1) && decide (1<=F/\F<=999999000)
def OB(W S L T H F R U O:Int)(d:List Pr):Bool:=decide (1<=W/\W<=8) && decide (8<=S/\S<=200) && decide (1<=L/\L<=60000) && SW T H F R && decide (0<=U/\U<=hv S) && decide (0<=O/\O<=U) && MU d && decide (MJ (MD d) W<=hv S-1)
theorem cr(n f d:Int)(b:Bool)(h:decide (f<=n/\n<=d)=b)(w:Nb):Calls prog 40 #[.int .i64 n,.int .i64 f,.int .i64 d] w λe w'=>e=M3 (M0 b)/\w'=w:=by
 subst h
 by_cases i:f<=n<;>by_cases j:n<=d<;>(go_enter func40,ntmps40;go_wp2;go_ret;simp[i,j])
theorem QM(h:8<=S/\S<=200):3<=hv S/\hv S<=99:=by unfold hv;rw[AE h];omega
theorem YJ(h:¬(8<=S/\S<=200)):hv S=0:=by unfold hv;rw[AG h]
theorem qM(W S L T H F R U O:Int)(d:List Pr)(h:¬(1<=W/\W<=8)\/¬(8<=S/\S<=200)\/¬(1<=L/\L<=60000)\/SW T H F R=false\/¬(0<=U/\U<=hv S)\/¬(0<=O/\O<=U)\/MU d=false\/¬(MJ (MD d) W<=hv S-1)):OB W S L T H F R U O d=false:=by
 unfold OB;rcases h with h|h|h|h|h|h|h|h<;>simp[h]
theorem fe(T H F R:Int)(h:¬(0<=T/\T<=1000000000)\/¬(0<=R/\R<=60000)\/¬(0<=H/\H<=1)\/¬(1<=F/\F<=999999000)):SW T H F R=false:=by
 unfold SW;rcases h with h|h|h|h<;>simp[h]
theorem km(W S L T H F R U O:Int)(a:M6)(f:List Pr)(c:Nat)(w:Nb)(h:Prs w a f)(M:f.length<=1048576)(N:∀x∈f,x.1.size<=1048576/\x.2.size<=1048576):Calls prog 41 #[NK W S L T H F R U O a f.length c] w λe w'=>e=M3 (M0 (OB W S L T H F R U O f))/\Below w.heap.size w w':=by
 unfold NK
 have V:∀o,Below w.heap.size w (w.alloc o):=λo=>LO _ _
 have q:∀o p,Below w.heap.size w ((w.alloc o).alloc p):=λo p=>(LO _ _).alloc σ _
 have B:=Z (λo p=>nk a f c ((w.alloc o).alloc p) (h.I (q o p)) M N);have A:=Z (λl (h2:Below w.heap.size w l)=>pn a f c W l (h.I h2) M N);obtain⟨E,r⟩:∃E,Hid (E=OB W S L T H F R U O f):=⟨_,Z rfl⟩;rw[<-r.l];obtain⟨Q,d⟩:∃Q,Q=hv S:=⟨_,rfl⟩;have j:=Z d;have k:=qM W S L T H F R U O f;rw[<-r.l,<-d]at k;have i:=Z k;clear k d
 by_cases s:1<=W/\W<=8
 rotate_left
 focus
  have o:decide (1<=W/\W<=8)=false:=AI s;have d:E=false:=i.l (.inl (s))
 rotate_left
 focus
  have o:decide (1<=W/\W<=8)=true:=AL s
  by_cases n:8<=S/\S<=200
  rotate_left
  focus
   have d2:decide (8<=S/\S<=200)=false:=AI n;have J:Q=0:=by rw[j.l];exact YJ n
   subst J;have d:E=false:=i.l (.inr (.inl (n)))
  rotate_left
  focus
   have d2:decide (8<=S/\S<=200)=true:=AL n;have aL:3<=Q/\Q<=99:=by rw[j.l];exact QM n
   have J:¬Q=0:=ω
   by_cases t:1<=L/\L<=60000
   rotate_left
   focus
    have d3:decide (1<=L/\L<=60000)=false:=AI t;have d:E=false:=i.l (.inr (.inr (.inl (t))))
   rotate_left
   focus
    have d3:decide (1<=L/\L<=60000)=true:=AL t
    by_cases u:0<=T/\T<=1000000000
    rotate_left
    focus
     have d4:decide (0<=T/\T<=1000000000)=false:=AI u;have d:E=false:=i.l (.inr (.inr (.inr (.inl (fe T H F R (.inl (u)))))))
    rotate_left
    focus
     have d4:decide (0<=T/\T<=1000000000)=true:=AL u
     by_cases v:0<=H/\H<=1
     rotate_left
     focus
      have d5:decide (0<=H/\H<=1)=false:=AI v;have d:E=false:=i.l (.inr (.inr (.inr (.inl (fe T H F R (.inr (.inr (.inl (v)))))))))
     rotate_left
     focus
      have d5:decide (0<=H/\H<=1)=true:=AL v
      by_cases x:1<=F/\F<=999999000
      rotate_left
      focus
       have d6:decide (1<=F/\F<=999999000)=false:=AI x;have d:E=false:=i.l (.inr (.inr (.inr (.inl (fe T H F R (.inr (.inr (.inr (x)))))))))
      rotate_left
      focus
       have d6:decide (1<=F/\F<=999999000)=true:=AL x
       by_cases y:0<=R/\R<=60000
       rotate_left
       focus
        have d7:decide (0<=R/\R<=60000)=false:=AI y;have d:E=false:=i.l (.inr (.inr (.inr (.inl (fe T H F R (.inr (.inl (y))))))))
       rotate_left
       focus
        have d7:decide (0<=R/\R<=60000)=true:=AL y
        by_cases p:0<=U/\U<=Q
        rotate_left
        focus
         have d8:decide (0<=U/\U<=Q)=false:=AI p;have d:E=false:=i.l (.inr (.inr (.inr (.inr (.inl (p))))))
        rotate_left
        focus
         have d8:decide (0<=U/\U<=Q)=true:=AL p
         by_cases z:0<=O/\O<=U
         rotate_left
         focus
          have d9:decide (0<=O/\O<=U)=false:=AI z;have d:E=false:=i.l (.inr (.inr (.inr (.inr (.inr (.inl (z)))))))
         rotate_left
         focus
          have d9:decide (0<=O/\O<=U)=true:=AL z
          cases dS:MU f with
          | false =>
           have d:E=false:=i.l (.inr (.inr (.inr (.inr (.inr (.inr (.inl (dS))))))));subst d;go_enter func41,ntmps41
           go_wp2_with (first|(go_at_call 78;refine(WY _ _).z ?_;rw[<-j.l];refine OJ ?_)|(go_at_call 21;refine(RO _ _).z ?_;rw[o];refine OJ ?_)|(go_at_call 40;refine(cr _ _ _ _ (by assumption) _).z ?_;refine OJ ?_)|(go_at_call 43;refine(B.l _ _).z ?_;rw[dS];rintro e l ⟨rfl,k⟩))
           go_ret;exact⟨rfl,(q _ _).j (k.z ξ)⟩
          | true =>
           have hR:=bp (MD f) W;have aK:=YX f;obtain⟨G,I⟩:∃G,Hid (G=MJ (MD f) W):=⟨_,Z rfl⟩;rw[<-I.l]at hR A i
           have d:E=decide (G<=Q-1):=by
            rw[r.l,I.l,j.l];rw[j.l]at p;unfold OB SW;simp[s,n,t,u,v,x,y,p,z,dS]
           have aM:IntKind.i64.wrap (Q-1)=Q-1:=by simp[IntKind.wrap,IntKind.bits,IntKind.signed];omega
           clear i r
           by_cases K:G<=Q-1
           ·have D:decide (G<=Q-1)=true:=AL K
            rw[D]at d;subst d;go_enter func41,ntmps41
            go_wp2_with (first|(go_at_call 78;refine(WY _ _).z ?_;rw[<-j.l];refine OJ ?_)|(go_at_call 21;refine(RO _ _).z ?_;rw[o];refine OJ ?_)|(go_at_call 40;refine(cr _ _ _ _ (by assumption) _).z ?_;refine OJ ?_)|(go_at_call 43;refine(B.l _ _).z ?_;rw[dS];rintro e l ⟨rfl,k⟩;have X:l.cell? ⟨w.heap.size,0,none⟩=some (.int .i64 W):=OK k γ;have aJ:l.cell? ⟨w.heap.size,9,none⟩=some (.slice a f.length c):=OK k γ;have m:=Z ((q _ _).j (k.z ξ)))|(go_at_call 79;refine(A.l _ m.l).z ?_;rintro e w3 ⟨rfl,C⟩))
            go_ret;exact⟨rfl,m.l.j (C.z m.l.size)⟩
           have D:decide (G<=Q-1)=false:=AI K
           rw[D]at d;subst d;go_enter func41,ntmps41
           go_wp2_with (first|(go_at_call 78;refine(WY _ _).z ?_;rw[<-j.l];refine OJ ?_)|(go_at_call 21;refine(RO _ _).z ?_;rw[o];refine OJ ?_)|(go_at_call 40;refine(cr _ _ _ _ (by assumption) _).z ?_;refine OJ ?_)|(go_at_call 43;refine(B.l _ _).z ?_;rw[dS];rintro e l ⟨rfl,k⟩;have X:l.cell? ⟨w.heap.size,0,none⟩=some (.int .i64 W):=OK k γ;have aJ:l.cell? ⟨w.heap.size,9,none⟩=some (.slice a f.length c):=OK k γ;have m:=Z ((q _ _).j (k.z ξ)))|(go_at_call 79;refine(A.l _ m.l).z ?_;rintro e w3 ⟨rfl,C⟩))
           go_ret;exact⟨rfl,m.l.j (C.z m.l.size)⟩
    all_goals
     subst d;go_enter func41,ntmps41
     go_wp2_with (first|(go_at_call 78;refine(WY _ _).z ?_;rw[<-j.l];refine OJ ?_)|(go_at_call 21;refine(RO _ _).z ?_;rw[o];refine OJ ?_)|(go_at_call 40;refine(cr _ _ _ _ (by assumption) _).z ?_;refine OJ ?_))
     go_ret;exact⟨rfl,q _ _⟩
 all_goals
  subst d;go_enter func41,ntmps41
  go_wp2_with (first|(go_at_call 78;refine(WY _ _).z ?_;rw[<-j.l];refine OJ ?_)|(go_at_call 21;refine(RO _ _).z ?_;rw[o];refine OJ ?_)|(go_at_call 40;refine(cr _ _ _ _ (by assumption) _).z ?_;refine OJ ?_))
  go_ret;exact⟨rfl,V _⟩
theorem ec:(prog.info? 103).map (λi=>(i.zero,i.size,i.bytes))=some (some (.agg #[Mz empty,Mz empty]),2,32):=κ
theorem WT{e:TypeId}{z:Nc}{d f:Nat}(h:(P.info? e).map (λi=>(i.zero,i.size,i.bytes))=some (some z,d,f)):∃i,P.info? e=some i/\i.zero=some z/\i.size=d/\i.bytes=f:=by
 obtain⟨i,k,j⟩:=EZ.1 h;simp only[BV]at j;exact⟨i,k,j⟩
theorem mQ(n:Nat)(h:0<n):Builtin.nextslicecap n 0=n:=by
 unfold Builtin.nextslicecap;simp;omega
theorem Kd(t p e:TypeId)(i:TypeInfo)(z:Nc)(h r:Nat)(o:P.underlying t=some (.slice e))(m:P.info? e=some i)(F:i.zero=some z)(A:i.size=h)(D:i.bytes=r)
  (d:M6)(s:d=none\/∃b,d=Mw b 0)(v:Nc)(n:Nat)(f:List Nc)(k:Src P h t v n f w)(G:n<=1048576)(C:n*r<=281474976710656):∃q j l,(Builtin.append_ #[t,t] p #[.slice d 0 0,v]).run P w=.ok (.slice q n j) l/\n<=j/\(n=0\/(q=Mw w.heap.size 0/\Row l w.heap.size f))/\Below w.heap.size w l:=by
 subst A D
 by_cases E:n=0
 ·subst E
  have q:f=[]:=AC (by have:=k.newsLen;omega);subst q;rcases s with rfl|⟨b,rfl⟩
  ·refine⟨none,0,w,?_,AA _,.inl rfl,AB _ _⟩
   rcases k.kind with ⟨l,j⟩|j<;>simp[Builtin.append_,GG o,GG j,sizeOf,typeInfo,m,k.len,k.cells]
  have l:=run_append_room_src (P:=P) w t t p e i o m b 0 0 0 v 0 [] k ω σ σ
  exact⟨_,_,_,l,AA _,.inl rfl,AB _ _⟩
 have B:(Builtin.firstCells i.size 0 (.slice d 0 0)).run P w.drew=.ok ([]:List Nc).toArray w.drew:=by
  rcases s with rfl|⟨b,rfl⟩
  ·simp[Builtin.firstCells,JK]
  exact GI w.drew i.size 0 _ 0 0 [] σ σ
 have l:=run_append_grow_src (P:=P) w t t p e i z o m F d 0 0 [] B v n f k ω ω (by rw[BG,mQ n ω];exact C);refine⟨_,_,_,by rw[l,BG],?_,.inr ⟨rfl,?_⟩,(AB _ _).drew.alloc (AA _) _⟩
 ·have:=JG w (0+n) 0 e
  rw[BG]at this;exact this
 have x:=MT w.drew ((([]:List Nc)++f).toArray++Builtin.zeroCells z.cells (grownCap w (0+n) 0 e-(0+n))) e;refine⟨σ,λj u y=>?_,λj q=>?_⟩
 ·have:=x.cell j u (by
   obtain⟨q,_⟩:=DJ.1 y
   simp[BC q,y])
  simpa using this
 have:=x.froz j τ
 simpa using this
theorem xc{r:Array Oper}{q:List Oper}{o:Oper}{a:Act}{Q:Exit->Act->Nb->Prop}(E:o.guard=none)(s x:Operand)(t:TypeId)
  (M:o.op=.call { callee:=.builtin .append,args:=#[s,x],argTypes:=#[t,t] })(e:TypeId)(i:TypeInfo)(z:Nc)(j p:Nat)(O:P.underlying t=some (.slice e))(J:P.info? e=some i)(T:i.zero=some z)(y:i.size=j)(D:i.bytes=p)
  (d:M6)(N:a.eval s=.slice d 0 0)(u:d=none\/∃b,d=Mw b 0)(v:Nc)(R:a.eval x=v)(n:Nat)(f:List Nc)(B:Src P j t v n f w)(L:n<=1048576)(C:n*p<=281474976710656)
  (h:∀m k l,n<=k->(n=0\/(m=Mw w.heap.size 0/\Row l w.heap.size f))->Below w.heap.size w l->wpList P r Q q (a.put o.dst (.slice m n k)) l):wpList P r Q (o::q) a w:=by
 refine IW E λK I=>?_
 obtain⟨m,k,l,A,F,G,H⟩:=Kd (P:=P) (w:=w) t o.type e i z j p O J T y D d u v n f B L C;unfold Oper.wp;simp[execOp,M,resolve,invoke,builtin,N,R,A,Result.andThen];exact I _ _ (h m k l F G H)
theorem sZ{d:List (Y×Y)}(h:Prs w a d)(t e:TypeId)(k:P.underlying t=some (.slice e))(c:Nat):Src P 2 t (.slice a d.length c) d.length (MC d) w:=by
 rcases h with h|⟨b,o,rfl,s,m⟩
 ·subst h
  cases a with
  | none=>exact Src.ofNil w k c
  | some x=>exact Src.ofSlice w k x 0 c [] σ σ σ
 refine Src.ofSlice w k ⟨b,o,none⟩ d.length c _ (XG d) (λj u f=>?_) (λu f=>?_)
 ·obtain⟨p,e⟩:=DJ.1 f
  rw[XG]at p;have l:(⟨b,o,none⟩:Addr).add j=⟨b,o+j,none⟩:=by unfold Addr.add;split<;>simp_all
  obtain⟨q,r⟩:∃q,j=q*2\/j=q*2+1:=⟨j / 2,ω⟩;have i:q<d.length:=ω
  have n:=it d q i;rcases r with rfl|rfl
  ·rw[l,(m q i).1,<-f,n.1]
  rw[l,<-KQ,(m q i).2,<-f,n.2]
 unfold MC at f
 obtain⟨x,_,i⟩:=IU.1 f;simp at i;rcases i with rfl|rfl<;>rfl
def fx(w w':Nb)(e:Ending)(d:List (Y×Y)):Prop:=∃a c,e=M3 (MH a d.length c)/\d.length<=c/\OwnS w' a (MC d)/\(∀g,blk a d.length=some g->w.heap.size<=g)/\Below w.heap.size w w'
theorem pP{k:Nb}{i:M6}{f:List (Y×Y)}{H:Nat}(h:f.length=0\/(i=Mw H 0/\Row k H (MC f)))(l:w.heap.size<=H):OwnS k i (MC f)/\(∀g,blk i f.length=some g->w.heap.size<=g/\g=H):=by
 rcases h with h|⟨rfl,m⟩
 ·have:f=[]:=AC h
  subst this
  exact⟨.inl rfl,λg d=>by cases d⟩
 refine⟨.inr ⟨H,rfl,m⟩,λg d=>?_⟩
 by_cases j:f.length=0
 ·rw[j]at d;cases d
 rw[NT _ _ _ j]at d;cases d;exact⟨l,rfl⟩
theorem gm(a:M6)(d:List (Y×Y))(c:Nat)(w:Nb)(h:Prs w a d)(s:d.length<=1048576):Calls prog 73 #[MH a d.length c] w λe w'=>fx w w' e d:=by
 obtain⟨t,f,i,k,l⟩:=WT ec;have j:=Z (AH f (AH i (AH k l)));clear f i k l
 have o:∀f i k,Below w.heap.size w (((w.alloc f).alloc i).alloc k):=λf i k=>((LO _ _).alloc σ _).alloc τ _
 go_enter func73,ntmps73;go_wp2_with (at_builtin;refine xc rfl _ _ 29 rfl 103 t _ 2 32 underlying29 j.l.1 j.l.2.1 j.l.2.2.1 j.l.2.2.2 _ rfl (.inr ⟨_,rfl⟩) _ rfl d.length _ (sZ (h.I (o _ _ _)) _ _ underlying29 c) s ω ?_;intro m i l p n f;have r:l.cell? ⟨w.heap.size+1,0,none⟩=some (.slice none 0 0):=OK f γ;have v:l.frozen? ⟨w.heap.size+1,0,none⟩=false:=TF f γ;have q:=Z ((o _ _ _).j (f.z ξ));have k:=Z (pP (w:=w) n τ);have u:w.heap.size+1<l.heap.size:=AD σ f.size;clear n f);refine AJ (v:=MH m d.length i) (by simp[results,results73,go_sem,r]) rfl ⟨m,i,rfl,p,?_,λg f=>(k.l.2 g f).1,q.l.setCell (by show w.heap.size<=w.heap.size+1;omega) _⟩;rcases k.l.1 with f|⟨g,rfl,f⟩
 ·exact .inl f
 by_cases n:d.length=0
 ·exact .inl (by rw[AC n];rfl)
 have:=(k.l.2 g (NT _ _ _ n)).2
 exact .inr ⟨g,rfl,f.other _ (by show w.heap.size+1≠g;rw[this];simp<;>omega) _⟩
structure Dd where
 (C W S L T H F R U O:Int)
 rs:List Pr
 ops:List OpT
def NZ(d:Dd)(a:M6)(c:Nat)(b:M6)(e:Nat):Nc:=.agg #[.int .i64 d.C,.int .i64 d.W,.int .i64 d.S,.int .i64 d.L,.int .i64 d.T,.int .i64 d.H,.int .i64 d.F,.int .i64 d.R,.int .i64 d.U,.int .i64 d.O,.slice a d.rs.length c,.slice b d.ops.length e]
def ZP(a:M6)(n:Nat)(b:M6)(m:Nat):Prop:=blk a n=none\/blk b m=none\/blk a n≠blk b m
structure OwnDn(w:Nb)(rs:List Pr)(ops:List OpT)(a b:M6):Prop where
 s:OwnS w a (MC rs)
 p:OwnS w b (OO ops)
 ne:ZP a rs.length b ops.length
theorem OwnDn.I{i:List Pr}{d:List OpT}(h:OwnDn w i d a b)(f:Below w.heap.size w w'):OwnDn w' i d a b:=⟨h.s.I f,h.p.I f,h.ne⟩
theorem OwnS.prs{d:List Pr}(h:OwnS w a (MC d)):Prs w a d:=by
 rcases h with h|⟨g,rfl,h⟩
 ·exact .inl (by have:=CX List.length h;rw[XG,AR]at this;exact AC ω)
 exact h.prs
theorem OwnS.ops{d:List OpT}(h:OwnS w a (OO d)):Ops w a d:=by
 rcases h with h|⟨g,rfl,h⟩
 ·exact .inl (by have:=CX List.length h;rw[mC,AR]at this;exact AC ω)
 exact h.ops
theorem an{d:List Pr}(h:d.length≠0):MC d≠[]:=λe=>h (by have:=CX List.length e;rw[XG,AR]at this;omega)
theorem sL{d:List OpT}(h:d.length≠0):OO d≠[]:=λe=>h (by have:=CX List.length e;rw[mC,AR]at this;omega)
theorem SM{d:List Pr}(h:MC d≠[]):d.length≠0:=λe=>h (by rw[AC e];rfl)
theorem jk{d:List OpT}(h:OO d≠[]):d.length≠0:=λe=>h (by rw[AC e];rfl)
def UH(w w':Nb)(x:Ending)(d:Dd):Prop:=∃a c b e,x=M3 (NZ d a c b e)/\d.rs.length<=c/\OwnDn w' d.rs d.ops a b/\(∀g,blk a d.rs.length=some g->w.heap.size<=g)/\(∀g,blk b d.ops.length=some g->w.heap.size<=g)/\Below w.heap.size w w'
def LX(C:Int):Dd:=⟨C,0,0,0,0,0,0,0,0,0,[],[]⟩
theorem OwnS.set'(h:OwnS w a cs)(p:Addr)(f:∀g,a=Mw g 0->cs≠[]->p.block≠g)(v:Nc):OwnS (w.setCell p v) a cs:=by
 by_cases d:cs=[]
 ·exact .inl d
 obtain⟨g,rfl,i⟩:=h.resolve_left d
 exact .inr ⟨g,rfl,i.other p (f g rfl d) v⟩
theorem OwnS.alloc'(h:OwnS w a cs)(o:Obj):OwnS (w.alloc o) a cs:=h.I (LO _ _)
theorem dt{A:Array Nc}{t:TypeId}(d:w.heap.size=g):Row (w.alloc (.cells A t)) g A.toList:=by subst d;exact MT w A t
theorem Gj{x:Ending}{C:Int}(f:x=M3 (NZ (LX C) a c b e))(d:Below w.heap.size w w'):UH w w' x (LX C) :=⟨a,c,b,e,f,AM _,⟨.inl rfl,.inl rfl,.inl rfl⟩,λg h=>(by cases h),λg h=>(by cases h),d⟩
theorem OwnS.drew'(h:OwnS w a cs):OwnS w.drew a cs:=h.I (AB _ _).drew
def MP(d:Int)(l:List Y):List OpT:=l.mapIdx λi p=>(false,d+(i:Int),p)
theorem vU(d:Int):MP d []=[]:=rfl
theorem og(d:Int)(l:List Y)(p:Y):MP d (l++[p])=MP d l++[(false,d+(l.length:Int),p)]:=by simp[MP,List.mapIdx_append]
theorem QW(d:Int)(l:List Y):(MP d l).length=l.length:=by simp[MP]
def yr(L F:Int)(n m:Nat)(d:List Y)(b:List Ch):List Y:=d++PG (LT b) L (F+(d.length:Int)) n m
def NM(L F:Int)(n m:Nat)(d:List (List Ch)):List Y:=d.foldl (yr L F n m) [MM 3 L F empty (n:Int)]
theorem ZX(L F:Int)(n m:Nat):NM L F n m []=[MM 3 L F empty (n:Int)]:=rfl
theorem ex(L F:Int)(n m:Nat)(d:List (List Ch))(b:List Ch):NM L F n m (d++[b])=NM L F n m d++PG (LT b) L (F+((NM L F n m d).length:Int)) n m:=by
 unfold NM;rw[IN];rfl
theorem wC(s:Y)(l f:Int)(n m:Nat)(i:n+m=56)(d:1<=n)(h:n<=8):((PG s l f n m).length:Int)<=OR s.size (n:Int):=by
 have e:(56-(n:Int)).toNat=m:=ω
 unfold OR;rw[AE ω,e];unfold PG
 split
 ·rw[WW];omega
 simp
theorem da(L F:Int)(n m:Nat)(o:n+m=56)(i:1<=n)(j:n<=8)(d:List (List Ch)):((NM L F n m d).length:Int)<=1+MJ d (n:Int):=by
 obtain⟨k,f⟩:∃k,k=d.length:=⟨_,rfl⟩
 induction k generalizing d with
 | zero=>rw[AC f.symm,ZX,sf];simp
 | succ k p =>
  obtain⟨b,bs,rfl⟩:∃b bs,d=bs++[b]:=by
   rcases ET d with h|⟨l,a,h⟩
   ·subst h;simp at f
   exact⟨a,l,by simpa using h⟩
  have:=p bs (by simp at f;omega);rw[ex,gj,AF];have:=wC (LT b) L (F+((NM L F n m bs).length:Int)) n m o i j;omega
theorem pT(d:List (List Ch))(k:Nat)(n:Int):MJ (d.take k) n<=MJ d n:=by
 have e:MJ d n=MJ (d.take k) n+MJ (d.drop k) n:=by
  unfold MJ;rw[<-List.sum_append,<-DK,FN]
 have:=(bp (d.drop k) n).1;omega
def XI(W S L T H F:Int)(d:List Pr):Prop:=(1<=W/\W<=8)/\(8<=S/\S<=200)/\(1<=L/\L<=60000)/\(0<=T/\T<=1000000000)/\(0<=H/\H<=1)/\(1<=F/\F<=999999000)/\MJ (MD d) W<=hv S-1
def WG(S T F:Int):Bool:=decide (T+1<=1000000000/\F+hv S<=999999000)
def XD(W S L T H F:Int)(d:List Pr):Dd:=⟨0,W,S,L,T+1,1-H,F+hv S,L,((NM L (F+hv S) W.toNat (56-W.toNat) (MD d)).length:Int),0,d,MP (2+(1-H)*hv S) (NM L (F+hv S) W.toNat (56-W.toNat) (MD d))++[(true,0,empty),(false,(T+1) % 2,MZ (T+1) (1-H) (F+hv S) L W),(true,0,empty)]⟩
def PM(W S L T H F:Int)(d:List Pr):Dd:=if WG S T F=true then XD W S L T H F d else LX 4
def QX(W S L T H F R U O:Int)(d:List Pr):Dd:=if OB W S L T H F R U O d=true then PM W S L T H F d else LX 1
theorem mq{W L T H F R U O:Int}{d:List Pr}(h:OB W S L T H F R U O d=true):XI W S L T H F d:=by
 unfold OB SW at h;simp only[AX,AT]at h;obtain⟨⟨⟨⟨⟨⟨⟨f,i⟩,j⟩,⟨⟨k,_⟩,l⟩,m⟩,_⟩,_⟩,_⟩,n⟩:=h;exact⟨f,i,j,k,l,m,n⟩
theorem Ko(W S L T H F R U O:Int)(d:List Pr)(i:d.length<=1048576):(QX W S L T H F R U O d).rs.length<=1048576/\(QX W S L T H F R U O d).ops.length<=1000:=by
 unfold QX PM
 cases h:OB W S L T H F R U O d with
 | false=>simp[LX]
 | true =>
  cases h2:WG S T F with
  | false=>simp[LX]
  | true =>
   obtain⟨⟨l,k⟩,f,m,n,o,p,q⟩:=mq h;have r:=QM f;have j:=da L (F+hv S) W.toNat (56-W.toNat) ω ω ω (MD d);rw[show((W.toNat:Nat):Int)=W by omega]at j;simp only[IH,XD,AF,QW];refine⟨i,?_⟩;simp;omega
theorem vm:(prog.info? 130).map (λi=>(i.zero,i.size,i.bytes))=some (some (.agg #[M0 false,.int .i64 0,Mz empty]),3,32):=κ
structure Wrt(w:Nb)(base g:Nat)(v:Nc)(os:List OpT)(at_ nm lf wd:Int):Prop where
 row:Row w g [v,.int .i64 at_,.int .i64 nm,.int .i64 lf,.int .i64 wd]
 own:w.ownsRow base 130 3 v os.length (OO os)
 ge:base<=g
 ne:v.ownBlock≠some g
theorem Wrt.I{d:Nat}{v:Nc}{l:List OpT}{f k j m:Int}(h:Wrt w d g v l f k j m)(i:Below w.heap.size w w'):Wrt w' d g v l f k j m:=⟨h.row.I i,NC h.own i,h.ge,h.ne⟩
theorem YH(b:Bool)(n:Int)(s:Y):∀u∈[M0 b,.int .i64 n,Mz s],u.oneCell'=true:=by
 intro u d;simp only[DY,EJ,GV]at d;rcases d with rfl|rfl|rfl<;>rfl
theorem wQ(n h:Int)(m:0<=h)(o:h<=1)(w:Nb):Calls prog 97 #[.int .i64 n,.int .i64 h] w λe w'=>e=M3 (.int .i64 (2+h*hv n))/\w'=w:=by
 have i:0<=hv n/\hv n<=99:=by by_cases h:8<=n/\n<=200;have:=QM h;omega;rw[YJ h];omega
 obtain⟨Q,f⟩:∃Q,Hid (Q=hv n):=⟨_,Z rfl⟩;rw[<-f.l]at i⊢;obtain⟨q,d⟩:∃q,q=h*Q:=⟨_,rfl⟩
 have j:0<=q/\q<=99:=by
  rcases(show h=0\/h=1 by omega) with e|e
  ·subst e;omega
  subst e;omega
 have k:IntKind.i64.wrap (h*Q)=q:=by rw[<-d];simp[IntKind.wrap,IntKind.bits,IntKind.signed];omega
 have l:IntKind.i64.wrap (2+q)=2+q:=by simp[IntKind.wrap,IntKind.bits,IntKind.signed];omega
 rw[<-d];clear d;go_enter func97,ntmps97;go_wp2_with (go_at_call 98;refine(dz _ _).z ?_;rw[<-f.l];refine OJ ?_);go_ret;exact⟨rfl,rfl⟩
theorem nc(W S L T H F R U O:Int)(a:M6)(n c:Nat)(w:Nb)(m:0<=H)(o:H<=1)(t:1<=F)(u:F<=999999000)(u0:0<=U)(u1:U<=99):Calls prog 117 #[NK W S L T H F R U O a n c] w λe w'=>∃g,e=M3 (Mv g 0)/\Wrt w' w.heap.size g (.slice none 0 0) [] (2+H*hv S+U) (F+U) L W/\Below w.heap.size w w':=by
 have v:0<=hv S/\hv S<=99:=by by_cases h:8<=S/\S<=200;have:=QM h;omega;rw[YJ h];omega
 obtain⟨q,d⟩:∃q,q=H*hv S:=⟨_,rfl⟩
 have p:0<=q/\q<=99:=by
  rcases(show H=0\/H=1 by omega) with e|e
  ·subst e;omega
  subst e;omega
 have k:=Z (λw'=>wQ S H m o w');rw[<-d]at k⊢;clear d;have r:IntKind.i64.wrap (2+q+U)=2+q+U:=by simp[IntKind.wrap,IntKind.bits,IntKind.signed];omega
 have s:IntKind.i64.wrap (F+U)=F+U:=by simp[IntKind.wrap,IntKind.bits,IntKind.signed];omega
 unfold NK;obtain⟨d,j⟩:∃d,d=w.alloc (.cells (sK W S L T H F R U O (.slice a n c)) 33):=⟨_,rfl⟩
 have l:Hid (∀w',Below d.heap.size d w'->w'.cell? ⟨w.heap.size,0,none⟩=some (.int .i64 W)/\w'.cell? ⟨w.heap.size,1,none⟩=some (.int .i64 S)/\w'.cell? ⟨w.heap.size,2,none⟩=some (.int .i64 L)/\w'.cell? ⟨w.heap.size,4,none⟩=some (.int .i64 H)/\w'.cell? ⟨w.heap.size,5,none⟩=some (.int .i64 F)/\w'.cell? ⟨w.heap.size,7,none⟩=some (.int .i64 U)):=λw' i=>by
  have f:w.heap.size<d.heap.size:=by rw[j];simp
  refine⟨(i.cell (p:=⟨w.heap.size,0,none⟩) f).j ?_,(i.cell (p:=⟨w.heap.size,1,none⟩) f).j ?_,(i.cell (p:=⟨w.heap.size,2,none⟩) f).j ?_,(i.cell (p:=⟨w.heap.size,4,none⟩) f).j ?_,(i.cell (p:=⟨w.heap.size,5,none⟩) f).j ?_,(i.cell (p:=⟨w.heap.size,7,none⟩) f).j ?_⟩<;>(rw[j];go_simp)
 have f:Hid (Below w.heap.size w d):=by show Below _ _ _;rw[j];exact LO _ _
 go_enter func117,ntmps117;go_wp2_with fail;rw[<-j];clear j
 go_region_held3 (λw'=>w'.cell? ⟨w.heap.size,0,none⟩=some (.int .i64 W)/\w'.cell? ⟨w.heap.size,1,none⟩=some (.int .i64 S)/\w'.cell? ⟨w.heap.size,2,none⟩=some (.int .i64 L)/\w'.cell? ⟨w.heap.size,4,none⟩=some (.int .i64 H)/\w'.cell? ⟨w.heap.size,5,none⟩=some (.int .i64 F)/\w'.cell? ⟨w.heap.size,7,none⟩=some (.int .i64 U))
  (first|assumption|exact l.l _ ((AB _ _).drew)|exact l.l _ ((AB _ _).drew.alloc (AA _) _))
  (first|(go_at_call 97;refine(k.l _).z ?_;rintro e i ⟨rfl,rfl⟩))
 all_goals
  go_wp2;go_ret;refine⟨d.heap.size,rfl,⟨dt (w:=d.drew) rfl,DA _ _ _ _,f.l.size,by simp[Value.ownBlock]⟩,f.l.j (((AB _ _).drew.alloc (AA _) _).z f.l.size)⟩
theorem mj(d g:Nat)(v:Nc)(f:List OpT)(s u t A:Int)(w:Nb)(h:Wrt w d g v f s u t A)(E:d<=w.heap.size)(G:f.length<=1000):Calls prog 123 #[Mv g 0] w λe w'=>(∃x,e=M3 x)/\(∃i,Wrt w' d g i (f++[(true,0,empty)]) s u t A)/\Below d w w':=by
 obtain⟨H,i,j,k,l⟩:=WT vm;have B:=Z (AH i (AH j (AH k l)));clear i j k l
 obtain⟨x,y,rfl⟩:∃x y,v=Value.slice x f.length y:=by
  rcases NU h.own with ⟨j,n⟩|⟨g,i,j,_⟩
  ·exact⟨none,0,by rw[j,n]⟩
  exact⟨_,i,j⟩
 have J:=h.row.y 0;have L:=h.row.A 0;have I:=h.row.lt;have r:=Z (h.own.alloc (.cells #[M0 true,.int .i64 0,Mz ⟨#[]⟩] 130));go_enter func123,ntmps123;go_wp2_with (at_builtin;refine QY _ rfl _ _ 97 rfl d underlying97 B.l rfl ω _ f.length _ rfl r.l ⟨w.heap.size,0,none⟩ 1 1 [M0 true,.int .i64 0,Mz ⟨#[]⟩] rfl rfl (World.news_of_block (AU w _)) (YH _ _ _) τ (w.heap.size+1) σ ?_;intro i l z k j o F;have m:=Z ((h.row.alloc _).J j (λe=>h.ne e.symm));have K:=m.l.y 0;have M:=m.l.A 0;have D:=Z k;have C:=Z (UC ((AB d w).alloc E _) r.l j τ);have p:i≠g:=(by rcases o with e|e;exactλn=>h.ne (by rw[<-n];exact e);omega);have q:=Z p;clear k j o p);go_end0;have j:=m.l.set 0 σ (.slice (Mw i 0) (f.length+1) l)
 refine⟨⟨_,rfl⟩,⟨.slice (Mw i 0) (f.length+1) l,j,?_,h.ge,by simp[Value.ownBlock];exact q.l⟩,C.l.setCell (p:=⟨g,0,none⟩) h.ge _⟩;have o:z.grownBy (z.setCell ⟨g,0,none⟩ (.slice (Mw i 0) (f.length+1) l)) (some g):=⟨rfl,rfl,rfl,by simp[World.setCell],λk _ p=>BF _ _ _ k (λe=>p (by rw[e]))⟩;have:=D.l.kept o (.inr (by simp[Value.ownBlock];exact q.l));rw[AF,ir];exact this
theorem Wrt.set{d:Nat}{v:Nc}{m:List OpT}{i l j n:Int}(h:Wrt w d g v m i l j n)(b o:Nat)(q:b<d)(u:Nc):Wrt (w.setCell ⟨b,o,none⟩ u) d g v m i l j n:=by
 have p:w.grownBy (w.setCell ⟨b,o,none⟩ u) (some b):=⟨rfl,rfl,rfl,by simp[World.setCell],λk _ f=>BF _ _ _ k (λe=>f (by rw[e]))⟩;refine⟨h.row.other _ (by show b≠g;have:=h.ge;omega) _,h.own.kept p ?_,h.ge,h.ne⟩
 cases f:v.ownBlock with
 | none=>exact .inl rfl
 | some k =>
  refine .inr λe=>?_
  cases e
  have:=(h.own.lt b f).1;omega
section
theorem UB:(prog.info? 99).map (·.size)=some 12:=κ
theorem QI:(prog.info? 33).map (·.size)=some 10:=κ
@[reducible] def UV(d:Dd)(a:M6)(c:Nat)(b:M6)(e:Nat):List Nc:=[.int .i64 d.C,.int .i64 d.W,.int .i64 d.S,.int .i64 d.L,.int .i64 d.T,.int .i64 d.H,.int .i64 d.F,.int .i64 d.R,.int .i64 d.U,.int .i64 d.O,.slice a d.rs.length c,.slice b d.ops.length e]
structure StB(w v:Nb)(cs:List Nc)(M:Nb->Prop):Prop where
 e:Below w.heap.size w v
 r1:Row v w.heap.size cs
 r2:Row v (w.heap.size+1) [.int .i64 0,.int .i64 0,.int .i64 0,.int .i64 0,.int .i64 0,.int .i64 0,.int .i64 0,.int .i64 0,.int .i64 0,.int .i64 0,.slice none 0 0,.slice none 0 0]
 m:DepF v (λb=>b≠w.heap.size/\b≠w.heap.size+1) M
section
variable {w v v':Nb} {cs cs':List Nc} {M N:Nb->Prop}
theorem StB.I(h:StB w v cs M)(d:Below v.heap.size v v'):StB w v' cs M:=⟨h.e.j (d.z h.e.size),h.r1.I d,h.r2.I d,h.m.I d⟩
theorem StB.low{B:Nat}(h:StB w v cs (λ_=>True))(d:Below B v v')(f:w.heap.size+1<B):StB w v' cs (λ_=>True) :=⟨h.e.j (d.z ω),MG h.r1 (d.block _ ω) (AD h.r1.lt d.size),MG h.r2 (d.block _ ω) (AD h.r2.lt d.size),LQ (λ_=>trivial)⟩
theorem StB.put(h:StB w v cs M)(d:v.grownBy v' (some w.heap.size))(f:Row v' w.heap.size cs'):StB w v' cs' M :=⟨h.e.j (NR d h.e.size (λx e=>by have e:=CE e;omega)),f,h.r2.J d (λe=>by injection e with e;omega),h.m.J d (λg e k=>by cases e;exact k.1 rfl)⟩
theorem StB.set(h:StB w v cs M)(i:Nat)(d:i<cs.length)(u:Nc):StB w (v.setCell ⟨w.heap.size,i,none⟩ u) (cs.set i u) M:=h.put (QC (BY _ _) _ _) (h.r1.set i d u)
theorem StB.aside{X:Nat}(h:StB w v cs (λ_=>True))(d:v.grownBy v' (some X))(f:w.heap.size+1<X):StB w v' cs (λ_=>True) :=⟨h.e.j (NR d h.e.size (λx e=>by have e:=CE e;omega)),h.r1.J d (λe=>by injection e with e;omega),h.r2.J d (λe=>by injection e with e;omega),LQ (λ_=>trivial)⟩
theorem ry(w:Nb)(o:Obj):Below w.heap.size w (w.alloc o):=LO _ _
theorem StB.add(h:StB w v cs M)(k:DepF v (λb=>b≠w.heap.size/\b≠w.heap.size+1) N):StB w v cs (λW=>M W/\N W):=⟨h.e,h.r1,h.r2,h.m.and k⟩
theorem StB.fin(h:StB w v cs M)(D:Dd)(a:M6)(c:Nat)(b:M6)(e:Nat)(j:D.rs.length<=c)(d:OwnDn v D.rs D.ops a b)(f:∀g,blk a D.rs.length=some g->w.heap.size+2<=g)(i:∀g,blk b D.ops.length=some g->w.heap.size+2<=g):Row (v.setCells (w.heap.size+1) 0 (UV D a c b e)) (w.heap.size+1) (UV D a c b e)/\UH w (v.setCells (w.heap.size+1) 0 (UV D a c b e)) (M3 (NZ D a c b e)) D:=by
 have G:=LG v (w.heap.size+1) 0 (UV D a c b e);have l:=(LS (lo:=w.heap.size+2) d.s SM f).J G (λg e=>by cases e;omega);have m:=(LS (lo:=w.heap.size+2) d.p jk i).J G (λg e=>by cases e;omega);exact⟨h.r2.sets _ rfl,a,c,b,e,rfl,j,⟨l.q,m.q,d.ne⟩,λg k=>by have:=f g k;omega,λg k=>by have:=i g k;omega,h.e.j (NR G h.e.size (λx e=>by have e:=CE e;omega))⟩
theorem StB.no(h:StB w v cs M)(C:Int):Row (v.setCells (w.heap.size+1) 0 [.int .i64 C,.int .i64 0,.int .i64 0,.int .i64 0,.int .i64 0,.int .i64 0,.int .i64 0,.int .i64 0,.int .i64 0,.int .i64 0,.slice none 0 0,.slice none 0 0]) (w.heap.size+1) (UV (LX C) none 0 none 0)/\UH w (v.setCells (w.heap.size+1) 0 [.int .i64 C,.int .i64 0,.int .i64 0,.int .i64 0,.int .i64 0,.int .i64 0,.int .i64 0,.int .i64 0,.int .i64 0,.int .i64 0,.slice none 0 0,.slice none 0 0]) (M3 (NZ (LX C) none 0 none 0)) (LX C) :=h.fin (LX C) none 0 none 0 (AA _) ⟨.inl rfl,.inl rfl,.inl rfl⟩ (λg k=>by cases k) (λg k=>by cases k)
theorem StB.noR(h:StB w v cs M)(C:Int){q:Nat}{d f:Oper}{a:Act}{Q:Exit->Act->Nb->Prop}(x y:Operand)(l:d.guard=none)(hv:(execOp a.eval d).run prog v=.ok (.value (.agg #[.int .i64 C,.int .i64 0,.int .i64 0,.int .i64 0,.int .i64 0,.int .i64 0,.int .i64 0,.int .i64 0,.int .i64 0,.int .i64 0,.slice none 0 0,.slice none 0 0])) v)(m:f.guard=none)(n:f.op=.store 99 x y)(o:(a.put d.dst (.agg #[.int .i64 C,.int .i64 0,.int .i64 0,.int .i64 0,.int .i64 0,.int .i64 0,.int .i64 0,.int .i64 0,.int .i64 0,.int .i64 0,.slice none 0 0,.slice none 0 0])).eval x=Mv (w.heap.size+1) 0)(p:(a.put d.dst (.agg #[.int .i64 C,.int .i64 0,.int .i64 0,.int .i64 0,.int .i64 0,.int .i64 0,.int .i64 0,.int .i64 0,.int .i64 0,.int .i64 0,.slice none 0 0,.slice none 0 0])).eval y=.agg #[.int .i64 C,.int .i64 0,.int .i64 0,.int .i64 0,.int .i64 0,.int .i64 0,.int .i64 0,.int .i64 0,.int .i64 0,.int .i64 0,.slice none 0 0,.slice none 0 0])
  (k:∀u,Row u (w.heap.size+1) (UV (LX C) none 0 none 0)->Hid (UH w u (M3 (NZ (LX C) none 0 none 0)) (LX C))->wpList prog [d,f].toArray Q [] ((a.put d.dst (.agg #[.int .i64 C,.int .i64 0,.int .i64 0,.int .i64 0,.int .i64 0,.int .i64 0,.int .i64 0,.int .i64 0,.int .i64 0,.int .i64 0,.slice none 0 0,.slice none 0 0])).put f.dst undef) u):(Code.region q [d,f].toArray false).wp prog Q a v:=by
 obtain⟨j,i⟩:=h.no C;exact BE (LU l _ hv (BI m _ x y n (w.heap.size+1) 0 _ o p (h.r2.there rfl) UB κ (k _ j (Z i))))
end
theorem ZJ{n m N:Nat}(d:∀g,blk a n=some g->g<N)(f:∀g,blk b m=some g->N<=g):ZP a n b m:=by
 cases h:blk a n with
 | none=>exact .inl h
 | some g=>exact .inr (.inr λe=>by rw[h]at e;have:=d g h;have:=f g e.symm;omega)
theorem Bx{n m N:Nat}(d:∀g,blk a n=some g->N<=g)(f:∀g,blk b m=some g->g<N):ZP a n b m:=by
 cases h:blk a n with
 | none=>exact .inl h
 | some g=>exact .inr (.inr λe=>by rw[h]at e;have:=d g h;have:=f g e.symm;omega)
theorem ZK{d:List Pr}(h:OwnS w a (MC d))(k:blk a d.length=some g):g<w.heap.size:=by
 rcases h with h|⟨j,rfl,i⟩
 ·have e:d.length=0:=by have:=CX List.length h;rw[XG,AR]at this;omega
  rw[e]at k
  cases a<;>simp[blk]at k
 by_cases f:d.length=0
 ·rw[f]at k;simp[blk]at k
 rw[NT _ _ _ ω]at k
 cases k
 exact i.lt
theorem UF{f:Func}{d:Act}{y:Nb}{D:Dd}(k:Nat)(j:f.results=#[.cell k 99])(X:Nat)(l:d.tmps.getD k undef=Mv X 0)(m:Row y X (UV D a c b e))(i:d.defers=[])(h:UH w y (M3 (NZ D a c b e)) D):bodyPost prog f (λr w'=>UH w w' r D) .ret d y :=LV k 99 j X l (UV D a c b e) _ m underlying99 rfl UB i h
def ee(w w':Nb)(x:Ending)(d:Dd):Prop:=UH w w' x d/\∀a c b e,x=M3 (NZ d a c b e)->d.ops.length<=e
theorem C7{D:Dd}(d:UH w w' (M3 (NZ D a c b e)) D)(l:D.ops.length<=e):ee w w' (M3 (NZ D a c b e)) D :=⟨d,λf i h j k=>by simp[NZ]at k;have:=k.2.2;omega⟩
theorem VO{f:Func}{d:Act}{y:Nb}{D:Dd}(k:Nat)(l:f.results=#[.cell k 99])(X:Nat)(m:d.tmps.getD k undef=Mv X 0)(n:Row y X (UV D a c b e))(i:d.defers=[])(h:UH w y (M3 (NZ D a c b e)) D)(j:D.ops.length<=e:=by exact AA _):bodyPost prog f (λr w'=>ee w w' r D) .ret d y :=LV k 99 l X m (UV D a c b e) _ n underlying99 rfl UB i (C7 h j)
end
theorem pq(n:Int)(w:Nb):Calls prog 197 #[.int .i64 n] w λe w'=>e=M3 (M0 (decide (0<=n/\n<=1)))/\w'=w:=by
 go_enter func197,ntmps197
 by_cases d:n=0
 ·subst d;go_wp2;go_ret;simp
 by_cases f:n=1
 ·subst f;go_wp2;go_ret;simp
 have h:decide (0<=n/\n<=1)=false:=τ
 rw[h];go_wp2;go_ret;simp[d,f]
theorem mX(n:Int)(w:Nb):Calls prog 198 #[.int .i64 n] w λe w'=>e=M3 (M0 (decide (1<=n/\n<=999999000)))/\w'=w:=by
 go_enter func198,ntmps198
 by_cases d:1<=n<;>by_cases f:n<=999999000<;>(go_wp2;go_ret;simp[d,f])
theorem re(T H F R:Int)(w:Nb):Calls prog 155 #[.agg #[.int .i64 T,.int .i64 H,.int .i64 F,.int .i64 R]] w λe w'=>e=M3 (M0 (SW T H F R))/\Below w.heap.size w w':=by
 have j:∀o,Below w.heap.size w (w.alloc o):=λo=>LO _ _
 obtain⟨E,f⟩:∃E,Hid (E=SW T H F R):=⟨_,Z rfl⟩;rw[<-f.l];unfold SW at f
 by_cases m:0<=T
 rotate_left
 focus
  have d:E=false:=by rw[f.l];simp;omega
 rotate_left
 focus
  by_cases n:T<=1000000000
  rotate_left
  focus
   have d:E=false:=by rw[f.l];simp;omega
  rotate_left
  focus
   by_cases o:0<=R
   rotate_left
   focus
    have d:E=false:=by rw[f.l];simp;omega
   rotate_left
   focus
    by_cases p:R<=60000
    rotate_left
    focus
     have d:E=false:=by rw[f.l];simp;omega
    rotate_left
    focus
     by_cases k:0<=H/\H<=1
     case neg =>
      have h:decide (0<=H/\H<=1)=false:=AI k;have d:E=false:=by rw[f.l,h];simp
      subst d;go_enter func155,ntmps155
      go_wp2_with (first|(go_at_call 197;refine(pq _ _).z ?_;rw[h];refine OJ ?_))
      go_ret;exact⟨rfl,j _⟩
     have h:decide (0<=H/\H<=1)=true:=AL k
     by_cases l:1<=F/\F<=999999000
     case neg =>
      have i:decide (1<=F/\F<=999999000)=false:=AI l;have d:E=false:=by rw[f.l,i];simp
      subst d;go_enter func155,ntmps155
      go_wp2_with (first|(go_at_call 197;refine(pq _ _).z ?_;rw[h];refine OJ ?_)|(go_at_call 198;refine(mX _ _).z ?_;rw[i];refine OJ ?_))
      go_ret;exact⟨rfl,j _⟩
     have i:decide (1<=F/\F<=999999000)=true:=AL l;have d:E=true:=by rw[f.l,h,i];simp;omega
     subst d;go_enter func155,ntmps155
     go_wp2_with (first|(go_at_call 197;refine(pq _ _).z ?_;rw[h];refine OJ ?_)|(go_at_call 198;refine(mX _ _).z ?_;rw[i];refine OJ ?_))
     go_ret;exact⟨rfl,j _⟩
 all_goals
  subst d;go_enter func155,ntmps155;go_wp2;go_ret;exact⟨rfl,j _⟩
theorem yh(n Q:Int)(h:Q=hv n)(w:Nb):Calls prog 98 #[.int .i64 n] w λe w'=>e=M3 (.int .i64 Q)/\w'=w:=by rw[h];exact dz n w
theorem sj(W S L T H F R U O:Int)(a:M6)(d:List Pr)(c:Nat)(w:Nb)(h:Prs w a d)(s:d.length<=c)(t:d.length<=1048576)(u:∀x∈d,x.1.size<=1048576/\x.2.size<=1048576):Calls prog 100 #[NK W S L T H F R U O a d.length c] w λe w'=>e=M3 (M0 (decide (MJ (MD d) W<=hv S-1)))/\Below w.heap.size w w':=by
 unfold NK;obtain⟨f,i⟩:∃f,f=w.alloc (.cells (sK W S L T H F R U O (.slice a d.length c)) 33):=⟨_,rfl⟩;have v:f.cell? ⟨w.heap.size,0,none⟩=some (.int .i64 W):=by rw[i];go_simp
 have x:f.cell? ⟨w.heap.size,1,none⟩=some (.int .i64 S):=by rw[i];go_simp
 have y:f.cell? ⟨w.heap.size,9,none⟩=some (.slice a d.length c):=by rw[i];go_simp
 have k:Below w.heap.size w f:=by rw[i];exact LO _ _
 have l:w.heap.size<f.heap.size:=by rw[i];simp
 have m:Hid (∀w',Below f.heap.size f w'->w'.cell? ⟨w.heap.size,0,none⟩=some (.int .i64 W)/\w'.cell? ⟨w.heap.size,1,none⟩=some (.int .i64 S)/\w'.cell? ⟨w.heap.size,9,none⟩=some (.slice a d.length c)/\Below f.heap.size f w'):=λw' j=>⟨(j.cell (p:=⟨w.heap.size,0,none⟩) l).j v,(j.cell (p:=⟨w.heap.size,1,none⟩) l).j x,(j.cell (p:=⟨w.heap.size,9,none⟩) l).j y,j⟩
 have o:=Z (Au a d c W f.drew (h.I k.drew) s t u);have r:=bp (MD d) W;have z:=YX d;have q:0<=hv S/\hv S<=99:=by by_cases h:8<=S/\S<=200;have:=QM h;omega;rw[YJ h];omega
 obtain⟨G,p⟩:∃G,Hid (G=MJ (MD d) W):=⟨_,Z rfl⟩;obtain⟨Q,j⟩:∃Q,Hid (Q=hv S):=⟨_,Z rfl⟩;rw[<-p.l]at r o⊢;rw[<-j.l]at q⊢;have A:IntKind.i64.wrap (Q-1)=Q-1:=by simp[IntKind.wrap,IntKind.bits,IntKind.signed];omega
 have n:=Z k;clear k;go_enter func100,ntmps100;go_wp2_with fail;rw[<-i];clear i
 go_region_held3 (λw'=>w'.cell? ⟨w.heap.size,0,none⟩=some (.int .i64 W)/\w'.cell? ⟨w.heap.size,1,none⟩=some (.int .i64 S)/\w'.cell? ⟨w.heap.size,9,none⟩=some (.slice a d.length c)/\Below f.heap.size f w')
  (first|assumption|exact m.l _ ((AB _ _).drew)|exact m.l _ ((AB _ _).drew.j i))
  (first|(go_at_call 153;refine o.l.z ?_;rintro e k ⟨rfl,i⟩)|(go_at_call 98;refine(dz _ _).z ?_;rw[<-j.l];rintro e B ⟨rfl,rfl⟩))
 all_goals
  go_wp2;go_ret;exact⟨rfl,n.l.j (((AB _ _).drew.j i).z n.l.size)⟩
theorem kn(W S L T H F R U O:Int)(a:M6)(i:List Pr)(c:Nat)(w:Nb)(h:Prs w a i)(hc:i.length<=c)(hl:i.length<=1048576)(K:∀x∈i,x.1.size<=1048576/\x.2.size<=1048576):Calls prog 111 #[NK W S L T H F R U O a i.length c] w λe w'=>e=M3 (M0 (OB W S L T H F R U O i))/\Below w.heap.size w w':=by
 unfold NK;have aH:=Z (λw2 (J:Below w.heap.size w w2)=>mu a i c w2 (h.I J) hl K);have D:=Z (λw2 (J:Below w.heap.size w w2)=>sj W S L T H F R U O a i c w2 (h.I J) hc hl K);unfold NK at D;clear h K;obtain⟨E,C⟩:∃E,Hid (E=OB W S L T H F R U O i):=⟨_,Z rfl⟩;rw[<-C.l];obtain⟨Q,d⟩:∃Q,Q=hv S:=⟨_,rfl⟩;have y:=Z d;have f:=qM W S L T H F R U O i;rw[<-C.l,<-d]at f;rw[<-d]at D;have j:=Z f;clear f d;go_enter func111,ntmps111;go_upto_region 1 with fail;generalize f:w.alloc _=v1;obtain⟨d,l,k⟩:=LY f;have r:=k.q;clear f l k;obtain⟨l,m,n,o,p,q,s,t,u,v,x⟩:=c10 r
 by_cases G:1<=W/\W<=8
 case neg =>
  have z:=AI G;obtain rfl:E=false:=j.l (.inl G);go_wp2_with (go_at_call 53;refine(SZ _ _).z ?_;rw[z];refine OJ ?_);go_ret;exact⟨rfl,d⟩
 have z:=AL G
 by_cases A:8<=S/\S<=200
 case neg =>
  have B:=AI A;obtain rfl:E=false:=j.l (.inr (.inl A))
  go_wp2_with (first|(go_at_call 53;refine(SZ _ _).z ?_;rw[z];refine OJ ?_)|(go_at_call 52;refine(lk _ _).z ?_;rw[B];refine OJ ?_))
  go_ret;exact⟨rfl,d⟩
 have B:=AL A;have aJ:3<=Q/\Q<=99:=by rw[y.l];exact QM A
 go_upto_region 3 with (first|(go_at_call 53;refine(SZ _ _).z ?_;rw[z];refine OJ ?_)|(go_at_call 52;refine(lk _ _).z ?_;rw[B];refine OJ ?_))
 by_cases V:1<=L
 case neg =>
  obtain rfl:E=false:=j.l (.inr (.inr (.inl (λk=>V k.1))));go_wp2;go_ret;exact⟨rfl,d⟩
 by_cases M:L<=60000
 case neg =>
  obtain rfl:E=false:=j.l (.inr (.inr (.inl (λk=>M k.2))));go_wp2;go_ret;exact⟨rfl,d⟩
 go_wp2_with fail;clear l m n o p q s t u v x;refine(re T H F R _).z ?_;rintro e v2 ⟨rfl,f⟩;replace r:=r.I f;replace d:=d.j (f.z d.size);clear f;obtain⟨l,m,n,o,p,q,s,t,u,v,x⟩:=c10 r
 cases d4:SW T H F R with
 | false =>
  obtain rfl:E=false:=j.l (.inr (.inr (.inr (.inl d4))));go_wp2_with fail;go_ret;exact⟨rfl,d⟩
 | true =>
  have aF:=Z d4;clear d4;go_upto_region 7 with fail;go_cut [28] from 29 to 39 (λf I=>f=M0 (decide (¬(0<=U/\U<=Q)))/\Below v2.heap.size v2 I)
  case first =>
   by_cases I:0<=U
   case neg =>
    go_quiet ((go_at_call 98;exact Calls.quiet_of_same (yh _ _ y.l _)));go_wp2_with fail;go_meet;exact⟨by rw[show decide (¬(0<=U/\U<=Q))=true by simp only[AT];omega],below_drewN (AB _ _) nq⟩
   by_cases f:U<=Q
   case neg =>
    go_quiet ((go_at_call 98;exact Calls.quiet_of_same (yh _ _ y.l _)));go_wp2_with fail;go_meet;exact⟨by rw[show decide (¬(0<=U/\U<=Q))=true by simp only[AT];omega],below_drewN (AB _ _) nq⟩
   go_quiet ((go_at_call 98;exact Calls.quiet_of_same (yh _ _ y.l _)));go_wp2_with fail;go_meet
   exact⟨by rw[show decide (¬(0<=U/\U<=Q))=false by simp only[IC];omega,show decide (Q<U)=false by simp only[IC];omega];simp;try omega,below_drewN (AB _ _) nq⟩
  case rest =>
  clear l m n o p q s t u v x;obtain⟨rfl,f⟩:=hcut
  rename World=>v3
  replace r:=r.I f;replace d:=d.j (f.z d.size);clear f;obtain⟨l,m,n,o,p,q,s,t,u,v,x⟩:=c10 r
  by_cases I:0<=U/\U<=Q
  case neg =>
   obtain rfl:E=false:=j.l (.inr (.inr (.inr (.inr (.inl I)))));rw[show decide (¬(0<=U/\U<=Q))=true by simp only[AT];omega];go_wp2_with fail;go_ret;exact⟨rfl,d⟩
  rw[show decide (¬(0<=U/\U<=Q))=false by simp only[IC];omega]
  by_cases X:0<=O
  case neg =>
   obtain rfl:E=false:=j.l (.inr (.inr (.inr (.inr (.inr (.inl (λk=>X k.1)))))));go_wp2_with fail;go_ret;exact⟨rfl,d⟩
  by_cases N:O<=U
  case neg =>
   obtain rfl:E=false:=j.l (.inr (.inr (.inr (.inr (.inr (.inl (λk=>N k.2)))))));go_wp2_with fail;go_ret;exact⟨rfl,d⟩
  go_wp2_with fail;clear l m n o p q s t u v x;have k:=aH.l _ d;refine k.z ?_;rintro e v4 ⟨rfl,f⟩;replace r:=r.I f;replace d:=d.j (f.z d.size);clear f k;obtain⟨l,m,n,o,p,q,s,t,u,v,x⟩:=c10 r
  cases d7:MU i with
  | false =>
   obtain rfl:E=false:=j.l (.inr (.inr (.inr (.inr (.inr (.inr (.inl d7)))))));go_wp2_with fail;go_ret;exact⟨rfl,d⟩
  | true =>
   have k:=Z d7;clear d7;go_wp2_with fail;refine(D.l _ d).z ?_;rintro e v5 ⟨rfl,f⟩;replace d:=d.j (f.z d.size);clear f
   have f:E=decide (MJ (MD i) W<=Q-1):=by
    rw[C.l];unfold OB;rw[z,B,aF.l,k.l,AL (⟨V,M⟩:1<=L/\L<=60000),AL (⟨X,N⟩:0<=O/\O<=U),<-y.l,AL I];simp
   subst f;clear l m n o p q s t u v x;go_wp2_with fail;go_ret;exact⟨rfl,d⟩
