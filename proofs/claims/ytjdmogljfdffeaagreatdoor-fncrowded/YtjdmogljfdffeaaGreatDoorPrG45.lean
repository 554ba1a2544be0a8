import Derived.Shelf.Strings.BuilderK
import Derived.Test.YtjdmogljfdffeaaGreatDoorPrG40
import Derived.Test.YtjdmogljfdffeaaGreatDoorPrRpL
import Derived.Test.YtjdmogljfdffeaaGreatDoorPrAs
import Derived.Test.YtjdmogljfdffeaaGreatDoorPrDrvOf
import Derived.Sort.LoopGhostIn
import Derived.Scope
import Derived.Stop.RegionWithIn
import Derived.Sort.CutIn
set_option maxHeartbeats 32000000
set_option maxRecDepth 8000
set_option linter.all false
namespace Go.Proofs.YtjdmogljfdffeaaGreatDoor
open _root_.ByteArray(empty)
section
open Tryz
open Go.RowKit Go.Shelf
variable {b:Nat}{row:Option Nat}{T e:TypeId}{W W':World}
theorem Ba(B b:Nat)(bs:List Value)(s:ByteArray)(w:World)(h:Lib.IsBuilderF 123 5 B b bs w)(c:bs.length+s.size<=140737488355328)(d:B<=w.heap.size):Calls prog 75 #[.pointer (some ⟨b,0,none⟩),.string s] w λe a=>e=.returned (.tuple #[.int .i64 s.size,.nilIface])/\(Lib.BuilderAtF 123 5 B b (.pointer (some ⟨b,0,none⟩)) (bs++Lib.strCells s) a/\Below B w a/\Lib.OthersKept 5 (some b) w a):=Any.Builder_WriteString_k qV mg B b bs s w h c d
theorem Jo(B b:Nat)(l:List UInt8)(w:World)(h:Lib.IsBuilderF 123 5 B b (Lib.byteCells l) w)(c:B<=w.heap.size):Calls prog 77 #[.pointer (some ⟨b,0,none⟩)] w λe a=>e=.returned (.string ⟨l.toArray⟩)/\(Lib.IsBuilderF 123 5 B b (Lib.byteCells l) a/\Below B w a/\Lib.OthersKept 5 (some b) w a):=Any.Builder_String_any_k tY mg B b l w h c
theorem jt{g:Nat}{c:Value}{d:List Value}(h:Row W g (c::d)):∃a t z,W.heap[g]?=some (.cells a t z):=by
 have:=h.cell 0 c rfl;unfold World.cell? at this
 split at this
 ·exact⟨_,_,_,by assumption⟩
 cases this
theorem kw{g:Nat}{c:Value}{d:List Value}(h:Row W g (c::d))(k:W.grownBy W' row)(m:∀r,row=some r->r≠g\/∃o:Obj,W.heap[r]?=some o/\o.isCells=false):Row W' g (c::d):=by
 refine h.I k λe=>?_
 rcases m g e.symm with i|⟨o,f,j⟩
 ·exact i rfl
 obtain⟨a,t,z,l⟩:=jt h
 rw[l]at f;cases f;cases j
theorem oZ{a:Nat}{s:Nat}{v:Value}{n:Nat}{d:List Value}(h:W.ownsRow a e s v n d)(m:W.grownBy W' row)(p:∀r,row=some r->∃o:Obj,W.heap[r]?=some o/\o.isCells=false):W'.ownsRow a e s v n d:=by
 refine h.kept m ?_;rcases h.2 with ⟨rfl,_⟩|⟨g,i,j,rfl,_,f,_⟩
 ·exact .inl rfl
 refine .inr λk=>?_
 obtain⟨o,c,l⟩:=p g (by simpa[Value.ownBlock] using k.symm)
 rw[f]at c;cases c;cases l
theorem oO{B:Nat}{bs:List Value}(h:Lib.IsBuilderF T e B b bs W)(j:W.grownBy W' row)(l:∀r,row=some r->r<B\/∃o:Obj,W.heap[r]?=some o/\o.isCells=false):Lib.IsBuilderF T e B b bs W':=by
 have i:∀p,Lib.BuilderAtF T e B b p bs W->Lib.BuilderAtF T e B b p bs W':=by
  rintro p ⟨s,v,f,d,n⟩;have m:b<W.heap.size:=(AT.1 f).1
  have r:some b≠row:=λe=>by
   rcases l b e.symm with h|⟨o,a,g⟩
   ·omega
   rw[f]at a;cases a;cases g
  refine⟨s,v,(j.block b m r).j f,d.kept j ?_,n⟩
  cases hv:v.ownBlock with
  | none=>exact .inl rfl
  | some k =>
   refine .inr λq=>?_
   rcases l k q.symm with h|⟨o,a,g⟩
   ·have:=(d.lt k hv).1;omega
   obtain⟨c,u,t⟩:=Lib.ownsRowF_kind d k hv
   rw[t]at a;cases a;cases g
 rcases h with h|h
 ·exact .inl (i _ h)
 exact .inr (i _ h)
theorem tI{B:Nat}{bs:List Value}(h:Lib.IsBuilderF T e B b bs W):∃a,W.heap[b]?=some (.cells a T (0,0)):=by
 rcases h with ⟨_,v,a,_⟩|⟨_,v,a,_⟩<;>exact⟨_,a⟩
theorem tE{a:Array Value}{z:Nat×Nat}(g:W.heap[b]?=some (.cells a T z))(h:Lib.OthersKept e (some b) W W')(i:W.heap.size<=W'.heap.size):KeepsOthers W W' :=⟨i,λk o d f=>h k o d (λe=>by cases e;rw[g]at d;cases d;cases f) (λc j e=>by rw[e]at f;cases f)⟩
theorem yw(h:Below W.heap.size W W'):KeepsOthers W W':=⟨h.size,λk o a _=>(h.block k (AT.1 a).1).j a⟩
structure ScL(w3 W:World)(Rs:List Nat)(M:Nat)(c0 c1 c2 c3:Value)(y:Value)(ents:List ByteArray)(u l wk wl wm:Int)(wp:ByteArray):Prop where
 lb:Row W w3.heap.size [c0,c1,c2,c3]
 fb:Row W (w3.heap.size+1) [y,.int .i64 u,.int .i64 l]
 bb:Row W (w3.heap.size+2) [.int .i64 wk,.int .i64 wl,.int .i64 wm,.string wp]
 own:W.ownsRow w3.heap.size 9 1 y ents.length (ents.map Value.string)
 yo:∀k,y.ownBlock=some k->w3.heap.size+2<k
 be:Below w3.heap.size w3 W
 mr:∀r∈Rs,w3.heap.size<=r/\r<M/\W.heap[r]?=some (.deferred (some []))
 nd:Rs.Nodup
section
variable {w3 W W':World} {Rs:List Nat} {M:Nat} {c0 c1 c2 c3:Value} {y:Value} {ents:List ByteArray} {u l wk wl wm:Int} {wp:ByteArray}
theorem ScL.kept(h:ScL w3 W Rs M c0 c1 c2 c3 y ents u l wk wl wm wp)(m:w3.heap.size<=M)(a:W.grownBy W' row)(c:∀r,row=some r->M<=r/\∃o:Obj,W.heap[r]?=some o/\o.isCells=false):ScL w3 W' Rs M c0 c1 c2 c3 y ents u l wk wl wm wp:=by
 have d:∀g:Nat,∀r,row=some r->r≠g\/∃o:Obj,W.heap[r]?=some o/\o.isCells=false:=λg r e=>.inr (c r e).2
 refine⟨kw h.lb a (d _),kw h.fb a (d _),kw h.bb a (d _),oZ h.own a (λr e=>(c r e).2),h.yo,h.be.I a h.be.size (λk e=>AL m (c k e).1),λr g=>?_,h.nd⟩;obtain⟨i,j,f⟩:=h.mr r g;exact⟨i,j,(a.block r (AT.1 f).1 (λe=>by have:=(c r e.symm).1;omega)).j f⟩
theorem ScL.low(h:ScL w3 W Rs M c0 c1 c2 c3 y ents u l wk wl wm wp)(c:Below M W W')(t:w3.heap.size+2<M)(p:∀k,y.ownBlock=some k->k<M):ScL w3 W' Rs M c0 c1 c2 c3 y ents u l wk wl wm wp:=by
 have d:∀ {g:Nat} {j:List Value},g<M->Row W g j->Row W' g j:=λf a=>⟨AD a.lt c.size,λi v hv=>(CT (a:=⟨_,i,none⟩) (c.block _ f)).j (a.cell i v hv),λi k=>(GL (a:=⟨_,i,none⟩) (c.block _ f)).j (a.froz i k)⟩
 have s:W'.ownsRow w3.heap.size 9 1 y ents.length (ents.map Value.string):=by
  have k:=h.own;refine⟨k.1,?_⟩;rcases k.2 with q|⟨g,f,i,hv,n,o,m⟩
  ·exact .inl q
  exact .inr ⟨g,f,i,hv,n,(c.block g (p g (by rw[hv];rfl))).j o,m⟩
 exact⟨d ω h.lb,d ω h.fb,d ω h.bb,s,h.yo,h.be.j (c.A ω),λr a=>⟨(h.mr r a).1,(h.mr r a).2.1,(c.block r (h.mr r a).2.1).j (h.mr r a).2.2⟩,h.nd⟩
theorem ScL.top(h:ScL w3 W Rs M c0 c1 c2 c3 y ents u l wk wl wm wp):ScL w3 W Rs W.heap.size c0 c1 c2 c3 y ents u l wk wl wm wp :=⟨h.lb,h.fb,h.bb,h.own,h.yo,h.be,λr a=>⟨(h.mr r a).1,(AT.1 (h.mr r a).2.2).1,(h.mr r a).2.2⟩,h.nd⟩
theorem ScL.z(h:ScL w3 W Rs M c0 c1 c2 c3 y ents u l wk wl wm wp)(a:Below W.heap.size W W'):ScL w3 W' Rs M c0 c1 c2 c3 y ents u l wk wl wm wp :=⟨h.lb.z a,h.fb.z a,h.bb.z a,LR h.own a,h.yo,h.be.j (a.A h.be.size),λr c=>⟨(h.mr r c).1,(h.mr r c).2.1,(a.block r (AT.1 (h.mr r c).2.2).1).j (h.mr r c).2.2⟩,h.nd⟩
theorem ScL.own_ne(h:ScL w3 W Rs M c0 c1 c2 c3 y ents u l wk wl wm wp){k:Nat}(a:k<=w3.heap.size+2):y.ownBlock≠some k:=λe=>by have:=h.yo k e;omega
theorem ScL.mk_ne(h:ScL w3 W Rs M c0 c1 c2 c3 y ents u l wk wl wm wp){r:Nat}(i:r∈Rs):r≠w3.heap.size+1/\r≠w3.heap.size+2/\y.ownBlock≠some r:=by
 have c:=(h.mr r i).2.2;refine⟨λe=>?_,λe=>?_,λe=>?_⟩
 ·obtain⟨a,t,z,d⟩:=jt h.fb
  rw[e,d]at c;cases c
 ·obtain⟨a,t,z,d⟩:=jt h.bb
  rw[e,d]at c;cases c
 rcases h.own.2 with ⟨rfl,_⟩|⟨g,d,f,rfl,_,a,_⟩
 ·cases e
 have:g=r:=by simpa[Value.ownBlock] using e
 rw[this,c]at a;cases a
theorem ScL.setWas(h:ScL w3 W Rs M c0 c1 c2 c3 y ents u l wk wl wm wp)(f j k:Int)(m:ByteArray):ScL w3 ((((W.setCell ⟨w3.heap.size+2,0,none⟩ (.int .i64 f)).setCell ⟨w3.heap.size+2,1,none⟩ (.int .i64 j)).setCell ⟨w3.heap.size+2,2,none⟩ (.int .i64 k)).setCell ⟨w3.heap.size+2,3,none⟩ (.string m)) Rs M c0 c1 c2 c3 y ents u l f j k m:=by
 have n:∀ {g:Nat} {o:List Value},g≠w3.heap.size+2->Row W g o->Row ((((W.setCell ⟨w3.heap.size+2,0,none⟩ (.int .i64 f)).setCell ⟨w3.heap.size+2,1,none⟩ (.int .i64 j)).setCell ⟨w3.heap.size+2,2,none⟩ (.int .i64 k)).setCell ⟨w3.heap.size+2,3,none⟩ (.string m)) g o:=λc a =>
  (((a.other _ (IM c) _).other _ (IM c) _).other _ (IM c) _).other _ (IM c) _
 have d:=h.own_ne (Y _)
 have bs:∀ {x:World},Below w3.heap.size w3 x->∀i v,Below w3.heap.size w3 (x.setCell ⟨w3.heap.size+2,i,none⟩ v):=λc i v=>c.setCell (by show w3.heap.size<=w3.heap.size+2;omega) _
 refine⟨n ω h.lb,n ω h.fb,(((h.bb.set 0 σ _).set 1 σ _).set 2 σ _).set 3 σ _,AQ (AQ (AQ (AQ h.own d _) d _) d _) d _,h.yo,bs (bs (bs (bs h.be _ _) _ _) _ _) _ _,λr a=>⟨(h.mr r a).1,(h.mr r a).2.1,?_⟩,h.nd⟩;have c:=(h.mk_ne a).2.1;rw[BD _ _ _ _ c,BD _ _ _ _ c,BD _ _ _ _ c,BD _ _ _ _ c];exact(h.mr r a).2.2
theorem ScL.take(h:ScL w3 W Rs M c0 c1 c2 c3 y ents u l wk wl wm wp){a:List ByteArray}{s q:Int}(x:zg w3.heap.size (w3.heap.size+1) y W a s q W'):∃j,ScL w3 W' Rs M c0 c1 c2 c3 j a s q wk wl wm wp:=by
 obtain⟨j,c,w,t,o,p⟩:=x
 have m:∀ {g:Nat} {n:List Value},g<=w3.heap.size+2->g≠w3.heap.size+1->Row W g n->Row W' g n:=λf d c=>by
  have e:=p _ c.lt d (λe=>h.own_ne f e.symm);exact⟨AD c.lt o.size,λi v hv=>(CT (a:=⟨_,i,none⟩) e).j (c.cell i v hv),λi d=>(GL (a:=⟨_,i,none⟩) e).j (c.froz i d)⟩
 have v:=h.bb.lt;refine⟨j,m ω ω h.lb,c,m ω ω h.bb,w,λk e=>?_,h.be.j o,λr d=>⟨(h.mr r d).1,(h.mr r d).2.1,?_⟩,h.nd⟩
 ·rcases t with f|⟨H,f,i⟩
  ·exact h.yo k (f.symm.j e)
  rw[f]at e;cases e;omega
 have f:=h.mk_ne d
 exact(p r (AT.1 (h.mr r d).2.2).1 f.1 (λe=>f.2.2 e.symm)).j (h.mr r d).2.2
theorem ScL.takeKeeps(h:ScL w3 W Rs M c0 c1 c2 c3 y ents u l wk wl wm wp){c:List ByteArray}{r q:Int}(p:zg w3.heap.size (w3.heap.size+1) y W c r q W'):KeepsOthers W W':=by
 obtain⟨x,w,v,s,m,n⟩:=p;refine⟨m.size,λk o d f=>(n k (AT.1 d).1 (λe=>?_) (λe=>?_)).j d⟩
 ·obtain⟨a,t,z,g⟩:=jt h.fb
  rw[e,g]at d;cases d;cases f
 rcases h.own.2 with ⟨rfl,_⟩|⟨g,i,j,rfl,_,a,_⟩
 ·cases e
 have:k=g:=by simpa[Value.ownBlock] using e
 rw[this,a]at d;cases d;cases f
theorem ScL.push(h:ScL w3 W Rs M c0 c1 c2 c3 y ents u l wk wl wm wp){D:Nat}(c:W.heap[D]?=some (.deferred (some [])))(g:M<=D)(d:w3.heap.size<=D):ScL w3 W (D::Rs) W.heap.size c0 c1 c2 c3 y ents u l wk wl wm wp :=⟨h.lb,h.fb,h.bb,h.own,h.yo,h.be,λr a=>by
  rcases DX.1 a with rfl|a
  ·exact⟨d,(AT.1 c).1,c⟩
  exact⟨(h.mr r a).1,(AT.1 (h.mr r a).2.2).1,(h.mr r a).2.2⟩,List.nodup_cons.2 ⟨λf=>by have:=(h.mr D f).2.1;omega,h.nd⟩⟩
end
structure ScN(w3 W:World)(Rs:List Nat)(b:Nat)(c0 c1 c2 c3:Value)(y:Value)(ents:List ByteArray)(u l wk wl wm:Int)(wp op:ByteArray):Prop where
 sl:ScL w3 W Rs b c0 c1 c2 c3 y ents u l wk wl wm wp
 bu:Lib.IsBuilderF 123 5 b b (Lib.byteCells op.data.toList) W
 g1:W.heap[b+1]?=some (.cells #[c0,c1,c2,c3] 186 (0,0))
 g2:W.heap[b+2]?=some (.cells #[.int .i64 u] 3 (0,0))
 yb:∀k,y.ownBlock=some k->k<b
 lo:w3.heap.size+2<b
section
variable {w3 W W':World} {Rs:List Nat} {b:Nat} {c0 c1 c2 c3:Value} {y:Value} {ents:List ByteArray} {u l wk wl wm:Int} {wp op:ByteArray}
theorem ScN.kept(h:ScN w3 W Rs b c0 c1 c2 c3 y ents u l wk wl wm wp op)(c:W.grownBy W' row)(f:∀r,row=some r->b<=r/\∃o:Obj,W.heap[r]?=some o/\o.isCells=false):ScN w3 W' Rs b c0 c1 c2 c3 y ents u l wk wl wm wp op:=by
 have i:∀ {g:Nat} {a:Array Value} {t:TypeId} {z:Nat×Nat},W.heap[g]?=some (.cells a t z)->W'.heap[g]?=some (.cells a t z):=λd=>(c.block _ (AT.1 d).1 (λe=>by
  obtain⟨_,o,j,k⟩:=f _ e.symm
  rw[d]at j;cases j;cases k)).j d
 exact⟨h.sl.kept (by have:=h.lo;omega) c f,oO h.bu c (λr e=>.inr (f r e).2),i h.g1,i h.g2,h.yb,h.lo⟩
theorem ScN.alloc(h:ScN w3 W Rs b c0 c1 c2 c3 y ents u l wk wl wm wp op)(o:Obj):ScN w3 (W.alloc o) Rs b c0 c1 c2 c3 y ents u l wk wl wm wp op:=h.kept (World.grownBy_alloc W o none) (λr e=>by cases e)
theorem ScN.setWas(h:ScN w3 W Rs b c0 c1 c2 c3 y ents u l wk wl wm wp op)(f j m:Int)(n:ByteArray):ScN w3 ((((W.setCell ⟨w3.heap.size+2,0,none⟩ (.int .i64 f)).setCell ⟨w3.heap.size+2,1,none⟩ (.int .i64 j)).setCell ⟨w3.heap.size+2,2,none⟩ (.int .i64 m)).setCell ⟨w3.heap.size+2,3,none⟩ (.string n)) Rs b c0 c1 c2 c3 y ents u l f j m n op:=by
 have p:=h.lo
 have g:∀(X:World) (i:Nat) (v:Value),X.grownBy (X.setCell ⟨w3.heap.size+2,i,none⟩ v) (some (w3.heap.size+2)):=λX i v=>⟨rfl,rfl,rfl,σ,λk _ c=>BD _ _ _ _ (λe=>c (by rw[e]))⟩
 have bs:∀ {X:World},Lib.IsBuilderF 123 5 b b (Lib.byteCells op.data.toList) X->∀i v,Lib.IsBuilderF 123 5 b b (Lib.byteCells op.data.toList) (X.setCell ⟨w3.heap.size+2,i,none⟩ v):=λd i v=>oO d (g _ i v) (λr e=>by cases e;exact .inl p)
 have a:∀ {X:World} {k:Nat} {o:Obj},k≠w3.heap.size+2->X.heap[k]?=some o->∀i v,(X.setCell ⟨w3.heap.size+2,i,none⟩ v).heap[k]?=some o:=λc d i v=>(BD _ _ _ _ c).j d
 have c:b+1≠w3.heap.size+2:=ω
 have d:b+2≠w3.heap.size+2:=ω
 exact⟨h.sl.setWas f j m n,bs (bs (bs (bs h.bu _ _) _ _) _ _) _ _,a c (a c (a c (a c h.g1 _ _) _ _) _ _) _ _,a d (a d (a d (a d h.g2 _ _) _ _) _ _) _ _,h.yb,h.lo⟩
theorem ScN.wrote(h:ScN w3 W Rs b c0 c1 c2 c3 y ents u l wk wl wm wp op){op':ByteArray}(g:Below b W W')(a:Lib.OthersKept 5 (some b) W W')(d:Lib.IsBuilderF 123 5 b b (Lib.byteCells op'.data.toList) W'):ScN w3 W' Rs b c0 c1 c2 c3 y ents u l wk wl wm wp op' :=⟨h.sl.low g h.lo h.yb,d,a _ _ h.g1 σ (by intro c f e;simp at e),a _ _ h.g2 σ (by intro c f e;simp at e),h.yb,h.lo⟩
end
def InS{i:Nat->ByteArray}{p:Nat}{r:Int}{N:Nat}(first:Int)(j:Scd)(q:World)(h:List Nat)(b:Nat)(k m n o:Value)(y:Value)(a:List ByteArray)(u:Nat)(l:Int)(c:List (Pgs i p r N))(W:World):Prop :=∃f g s t d,ScN q W h b k m n o y a (u:Int) l f g s t d/\d.size<=64*c.length/\Chn first j u c f g d (a,(u:Int),l)
def InX{m:Nat->ByteArray}{s:Nat}{w:Int}{N:Nat}(first:Int)(n:Scd)(v:World)(k:List Nat)(b:Nat)(o p q r:Value)(y:Value)(d:List ByteArray)(u:Nat)(l:Int)(c:Code)(f:List (Pgs m s w N))(W:World):Prop :=(c=.exit 0/\(∃g h i j,ScL v W k b o p q r y d (u:Int) l g h i j)/\(Good u f->(d,(u:Int),l)=n)) ∨
 (c=.exit 1/\∃(x:Nat) (z:Value) (a:List ByteArray) (t g h i:Int) (j:ByteArray),ScL v W k b o p q r z a ((x+1:Nat):Int) t g h i j/\x<N/\(Good u f->u<=x/\a.length<=d.length+1/\Chn (S:=m) (frm:=s) (n:=w) (size:=N) first n (x+1) [] g h empty (a,((x+1:Nat):Int),t)))
section
variable {SF:Nat->ByteArray} {fm:Nat} {wd:Int} {N:Nat} {first:Int} {RES:Scd} {w3:World} {Rs:List Nat} {b:Nat} {c0 c1 c2 c3:Value} {y:Value} {ents:List ByteArray} {u:Nat} {l:Int}
theorem InS.own(B:Nat)(h:b<=B):OwnFrom B (λ(c:List (Pgs SF fm wd N)) W=>InS first RES w3 Rs b c0 c1 c2 c3 y ents u l c W):=by
 rintro s X a row ⟨m,n,o,p,k,j,f,g⟩ i d;exact⟨m,n,o,p,k,j.kept i (λr e=>⟨AL h (d r e).1,(d r e).2⟩),f,g⟩
theorem InX.own(B:Nat)(w:b<=B)(p:w3.heap.size<=b)(c:Code):OwnFrom B (λ(j:List (Pgs SF fm wd N)) W=>InX first RES w3 Rs b c0 c1 c2 c3 y ents u l c j W):=by
 rintro s X a row h t v
 have q:∀r,row=some r->b<=r/\∃o:Obj,X.heap[r]?=some o/\o.isCells=false:=λr e=>⟨AL w (v r e).1,(v r e).2⟩
 rcases h with ⟨g,⟨k,m,n,o,i⟩,f⟩|⟨g,x,A,d,z,k,m,n,o,i,r,f⟩
 ·exact .inl ⟨g,⟨k,m,n,o,i.kept p t q⟩,f⟩
 exact .inr ⟨g,x,A,d,z,k,m,n,o,i.kept p t q,r,f⟩
end
theorem qj{F:Fence}{n:Nat}{P:Program}{fn:Func}{tmps:Array Value}{R:Ending->World->Prop}(B:Nat)(Pr:World->Prop)(aB:∀W r,B<=r->W.heap[r]?=some (.deferred (some []))->Pr W->Pr (W.putObj r (.deferred none)))(aA:∀W,Pr W->LeavesIn F n P fn tmps R [] .returning W):∀(Rs:List Nat) (W:World),Rs.Nodup->(∀r∈Rs,B<=r/\W.heap[r]?=some (.deferred (some [])))->Pr W->LeavesInM F n P fn tmps R (Rs.map (λr=>({ target:=.collected r,args:=#[] }:Deferred))) .returning W
 | [],W,_,_,hp=>aA W hp
 | r::Rs,W,hn,hm,hp=>by
  have h0:=hm r (EH ..);refine⟨σ,.inl ⟨r,_,rfl,run_takeDeferred h0.2,?_⟩⟩;have hnr:=List.nodup_cons.1 hn;refine qj B Pr aB aA Rs _ hnr.2 (λq hq=>?_) (aB W r h0.1 h0.2 hp);have h1:=hm q (DS _ hq);exact⟨h1.1,(World.putObj_heap_other (λe:q=r=>hnr.1 (by rw[<-e];exact hq))).j h1.2⟩
def ScF1(w c:World)(RB:Nat)(y:Value)(a:List ByteArray)(u l:Int)(X:World):Prop:=Row X RB [y,.int .i64 u,.int .i64 l]/\X.ownsRow c.heap.size 9 1 y a.length (a.map Value.string)/\Below w.heap.size w X
theorem ScF1.put{w c:World}{RB:Nat}{y:Value}{a:List ByteArray}{u l:Int}(n:w.heap.size<=c.heap.size)(X:World)(r:Nat)(m:c.heap.size<=r)(j:X.heap[r]?=some (.deferred (some [])))(h:ScF1 w c RB y a u l X):ScF1 w c RB y a u l (X.putObj r (.deferred none)):=by
 obtain⟨g,i,f⟩:=h
 have d:∀q,some r=some q->∃o:Obj,X.heap[q]?=some o/\o.isCells=false:=λq e=>by cases e;exact⟨_,j,rfl⟩
 exact⟨kw g (grownBy_putObj' X r _) (λq e=>.inr (d q e)),oZ i (grownBy_putObj' X r _) d,f.I (grownBy_putObj' X r _) f.size (λk e=>by cases e;omega)⟩
theorem ScL.fin{w c:World}{m:List Nat}{M:Nat}{t x z A:Value}{y:Value}{a:List ByteArray}{u l B C D:Int}{E:ByteArray}{RB:Nat}{o p q:Value}(h:ScL c W m M t x z A y a u l B C D E)(j:Row c RB [o,p,q])(f:w.heap.size<=RB)(n:Below w.heap.size w c):ScF1 w c RB y a u l (((W.setCell ⟨RB,0,none⟩ y).setCell ⟨RB,1,none⟩ (.int .i64 u)).setCell ⟨RB,2,none⟩ (.int .i64 l))/\(∀r∈m,c.heap.size<=r/\(((W.setCell ⟨RB,0,none⟩ y).setCell ⟨RB,1,none⟩ (.int .i64 u)).setCell ⟨RB,2,none⟩ (.int .i64 l)).heap[r]?=some (.deferred (some []))):=by
 have g:=j.lt;have s:Row W RB [o,p,q]:=⟨AD g h.be.size,λi v hv=>(CT (a:=⟨_,i,none⟩) (h.be.block _ g)).j (j.cell i v hv),λi d=>(GL (a:=⟨_,i,none⟩) (h.be.block _ g)).j (j.froz i d)⟩
 have k:y.ownBlock≠some RB:=λe=>by have:=h.yo RB e;omega
 refine⟨⟨((s.set 0 σ _).set 1 σ _).set 2 σ _,AQ (AQ (AQ h.own k _) k _) k _,(((n.j (h.be.A n.size)).setCell f _).setCell f _).setCell f _⟩,λr d=>⟨(h.mr r d).1,?_⟩⟩;have i:r≠RB:=by have:=(h.mr r d).1;omega
 rw[BD _ _ _ _ i,BD _ _ _ _ i,BD _ _ _ _ i];exact(h.mr r d).2.2
end
section
open Tryz
open Go.RowKit
theorem yQ(s:ByteArray)(n:Int)(w:World)(c:TypeId)(v:Value)(hv:w.cell? ⟨1,0,none⟩=some (.iface c v))(f:1<w.heap.size):Calls prog 192 #[.string s,.int .i64 n] w λe a=>(∃E,e=.returned (aw E (MI s n)))/\Below w.heap.size w a:=by
 by_cases l:1<=n/\n<=8
 ·obtain⟨m,rfl⟩:∃m:Nat,n=(m:Int):=⟨n.toNat,ω⟩
  by_cases b:s.size=64
  ·obtain⟨j,p,q,r,t⟩:=rJ s m b ω rfl
   have z:(KU s).length=64:=by rw[ME,b]
   have x:=gk s
   have d:∀o k,∀y∈((KU s).drop o).take k,0<=y/\y<=255:=λo k y a=>x y (EU (DM a))
   have k:=ZG 1 _ τ (d (m+7) 1);have e:=ZG 1 _ τ (d m 1);have g:=ZG 2 _ τ (d (m+1) 2);have i:=ZG 4 _ τ (d (m+3) 4);rw[<-j]at k;rw[<-p]at e;rw[<-q]at g;rw[<-r]at i
   by_cases o:rpN (s.extract m 64)+m<=56
   ·have h:=Fq s m _ _ _ _ _ w c v hv f b ω ω j o p q r t e.1 (by have:=e.2;omega) g.1 (by have:=g.2;omega) i.1 (by have:=i.2;omega)
    have u:MI s (m:Int)=if LS (SW (s.extract m 64)) (UF (s.extract m 64)) (UG (s.extract m 64)) (TO (s.extract m 64)) (m:Int)=s then some (SW (s.extract m 64),UF (s.extract m 64),UG (s.extract m 64),TO (s.extract m 64)) else none:=by
     unfold MI;rw[BM]
     by_cases hF:LS (SW (s.extract m 64)) (UF (s.extract m 64)) (UG (s.extract m 64)) (TO (s.extract m 64)) (m:Int)=s
     ·rw[AF hF,AF ⟨ω,ω,b,ω,hF⟩]
     rw[AG hF,AG (λa=>hF a.2.2.2.2)]
    rw[u];exact h
   rw[YV (λa=>o (by have:=a.2.2.2.1;rw[BM]at this;omega))]
   exact zO s m _ w c v hv f b ω ω j ω (by have:=k.2;omega)
  rw[YV (λa=>b a.2.2.1)]
  exact Fd s m w c v hv f l b
 rw[YV (λa=>l ⟨a.1,a.2.1⟩)]
 exact Gc s n w c v hv f l
theorem xZ(e t:Addr)(a:Value)(w:World)(g:w.cell? ⟨0,0,none⟩=some (.iface 263 (.agg #[.pointer (some ⟨3,125,none⟩)])))(f:w.cell? t=some a)(d:w.frozen? t=false)(i:t.block<w.heap.size):Calls prog 193 #[.iface 245 (.pointer (some e)),.iface 247 (.pointer (some t))] w λb c=>b=.returned (.bool true)/\Below t.block w c :=(Ig e t a w g f d).A λb c h=>⟨h.1,by
  rw[h.2]
  exact(((((AC t.block w).alloc ω _).alloc τ _).alloc τ _).alloc τ _).setCell (Y _) _⟩
theorem Ec(t:Value)(w:World):Calls prog 193 #[.nilIface,t] w λe a=>e=.returned (.bool false)/\Below w.heap.size w a :=(Ei t w).A λe a h=>⟨h.1,by rw[h.2];exact AC _ _⟩
theorem RB.past{W w d:World}(h:RB W w){B:Nat}(f:W.heap.size<B)(a:Below B w d):RB W d:=by
 have e:=h.size
 have b:∀i,d.cell? ⟨W.heap.size,i,none⟩=w.cell? ⟨W.heap.size,i,none⟩:=λi=>a.cell (p:=⟨W.heap.size,i,none⟩) (by show W.heap.size<_;omega)
 have c:∀i,d.frozen? ⟨W.heap.size,i,none⟩=w.frozen? ⟨W.heap.size,i,none⟩:=λi=>a.frozen (p:=⟨W.heap.size,i,none⟩) (by show W.heap.size<_;omega)
 exact⟨AL e a.size,h.bel.j (a.A ω),(b _).j h.c0,(b _).j h.c1,(b _).j h.c2,(b _).j h.c3,(c _).j h.f0,(c _).j h.f1,(c _).j h.f2,(c _).j h.f3⟩
theorem tK(s:ByteArray)(n:Int)(w:World)(t:TypeId)(v:Value)(hv:w.cell? ⟨1,0,none⟩=some (.iface t v))(F:w.cell? ⟨0,0,none⟩=some (.iface 263 (.agg #[.pointer (some ⟨3,125,none⟩)])))(G:1<w.heap.size):Calls prog 185 #[.string s,.int .i64 n] w λe a=>e=.returned (VC (MI s n))/\Below w.heap.size w a:=by
 obtain⟨R,u⟩:∃R,Hid (R=MI s n):=⟨_,LN rfl⟩;rw[<-u.l]
 have I:∀o,Below w.heap.size w (w.alloc o):=λo=>KW _ _
 have z:∀o,(w.alloc o).cell? ⟨1,0,none⟩=some (.iface t v):=λo=>(EN _ _ _ (by exact G)).j hv
 have y:Hid (∀a,Below w.heap.size w a->a.cell? ⟨0,0,none⟩=some (.iface 263 (.agg #[.pointer (some ⟨3,125,none⟩)]))):=λa b=>(b.cell (p:=⟨0,0,none⟩) (by show 0<_;omega)).j F
 have f:=λo=>yQ s n (w.alloc o) t v (z o) τ
 rw[<-u.l]at f
 cases R with
 | none =>
  simp only[aw]at f;go_enter func185,ntmps185
  go_wp2_with (first|(go_at_call 192;refine(f _).A ?_;rintro e h ⟨⟨E,rfl⟩,d⟩;have c:=LN ((RB.new w _).z d);clear d)|(go_at_call 193;refine(xZ E ⟨h.heap.size+1,0,none⟩ (.pointer none) _ (y.l _ ((c.l.alloc _).alloc _).bel) γ γ σ).A ?_;rintro e H ⟨rfl,b⟩;have a:=((c.l.alloc _).alloc _).past (B:=h.heap.size+1) (by have:=c.l.size;omega) b;clear b;have j:=a.c0;have o:=a.c1;have q:=a.c2;have r:=a.c3;have A:=a.f0;have B:=a.f1;have C:=a.f2;have D:=a.f3;have i:=LN a;clear a))
  refine AI (v:=.tuple #[NK 0 0 0 ⟨#[]⟩,.bool false]) (by simp[results,results185,go_sem,j,o,q,r]) rfl ⟨rfl,?_⟩;exact(((i.l.bel.setCell (Y _) _).setCell (Y _) _).setCell (Y _) _).setCell (Y _) _
 | some x =>
  obtain⟨k,l,m,p⟩:=x;simp only[aw]at f;go_enter func185,ntmps185
  go_wp2_with (first|(go_at_call 192;refine(f _).A ?_;rintro e h ⟨⟨E,rfl⟩,d⟩;have c:=LN ((RB.new w _).z d);clear d)|(go_at_call 193;refine(Ec _ _).A ?_;rintro e H ⟨rfl,b⟩;have a:=((c.l.alloc _).alloc _).z b;have g:=((uZ h h.heap.size rfl (.int .i64 k) (.int .i64 l) (.int .i64 m) (.string p) _).z (KW _ _) σ).z b ξ;clear b;have K:=g.c0;have L:=g.c1;have M:=g.c2;have N:=g.c3;clear g;have j:=a.c0;have o:=a.c1;have q:=a.c2;have r:=a.c3;have A:=a.f0;have B:=a.f1;have C:=a.f2;have D:=a.f3;have i:=LN a;clear a))
  refine AI (v:=.tuple #[NK k l m p,.bool true]) (by simp[results,results185,go_sem,j,o,q,r]) rfl ⟨rfl,?_⟩;exact(((i.l.bel.setCell (Y _) _).setCell (Y _) _).setCell (Y _) _).setCell (Y _) _
def RG:List (Int×List Int)->List (List Int)->List (List Int)
 | [],ps=>ps
 | x::r,ps=>RG r (ps.set x.1.toNat x.2)
theorem fv:∀(hs:List (Int×List Int)) (ps:List (List Int)),(RG hs ps).length=ps.length
 | [],_=>rfl
 | x::r,ps=>by rw[RG,fv r];simp
theorem pV:∀(hs:List (Int×List Int)) (x:Int×List Int) (ps:List (List Int)),RG (hs++[x]) ps=(RG hs ps).set x.1.toNat x.2
 | [],_,_=>rfl
 | y::r,x,ps=>by rw[DZ,RG,pV r];rfl
theorem zm(a:List (Int×List Int))(b:List (List Int))(k:Nat)(h:k<a.length):RG (a.take (k+1)) b=(RG (a.take k) b).set (a.getD k (0,[])).1.toNat (a.getD k (0,[])).2:=by
 rw[AX h,pV];simp[List.getD,h]
theorem zP(k:Nat)(a:Option Addr)(n c:Nat)(w:World):Sem.run prog (method (k+1) 100 (.slice a n c) "loop.example/kilnstone/impl.read") w=.ok (221,.slice a n c) w:=κ
theorem oU(k:Nat)(v a:Value)(w:World):Sem.run prog (method (k+1) 219 (.agg #[v,a]) "loop.example/kilnstone/impl.read") w=.ok (240,.agg #[v,a]) w:=κ
set_option maxRecDepth 100000 in
theorem rT(a:Option Addr)(f:List (Int×List Int))(c:Nat)(g n q m:Nat)(l:List (List Int))(w:World)(h:Hld w a f)(N:∀p∈f,p.2.length=64)(L:∀p∈f,0<=p.1)(hl:f.length<=300)(K:PR w g l)(T:l.length=n)(S:n<=200)(U:m<n):Calls prog 240 #[.agg #[.slice a f.length c,.iface 100 (.slice (some ⟨g,0,none⟩) n q)],.int .i64 (m:Int)] w λe b=>e=.returned (.tuple #[.agg (((RG f l).getD m []).map (Value.int .u8)).toArray,.bool true])/\Below w.heap.size w b:=by
 obtain⟨d,G⟩:∃d,Hid (d=(RG f l).getD m []):=⟨_,Z rfl⟩;rw[<-G.l]
 have O:∀b i,Below w.heap.size w ((w.alloc b).alloc i):=λb i=>(KW _ _).alloc σ _
 go_enter func240,ntmps240;go_wp2_with fail;obtain⟨F,b⟩:∃F,F=((w.alloc (.cells #[.slice a f.length c,.iface 100 (.slice (some ⟨g,0,none⟩) n q)] 219)).alloc (.cells lq 142)):=⟨_,rfl⟩;have C:=O (.cells #[.slice a f.length c,.iface 100 (.slice (some ⟨g,0,none⟩) n q)] 219) (.cells lq 142);have E:=(Cx.new w (.slice a f.length c) (.iface 100 (.slice (some ⟨g,0,none⟩) n q)) 219).z (MF _ (.cells lq 142));have j:=OI (w.alloc (.cells #[.slice a f.length c,.iface 100 (.slice (some ⟨g,0,none⟩) n q)] 219)) lq 142 (w.heap.size+1) σ;rw[<-b]at C E j;go_loopw [6] (λi wr=>∃k:Nat,k<=f.length/\i=.int .i64 ((k:Int)-1)/\Hid (d=(RG (f.take k) l).getD m [])/\wr=F) (λi _=>((intOf i)+1).toNat)
 case atStart=>exact⟨f.length,Y _,rfl,by show _=_;rw[DA,G.l],by rw[b];kernel_rfl⟩
 case round =>
  obtain⟨k,hk,rfl,z,rfl⟩:=hrel;have W:=E.c0;have X:=E.c1;have I:=Z j;have H:=Z C;clear j b;rcases k with _|j
  ·have o:=K.z C
   have u:=λk=>zP k (some ⟨g,0,none⟩) n q wr
   have p:d.length=64:=by rw[z.l];exact cj K.len (by show m<l.length;omega)
   have t:(d.map (Value.int .u8)).toArray.size=64:=by simp[p]
   have B:Hid ((prog.info? 142).map (·.size)=some (d.map (Value.int .u8)).length):=by show _=_;rw[BP,p];kernel_rfl
   have D:Hid (l.getD m []=d):=z.l.symm;go_wp2_with fail;refine(Gd g n q m l _ o T S U).A ?_;rw[D.l];rintro e v ⟨rfl,b⟩;have s:=(I.l.z b).there (n:=64) κ;have r:=Z (Below.then H.l (Y _) b);clear b o u W X;go_wp2_with (with_reducible refine XC 142 _ _ rfl ?_;refine BI rfl 142 _ _ rfl (w.heap.size+1) 0 (d.map (Value.int .u8)).toArray rfl rfl (by rw[t];exact s) (by rw[t];kernel_rfl) (GA (VR d)) ?_);refine AI (v:=.tuple #[.agg (d.map (Value.int .u8)).toArray,.bool true]) (yu (p:=4) (u:=5) results240 _ _ (w.heap.size+1) 0 rfl (d.map (Value.int .u8)) _ (DY _ _ _ _ (by rw[BP,p];exact s)) underlying142 rfl B.l) rfl ⟨rfl,?_⟩;exact Go.below_setCells ω _ _ _ r.l
  have u:j<f.length:=ω
  obtain⟨b,o,y,x,rfl,bH,r,A⟩:=(h.z C).at u;have p:x.length=64:=N (y,x) (by rw[A.l];simp[List.getD,u]);have P:=r 0 _ rfl;rw[FX]at P;have s:((j+1:Nat):Int)-1=(j:Int):=ω
  rw[s];clear s
  by_cases R:y=(m:Int)
  ·subst R
   have Q:m<(RG (f.take j) l).length:=by rw[fv];omega
   have D:Hid (x=d):=by
    show _=_;rw[z.l,zm f l j u,<-A.l,BM];simp[List.getD,Q]
   rw[D.l]at r p;have t:(d.map (Value.int .u8)).toArray.size=64:=by simp[p]
   have B:Hid ((prog.info? 142).map (·.size)=some (d.map (Value.int .u8)).length):=by show _=_;rw[BP,p];kernel_rfl
   have M:Hid (wr.rangeAt b (o+j*65+1) (d.map (Value.int .u8))):=λi v hv=>by
    have:=r (i+1) v (by simpa using hv);rw[<-this];congr 2;omega
   have s:=I.l.there (n:=64) κ;clear r
   go_wp2_with (first|(with_reducible refine YY 142 _ rfl ?_;refine AS rfl 142 _ rfl b (o+j*65+1) rfl (d.map (Value.int .u8)) _ M.l underlying142 rfl B.l ?_)|(with_reducible refine XC 142 _ _ rfl ?_;refine BI rfl 142 _ _ rfl (w.heap.size+1) 0 (d.map (Value.int .u8)).toArray rfl rfl (by rw[t];exact s) (by rw[t];kernel_rfl) (GA (VR d)) ?_))
   refine AI (v:=.tuple #[.agg (d.map (Value.int .u8)).toArray,.bool true]) (yu (p:=4) (u:=5) results240 _ _ (w.heap.size+1) 0 rfl (d.map (Value.int .u8)) _ (DY _ _ _ _ (by rw[BP,p];exact s)) underlying142 rfl B.l) rfl ⟨rfl,?_⟩;exact Go.below_setCells ω _ _ _ H.l
  have i:Hid (d=(RG (f.take j) l).getD m []):=by
   show _=_;rw[z.l,zm f l j u,<-A.l];have t:0<=y:=L (y,x) (by rw[A.l];simp[List.getD,u]);have s:y.toNat≠m:=ω
   simp[List.getD,GP s]
  clear r;go_wp2;go_roundw
  case rel=>exact⟨j,ω,ν,i,trivial⟩
  case measure=>simp[intOf]
theorem rf:∀(hs:List (Int×List Int)) (ps:List (List Int)),(∀p∈hs,p.2.length=64)->(∀p∈ps,p.length=64)->∀p∈RG hs ps,p.length=64
 | [],ps,_,h=>h
 | x::r,ps,h1,h2=>rf r _ (λp hp=>h1 p (DS _ hp)) (λp hp=>by
  rcases EV hp with h3|h3
  ·exact h2 p h3
  ·rw[h3];exact h1 x (EH ..))
theorem sf:∀(ws:List (Int×ByteArray)) (ss:List ByteArray),ND (RG (LJ ws) (ss.map KU))=xhE ws ss
 | [],ss=>by
  show(ss.map KU).map strOfNums=ss;rw[GW];exact JL (λs=>TI s) ss
 | x::r,ss=>by
  have:=sf r (ss.set x.1.toNat x.2);rw[JT]at this;exact this
section
set_option maxHeartbeats 4000000
@[reducible] def ZD(x:RtT):Value:=NI x.1 x.2.1 x.2.2.1 x.2.2.2
def UK(s:ByteArray)(n:Int):RtT :=match MI s n with
 | none=>MW
 | some (_,l,m,p)=>if p.size=5/\MB m (QV p) (QQ p) l n=s then (m,QV p,QQ p,l) else MW
theorem Hl(s:ByteArray)(n:Int)(w:World)(k l m:Int)(p:ByteArray)(E:MI s n=some (k,l,m,p))(R:∀b,Below w.heap.size w b->Calls prog 185 #[.string s,.int .i64 n] b λe a=>e=.returned (.tuple #[NK k l m p,.bool true])/\Below b.heap.size b a)(D:p.size=5):Calls prog 162 #[.string s,.int .i64 n] w λe a=>e=.returned (ZD (UK s n))/\Below w.heap.size w a:=by
 have N:∀o,Below w.heap.size w (w.alloc o):=λo=>(AC _ _).alloc (Y _) _
 obtain⟨_,_,cS,cT,cP,cQ,cU⟩:=SI E;obtain⟨i,c⟩:∃i,Hid (i=UK s n):=⟨_,LN rfl⟩;obtain⟨H,t⟩:∃H,Hid (H=QV p):=⟨_,LN rfl⟩;obtain⟨F,r⟩:∃F,Hid (F=QQ p):=⟨_,LN rfl⟩;obtain⟨f,K⟩:∃f,Hid (f=MB m H F l n):=⟨_,LN rfl⟩
 have M:Hid (i=if f=s then (m,H,F,l) else MW):=by
  show _=_;rw[c.l,K.l,t.l,r.l];unfold UK;rw[E];simp[D]
 rw[<-c.l];clear E c;have cA:(p.size:Int)=5:=ω
 have bY:(KU p).length=5:=by rw[ME,D]
 have c:=gk p;have g:=ZG 1 ((KU p).take 1) τ (λy d=>c y (DM d));have j:=ZG 4 (((KU p).drop 1).take 4) τ (λy d=>c y (EU (DM d)));have cH:0<=H:=by rw[t.l];exact g.1
 have cI:H<=255:=by rw[t.l];have:=g.2;unfold QV;omega
 have cC:0<=F:=by rw[r.l];exact j.1
 have cE:F<=4294967295:=by rw[r.l];have:=j.2;unfold QQ;omega
 have cJ:IntKind.i64.wrap H=H:=by simp[IntKind.wrap,IntKind.bits,IntKind.signed];omega
 have cF:IntKind.i64.wrap F=F:=by simp[IntKind.wrap,IntKind.bits,IntKind.signed];omega
 obtain⟨d,h⟩:∃d,Hid (d=KU p):=⟨_,LN rfl⟩;have L:Hid (∀y∈d,0<=y/\y<=255):=by rw[h.l];exact c
 have U:Hid (H=MT ((d.drop 0).take 1)):=by show _=_;rw[h.l,FJ];exact t.l
 have T:Hid (F=MT ((d.drop 1).take 4)):=by show _=_;rw[h.l];exact r.l
 rw[<-h.l]at bY;clear c g j
 have B:=λb=>OD m H F l n b
 rw[<-K.l]at B;have bW:=LN (λb=>TV b p);go_enter func162,ntmps162;go_wp2_with (go_at_call 185;refine(R _ (N _)).A ?_;rintro e c ⟨rfl,C⟩;have z:=LN ((B4.new w (.int .i64 0) (.int .i64 0) (.int .i64 0) (.int .i64 0) _).z C);have g:=LN ((N _).j (C.A σ));clear C;obtain⟨q,b,O,v,G,x,S⟩:=bW.l (c.alloc (.cells #[.int .i64 k,.int .i64 l,.int .i64 m,.string p] 119));rw[D]at O S;have j:=(B4.new c (.int .i64 k) (.int .i64 l) (.int .i64 m) (.string p) 119).z v;have I:=LN ((z.l.alloc _).z v);have y:=LN ((g.l.alloc g.l.size _).j (v.A (g.l.alloc g.l.size _).size));have bV:w.heap.size<c.heap.size:=z.l.lt;clear z g v;simp only[BB]at G x O;rw[<-h.l]at x;have u:=LN x;clear x;have p1:=j.c1;have p2:=j.c2;have p3:=j.c3;have A:=LN j;clear j);have bZ:c.heap.size+1<b.heap.size:=ω
 have v:Hid (∀o,Fm (b.alloc o) (c.heap.size+1) d):=λo=>u.l.z ((AC _ _).alloc (Y _) _) bZ
 have cO:(1:Int)<=(q:Int):=ω
 have cL:¬q=1:=ω
 have g:Hid (∀a,Below b.heap.size b a->a.cell? ⟨c.heap.size,1,none⟩=some (.int .i64 l)/\a.cell? ⟨c.heap.size,2,none⟩=some (.int .i64 m)/\Below b.heap.size b a):=λa j=>⟨(A.l.z j).c1,(A.l.z j).c2,j⟩
 refine(λj:Wr ?G=>?main) ⟨?pf⟩
 case main =>
  go_region_held3 (λa=>a.cell? ⟨c.heap.size,1,none⟩=some (.int .i64 l)/\a.cell? ⟨c.heap.size,2,none⟩=some (.int .i64 m)/\Below b.heap.size b a)
   (first|assumption|exact g.l _ ((AC _ _).drew)|exact g.l _ (((AC _ _).drew).alloc (Y _) _)|exact g.l _ (((AC _ _).alloc (Y _) _).drew)|exact g.l _ ((AC _ _).alloc (Y _) _))
   (first
    | (have o:=a;go_at_call 186;refine(cr (c.heap.size+1) d L 1 4 _ ω ω _ (by first|exact u.l.drew|exact(v.l _).drew) F T.l).A ?_;rintro e P ⟨rfl,rfl⟩)
    | (go_at_call 186;refine(cr (c.heap.size+1) d L 0 1 _ ω ω _ (by first|exact u.l.drew|exact(v.l _).drew) H U.l).A ?_;rintro e P ⟨rfl,rfl⟩;have a:=True.intro))
  all_goals exact j.l
 have a:=(B4.new b (.int .i64 m) (.int .i64 H) (.int .i64 F) (.int .i64 l) 28).drew;have j:Below b.heap.size b (b.alloc (.cells #[.int .i64 m,.int .i64 H,.int .i64 F,.int .i64 l] 28)).drew:=((AC _ _).alloc (Y _) _).drew;obtain⟨Q,o⟩:∃Q,Q=(b.alloc (.cells #[.int .i64 m,.int .i64 H,.int .i64 F,.int .i64 l] 28)).drew:=⟨_,rfl⟩;rw[G]at a;rw[<-o]at a j⊢;have X:=LN (I.l.z j);have x:=LN (y.l.j (j.A (by have:=y.l.size;omega)));have W:=LN a;clear o g j I y A u v p1 p2 p3;have q0:=a.c0;have q1:=a.c1;have q2:=a.c2;have q3:=a.c3;clear a
 by_cases a:f=s
 focus
  have o:Hid (i=(m,H,F,l)):=by show _=_;rw[M.l,AF a]
  have I:=LN a;clear a;rw[I.l]at B
 rotate_left
 focus
  have o:Hid (i=MW):=by show _=_;rw[M.l,AG a]
  have hG:(!f.toList == s.toList)=true:=by simp only[JB,ET];intro C;rw[DF,DF]at C;exact a (EP (IU C))
  clear a
 rotate_left
 all_goals
  go_wp2_with (first|(go_at_call 168;refine(B _).A ?_;rintro e P ⟨rfl,j⟩;have a:=X.l.z j;have g:=W.l.z j;have u:=LN (x.l.j (j.A x.l.size));clear j;have v:=a.c0;have y:=a.c1;have z:=a.c2;have A:=a.c3;have f0:=a.f0;have f1:=a.f1;have f2:=a.f2;have f3:=a.f3;have r0:=g.c0;have r1:=g.c1;have r2:=g.c2;have r3:=g.c3;clear a g))
 ·refine AI (v:=NI m H F l) (by simp[results,results162,go_sem,v,y,z,A]) rfl ⟨by rw[o.l],?_⟩
  exact(((u.l.setCell (Y _) _).setCell (Y _) _).setCell (Y _) _).setCell (Y _) _
 refine AI (v:=NI 0 0 0 0) (by simp[results,results162,go_sem,v,y,z,A]) rfl ⟨by rw[o.l];rfl,?_⟩
 exact(((u.l.setCell (Y _) _).setCell (Y _) _).setCell (Y _) _).setCell (Y _) _
theorem pA(s:ByteArray)(n:Int)(w:World)(k l m:Int)(p:ByteArray)(b:Bool)(i:∀a,Below w.heap.size w a->Calls prog 185 #[.string s,.int .i64 n] a λe c=>e=.returned (.tuple #[NK k l m p,.bool b])/\Below a.heap.size a c)(v:p.size<=64)(g:b=false\/p.size≠5)(j:Hid (UK s n=MW)):Calls prog 162 #[.string s,.int .i64 n] w λe c=>e=.returned (ZD (UK s n))/\Below w.heap.size w c:=by
 have f:∀o,Below w.heap.size w (w.alloc o):=λo=>(AC _ _).alloc (Y _) _
 cases b
 focus
  focus
  rotate_left
 rotate_left
 focus
  focus
   have u:((p.size:Int) != 5)=true:=by
    have h:=g.resolve_left σ;simp;omega
  rotate_left
 rotate_left
 all_goals
  clear g;go_enter func162,ntmps162;go_wp2_with (go_at_call 185;refine(i _ (f _)).A ?_;rintro e B ⟨rfl,c⟩;have a:=LN ((B4.new w (.int .i64 0) (.int .i64 0) (.int .i64 0) (.int .i64 0) _).z c);have d:=LN ((f _).j (c.A σ));clear c;have h:=λo=>(a.l.alloc o).c0;have q:=λo=>(a.l.alloc o).c1;have r:=λo=>(a.l.alloc o).c2;have t:=λo=>(a.l.alloc o).c3;have x:=λo=>(a.l.alloc o).f0;have y:=λo=>(a.l.alloc o).f1;have z:=λo=>(a.l.alloc o).f2;have A:=λo=>(a.l.alloc o).f3);refine AI (v:=NI 0 0 0 0) (by simp[results,results162,go_sem,h,q,r,t]) rfl ⟨by rw[j.l];rfl,?_⟩;exact((((d.l.alloc d.l.size _).setCell (Y _) _).setCell (Y _) _).setCell (Y _) _).setCell (Y _) _
theorem Hc(s:ByteArray)(n:Int)(w:World)(d:TypeId)(v:Value)(hv:w.cell? ⟨1,0,none⟩=some (.iface d v))(f:w.cell? ⟨0,0,none⟩=some (.iface 263 (.agg #[.pointer (some ⟨3,125,none⟩)])))(g:1<w.heap.size):Calls prog 162 #[.string s,.int .i64 n] w λe a=>e=.returned (ZD (UK s n))/\Below w.heap.size w a:=by
 have a:=λwx (c:Below w.heap.size w wx)=>tK s n wx d v ((c.cell (p:=⟨1,0,none⟩) g).j hv) ((c.cell (p:=⟨0,0,none⟩) (by show 0<_;omega)).j f) (by have:=c.size;omega)
 cases hR:MI s n with
 | none =>
  rw[hR]at a;exact pA s n w 0 0 0 ⟨#[]⟩ false a δ (.inl rfl) (by show _=_;unfold UK;rw[hR])
 | some x =>
  obtain⟨k,l,m,p⟩:=x;rw[hR]at a
  by_cases b:p.size=5
  ·exact Hl s n w k l m p hR a b
  exact pA s n w k l m p true a (SI hR).2.2.2.2.2.2 (.inr b) (by show _=_;unfold UK;rw[hR];simp[b])
theorem Jh(x:RtT)(w:World)(h:0<=x.1):Calls prog 163 #[ZD x] w λe a=>e=.returned (.int .i64 (x.1 % 2))/\Below w.heap.size w a:=by
 obtain⟨t,a,b,c⟩:=x;go_enter func163,ntmps163;go_wp2;go_ret;refine⟨?_,(AC _ _).alloc (Y _) _⟩;have:t.tmod 2=t % 2:=DW h
 first|rfl|simp[this]
theorem Ix(s:ByteArray)(a n:Int)(d:a=0\/a=1):(if (UK s n).1 % 2=a then UK s n else MW)=(MU s a n).getD MW:=by
 unfold UK MU
 cases MI s n with
 | none=>exact ite_self _
 | some x =>
  obtain⟨k,l,m,p⟩:=x
  by_cases b:p.size=5/\MB m (QV p) (QQ p) l n=s
  ·by_cases c:m % 2=a
   ·simp[b.1,b.2,c]
   simp[b.1,b.2,c]
  simp only[AG b]
  have c:¬(p.size=5/\MB m (QV p) (QQ p) l n=s/\m % 2=a):=λh=>b ⟨h.1,h.2.1⟩
  rw[AG c];exact ite_self _
theorem wN(s:ByteArray)(n:Int):0<=(UK s n).1:=by
 unfold UK
 cases h:MI s n with
 | none=>simp[MW]
 | some x =>
  obtain⟨k,l,m,p⟩:=x;have:=(SI h).2.2.1;show 0<=(if p.size=5/\MB m (QV p) (QQ p) l n=s then (m,QV p,QQ p,l) else MW).1
  split
  ·show 0<=m;omega
  simp[MW]
theorem Ea(s u:Value)(x:List Int)(a n:Int)(w:World)(ha:a=0\/a=1)(m:x.length=64)
  (C:∀b,Below w.heap.size w b->Calls prog 240 #[.agg #[s,u],.int .i64 a] b λe c=>e=.returned (.tuple #[.agg (x.map (Value.int .u8)).toArray,.bool true])/\Below b.heap.size b c)
  (N:TypeId)(v:Value)(hv:w.cell? ⟨1,0,none⟩=some (.iface N v))(K:w.cell? ⟨0,0,none⟩=some (.iface 263 (.agg #[.pointer (some ⟨3,125,none⟩)])))(hg:1<w.heap.size):Calls prog 128 #[.iface 219 (.agg #[s,u]),.int .i64 a,.int .i64 n] w λe c=>e=.returned (ZD ((MU (strOfNums x) a n).getD MW))/\Below w.heap.size w c:=by
 have E:∀o,Below w.heap.size w (w.alloc o):=λo=>(AC _ _).alloc (Y _) _
 rw[<-Ix _ a n ha]
 have c:=λb (r:Below w.heap.size w b)=>Hc (strOfNums x) n b N v ((r.cell (p:=⟨1,0,none⟩) hg).j hv) ((r.cell (p:=⟨0,0,none⟩) (by show 0<_;omega)).j K) (by have:=r.size;omega)
 have y:=wN (strOfNums x) n;obtain⟨o,d⟩:∃o,UK (strOfNums x) n=o:=⟨_,rfl⟩;rw[d]at c y⊢;clear d hv K;obtain⟨t,h,f,l⟩:=o;have bJ:(x.map (Value.int .u8)).toArray.size=64:=by simp[m]
 have O:Hid ((prog.info? 142).map (·.size)=some (x.map (Value.int .u8)).length):=by show _=_;rw[BP,m];kernel_rfl
 have d:=λk b=>oU k s u b
 obtain⟨M,D⟩:∃M,Hid (M=strOfNums x):=⟨_,Z rfl⟩;rw[<-D.l]at c;have W:=Z (λb=>Jh (t,h,f,l) b y);have Q:=Z c;have P:=Z C;clear c C
 by_cases L:t % 2=a
 focus
  have c:(if ((t,h,f,l):RtT).1 % 2=a then ((t,h,f,l):RtT) else MW)=(t,h,f,l):=AF L
 rotate_left
 focus
  have c:(if ((t,h,f,l):RtT).1 % 2=a then ((t,h,f,l):RtT) else MW)=MW:=AG L
 rotate_left
 all_goals
  rw[c];clear c;go_enter func128,ntmps128;go_wp2_with fail;refine(P.l _ (E _)).A ?_;rintro e w2 ⟨rfl,c⟩;have R:=Z ((B4.new w (.int .i64 0) (.int .i64 0) (.int .i64 0) (.int .i64 0) 28).z c);have A:=Z ((E (.cells #[.int .i64 0,.int .i64 0,.int .i64 0,.int .i64 0] 28)).j (c.A σ));clear c d
  go_wp2_with (first
   | (with_reducible refine XC 142 _ _ rfl ?_;refine dp rfl 142 _ _ rfl (x.map (Value.int .u8)) (VR x) rfl rfl _ _ (by rw[BP,m];kernel_rfl) O.l ?_;intro b z q bI;have X:=z.text (P:=prog) x 0 64 64 m (λi hi=>by simp[List.getD,show i<x.length by omega]) 22 5 9 underlying22 underlying5 underlying9;rw[<-D.l]at X;have U:=Z (R.l.z q);have k:=Z (A.l.j (q.A A.l.size));clear q bI z)
   | (go_at_call 162;refine(Q.l _ k.l).A ?_;rintro e w3 ⟨rfl,p⟩;have S:=Z (U.l.z p);have g:=Z (k.l.j (p.A k.l.size));clear p)
   | (go_at_call 163;refine(W.l _).A ?_;rintro e w4 ⟨rfl,j⟩;have T:=Z ((S.l.alloc _).z j);have d:=(B4.new w3 (.int .i64 t) (.int .i64 h) (.int .i64 f) (.int .i64 l) 28).z j;have B:=Z ((g.l.alloc g.l.size _).j (j.A (g.l.alloc g.l.size _).size));clear j;have r0:=d.c0;have r1:=d.c1;have r2:=d.c2;have r3:=d.c3;clear d;have c:=T.l;have F:=c.c0;have G:=c.c1;have H:=c.c2;have I:=c.c3;have f0:=c.f0;have f1:=c.f1;have f2:=c.f2;have f3:=c.f3;clear c))
 ·refine AI (v:=NI t h f l) (by simp[results,results128,go_sem,F,G,H,I]) rfl ⟨rfl,?_⟩
  exact(((B.l.setCell (Y _) _).setCell (Y _) _).setCell (Y _) _).setCell (Y _) _
 refine AI (v:=NI 0 0 0 0) (by simp[results,results128,go_sem,F,G,H,I]) rfl ⟨rfl,?_⟩
 exact(((B.l.setCell (Y _) _).setCell (Y _) _).setCell (Y _) _).setCell (Y _) _
theorem Ia(a:Option Addr)(d:List ByteArray)(c:Nat)(g:Option Addr)(f:List (Int×ByteArray))(j:Nat)(n:Int)(w:World)(h:Strs w a d)(u:Wrs w g f)(v:d.length<=1048576)(o:f.length<=1048576)(y:∀s∈d,s.size<=1048576)(p:∀x∈f,x.2.size<=1048576)(l:¬(LG d f=true/\1<=n/\n<=8)):Calls prog 93 #[LE a d.length c g f.length j,.int .i64 n] w λe b=>e=.returned (NI 0 0 0 0)/\Below w.heap.size w b:=by
 have k:∀b i,Below w.heap.size w ((w.alloc b).alloc i):=λb i=>((AC _ _).alloc (Y _) _).alloc σ _
 cases hok:LG d f
 focus
  clear l;go_enter func93,ntmps93;go_wp2_with fail;refine(WD a d c g f j _ (h.z (k _ _)) (u.z (k _ _)) v o y p).A ?_;rw[hok];rintro e E ⟨rfl,i⟩;have b:=((B4.new (w.alloc (.cells #[.slice a d.length c,.slice g f.length j] 26)) (.int .i64 0) (.int .i64 0) (.int .i64 0) (.int .i64 0) 28).z i);rw[BB]at b;have m:=Z ((k (.cells #[.slice a d.length c,.slice g f.length j] 26) (.cells #[.int .i64 0,.int .i64 0,.int .i64 0,.int .i64 0] 28)).j (i.A ξ));clear i;have q:=b.c0;have r:=b.c1;have s:=b.c2;have t:=b.c3;have z:=b.f0;have A:=b.f1;have B:=b.f2;have C:=b.f3;clear b;go_wp2
 rotate_left
 focus
  have D:decide (1<=n/\n<=8)=false:=AJ (λx=>l ⟨hok,x⟩);clear l;go_enter func93,ntmps93;go_wp2_with fail;refine(WD a d c g f j _ (h.z (k _ _)) (u.z (k _ _)) v o y p).A ?_;rw[hok];rintro e E ⟨rfl,i⟩;have b:=((B4.new (w.alloc (.cells #[.slice a d.length c,.slice g f.length j] 26)) (.int .i64 0) (.int .i64 0) (.int .i64 0) (.int .i64 0) 28).z i);rw[BB]at b;have m:=Z ((k (.cells #[.slice a d.length c,.slice g f.length j] 26) (.cells #[.int .i64 0,.int .i64 0,.int .i64 0,.int .i64 0] 28)).j (i.A ξ));clear i;have q:=b.c0;have r:=b.c1;have s:=b.c2;have t:=b.c3;have z:=b.f0;have A:=b.f1;have B:=b.f2;have C:=b.f3;clear b
  go_wp2_with (first|(go_at_call 45;refine(RX _ _).A ?_;rw[D];rintro e i ⟨rfl,b⟩;rw[b];clear b i))
 rotate_left
 all_goals
  refine AI (v:=NI 0 0 0 0) (by simp[results,results93,go_sem,q,r,s,t]) rfl ⟨rfl,?_⟩;exact(((m.l.setCell (by show _<=w.heap.size+1;omega) _).setCell (by show _<=w.heap.size+1;omega) _).setCell (by show _<=w.heap.size+1;omega) _).setCell (by show _<=w.heap.size+1;omega) _
theorem xJ(a:Option Addr)(j:List ByteArray)(c:Nat)(D:Option Addr)(d:List (Int×ByteArray))(H:Nat)(n:Int)(w:World)(h:Strs w a j)(h':Wrs w D d)(hl:j.length<=1048576)(dU:d.length<=1048576)(hs:∀s∈j,s.size<=1048576)(eB:∀x∈d,x.2.size<=1048576)(ty:TypeId)(v:Value)(hv:w.cell? ⟨1,0,none⟩=some (.iface ty v))(I:w.cell? ⟨0,0,none⟩=some (.iface 263 (.agg #[.pointer (some ⟨3,125,none⟩)])))(hg:1<w.heap.size)(S:LG j d=true)(hn:1<=n/\n<=8):Calls prog 93 #[LE a j.length c D d.length H,.int .i64 n] w λe t=>e=.returned (ZD (MG j d n))/\Below w.heap.size w t:=by
 have R:∀b f,Below w.heap.size w ((w.alloc b).alloc f):=λb f=>((AC _ _).alloc (Y _) _).alloc σ _
 have hd:decide (1<=n/\n<=8)=true:=AM hn;obtain⟨u,aH⟩:∃u,Hid (u=MG j d n):=⟨_,Z rfl⟩;rw[<-aH.l];obtain⟨⟨eJ,cJ,cL⟩,dM,hw⟩:=PA S;go_enter func93,ntmps93;go_wp2_with fail;refine(WD a j c D d H _ (h.z (R _ _)) (h'.z (R _ _)) hl dU hs eB).A ?_;rw[S];rintro e w1 ⟨rfl,b⟩;have l:=Z ((((Cx.new w (.slice a j.length c) (.slice D d.length H) 26)).z (MF _ (.cells #[.int .i64 0,.int .i64 0,.int .i64 0,.int .i64 0] 28))).z b);have f:=((B4.new (w.alloc (.cells #[.slice a j.length c,.slice D d.length H] 26)) (.int .i64 0) (.int .i64 0) (.int .i64 0) (.int .i64 0) 28).z b);rw[BB]at f;have G:=Z f;have i:=Z ((R (.cells #[.slice a j.length c,.slice D d.length H] 26) (.cells #[.int .i64 0,.int .i64 0,.int .i64 0,.int .i64 0] 28)).j (b.A ξ));clear b f;have f:=l.l.c0;have k:=l.l.c1
 go_wp2_with (first|(go_at_call 45;refine(RX _ _).A ?_;rw[hd];rintro e g ⟨rfl,b⟩;rw[b];clear b g))
 refine(gq a j c D d H _ (h.z i.l) (h'.z i.l) cJ cL (λs hs=>by have:=dM s hs;omega) (λx hx=>by have:=AU (hw x hx);omega)).A ?_;rintro e w2 ⟨g,vv,rfl,y,m,eI,b⟩;clear f k
 obtain⟨E,z,eF,p⟩:∃E z,vv=.slice E (LJ d).length z/\OwnS w2 E (NQ (LJ d)):=by
  rw[QH];rcases MO m with ⟨e,I⟩|⟨B,k,e,o,C,f⟩
  ·have:d=[]:=AB I
   subst this;exact⟨none,0,e,.inl rfl⟩
  exact⟨_,k,e,.inr ⟨B,rfl,f⟩⟩
 subst eF;have F:=Z (Below.then i.l (Y _) b);have K:=Z (G.l.z b);clear b m;go_wp2_with fail;refine(rdr _ _ _ _ _ _ _).A ?_;rintro e q ⟨rfl,b⟩;have k:=Z (Below.then F.l (Y _) b);have r:=Z (K.l.z b);have o:=Z (y.z b);have s:=Z (p.z b);clear y p b
 have L:∀p∈LJ d,p.2.length=64:=λp b=>by
  obtain⟨x,hx,rfl⟩:=DL.1 b;have:=AU (hw x hx);show(KU x.2).length=64;rw[ME];omega
 have A:Hld q E (LJ d):=by
  rcases s.l with I|⟨B,rfl,C⟩
  ·refine .inl (AB ?_)
   have:=BY List.length I;rw[td _ L,AR]at this;omega
  exact C.hld L
 obtain⟨X,dL⟩:∃X:Nat->List Int,Hid (X=λm=>(RG (LJ d) (j.map KU)).getD m []):=⟨_,Z rfl⟩
 have Q:Hid (∀m:Nat,X m=(RG (LJ d) (j.map KU)).getD m []):=λm=>by rw[dL.l]
 have dH:Hid (∀m:Nat,m<2->(X m).length=64):=λm C=>by
  rw[Q.l];exact cj (rf _ _ L o.l.len) (by rw[fv];simp;omega)
 have cE:Hid (∀m:Nat,m<2->∀f,Below q.heap.size q f->Calls prog 240 #[.agg #[.slice E (LJ d).length z,.iface 100 (.slice (some ⟨g,0,none⟩) j.length j.length)],.int .i64 (m:Int)] f λe t=>e=.returned (.tuple #[.agg ((X m).map (Value.int .u8)).toArray,.bool true])/\Below f.heap.size f t):=λm C f B=>by
  rw[Q.l];exact rT E (LJ d) z g j.length j.length m (j.map KU) f (A.z B) L (λp b=>by obtain⟨y,t,rfl⟩:=DL.1 b;exact(AU (hw y t)).1) (by rw[QH];exact cL) (o.l.z B) σ cJ ω
 have HF:Hid (u=if QL (QL MW ((MU (strOfNums (X 0)) 0 n).getD MW)) ((MU (strOfNums (X 1)) 1 n).getD MW)=MW then ((0,0,1,0):RtT) else QL (QL MW ((MU (strOfNums (X 0)) 0 n).getD MW)) ((MU (strOfNums (X 1)) 1 n).getD MW)):=by
  show _=_
  have b:∀m:Nat,m<2->strOfNums (X m)=(xhE d j).getD m empty:=λm C=>by
   have p:m<(RG (LJ d) (j.map KU)).length:=by rw[fv];simp;omega
   rw[Q.l,<-sf];simp[ND,List.getD,p]
  rw[b 0 ω,b 1 ω,B5,aH.l];unfold MG;rw[AF ⟨S,hn⟩]
 obtain⟨W,cV⟩:∃W,Hid (W=Value.iface 100 (.slice (some ⟨g,0,none⟩) j.length j.length)):=⟨_,Z rfl⟩;rw[<-cV.l]at cE⊢;clear s o A G K i F l;have eG:w.heap.size<=q.heap.size:=k.l.size;have aX:=r.l.lt;obtain⟨G,bI⟩:∃G,Hid (G=(MU (strOfNums (X 0)) 0 n).getD MW):=⟨_,Z rfl⟩;obtain⟨K,bJ⟩:∃K,Hid (K=(MU (strOfNums (X 1)) 1 n).getD MW):=⟨_,Z rfl⟩;rw[<-bI.l,<-bJ.l]at HF;have cY:=Z (λf (B:Below w.heap.size w f)=>((B.cell (p:=⟨1,0,none⟩) hg).j hv));have cW:=Z (λf (B:Below w.heap.size w f)=>((B.cell (p:=⟨0,0,none⟩) (by show 0<_;omega)).j I));clear hv I;go_wp2_with fail;have i:=B4.new q (.int .i64 0) (.int .i64 0) (.int .i64 0) (.int .i64 0) 28;have b:Below q.heap.size q (q.alloc (.cells #[.int .i64 0,.int .i64 0,.int .i64 0,.int .i64 0] 28)):=(AC _ _).alloc (Y _) _;have eC:(q.alloc (.cells #[.int .i64 0,.int .i64 0,.int .i64 0,.int .i64 0] 28)).heap.size=q.heap.size+1:=σ
 obtain⟨wb,l⟩:∃wb,wb=q.alloc (.cells #[.int .i64 0,.int .i64 0,.int .i64 0,.int .i64 0] 28):=⟨_,rfl⟩;rw[<-l]at i b eC⊢;have cU:=Z i;have cT:=Z b;have cZ:=Z (r.l.z b);have bU:=Z (k.l.j (b.A k.l.size));clear l i b r k;go_loopw [21] (λi wr=>∃(k:Nat) (b:RtT),k<=2/\i=.int .i64 (k:Int)/\Hid ((k=0->b=MW)/\(k=1->b=QL MW G)/\(k=2->b=QL (QL MW G) K))/\Below q.heap.size wb wr/\B4 wr q.heap.size (.int .i64 b.1) (.int .i64 b.2.1) (.int .i64 b.2.2.1) (.int .i64 b.2.2.2)) (λi _=>2-(intOf i).toNat)
 case atStart=>exact⟨0,MW,ω,rfl,⟨λ_=>rfl,λh=>absurd h δ,λh=>absurd h δ⟩,AC _ _,cU.l⟩
 case round =>
  obtain⟨k,⟨b0,p,s,y⟩,hk,rfl,N,A,F⟩:=hrel;have aF:=Z A;have aG:=Z F;have eH:=A.size
  by_cases cI:k<2
  ·have dV:(k:Int)<2:=ω
   have M:=Z (bU.l.j (A.A ω));have cA:=Z (cT.l.j (A.A (Y _)));clear A F;obtain⟨r,P⟩:∃r:RtT,Hid (r=(MU (strOfNums (X k)) (k:Int) n).getD MW):=⟨_,Z rfl⟩
   have bW:Hid (∀i:RtT,i=QL (b0,p,s,y) r->(k+1=0->i=MW)/\(k+1=1->i=QL MW G)/\(k+1=2->i=QL (QL MW G) K)):=λi l=>by
    refine⟨λh=>absurd h ω,λh=>?_,λh=>?_⟩
    ·have i:k=0:=ω
     subst i;rw[l,N.l.1 rfl,P.l,bI.l];rfl
    have i:k=1:=ω
    subst i;rw[l,N.l.2.1 rfl,P.l,bJ.l];rfl
   have O:=Z (Ea (.slice E (LJ d).length z) W (X k) (k:Int) n wr ω (dH.l k cI) (λf B=>cE.l k cI f (cA.l.j (B.A (by have:=cA.l.size;omega)))) ty v (cY.l _ M.l) (cW.l _ M.l) (by have:=M.l.size;omega));rw[<-P.l]at O;obtain⟨t,h9,f,l⟩:=r;go_wp2_with fail;refine O.l.A ?_;rintro e w5 ⟨rfl,o⟩;have cS:=Z (aF.l.j (o.A ω));have i:=Z (aG.l.z o);have eK:=o.size;clear o aF aG O
   have O:=λo=>(i.l.alloc o).c0
   have T:=λo=>(i.l.alloc o).c1
   have z:=λo=>(i.l.alloc o).c2
   have U:=λo=>(i.l.alloc o).c3
   have f0:=λo=>(i.l.alloc o).f0
   have f1:=λo=>(i.l.alloc o).f1
   have f2:=λo=>(i.l.alloc o).f2
   have f3:=λo=>(i.l.alloc o).f3
   have bT:=Z (λo=>cS.l.alloc ω o)
   by_cases cH:b0<t
   ·have C:=bW.l (t,h9,f,l) (by simp[QL,cH])
    have o:=Z C;clear C;go_wp2;go_roundw
    case rel=>exact⟨k+1,(t,h9,f,l),ω,ν,o.l,((((bT.l _).setCell (Y _) _).setCell (Y _) _).setCell (Y _) _).setCell (Y _) _,(i.l.alloc _).set4 _ _ _ _⟩
    case measure=>simp[intOf];omega
   have C:=bW.l (b0,p,s,y) (by simp[QL,cH])
   have o:=Z C;clear C;go_wp2;go_roundw
   case rel=>exact⟨k+1,(b0,p,s,y),ω,ν,o.l,bT.l _,i.l.alloc _⟩
   case measure=>simp[intOf];omega
  have r:k=2:=ω
  subst r
  have i:Hid (u=if ((b0,p,s,y):RtT)=MW then (0,0,1,0) else (b0,p,s,y)):=by
   show _=_;rw[HF.l,<-N.l.2.2 rfl]
  have f:=cZ.l.past (N:=q.heap.size) aX A;have O:=f.c0;have T:=f.c1;have z:=f.c2;have U:=f.c3;have f0:=f.f0;have f1:=f.f1;have f2:=f.f2;have f3:=f.f3;have P:=F.c0;have d1:=F.c1;have d2:=F.c2;have d3:=F.c3;have o:=Z (bU.l.j (A.A ω));clear f A F
  by_cases f:((b0,p,s,y):RtT)=MW
  ·have l:Hid (u=(0,0,1,0)):=by show _=_;rw[i.l,AF f]
   have t:b0=0:=BY (λx:RtT=>x.1) f;have A:p=0:=BY (λx:RtT=>x.2.1) f;have F:s=0:=BY (λx:RtT=>x.2.2.1) f;have M:y=0:=BY (λx:RtT=>x.2.2.2) f;clear f i;subst t A F M;go_wp2;refine AI (v:=NI 0 0 1 0) (by simp[results,results93,go_sem,O,T,z,U]) rfl ⟨by rw[l.l],?_⟩;exact(((o.l.setCell (by show _<=w.heap.size+1;omega) _).setCell (by show _<=w.heap.size+1;omega) _).setCell (by show _<=w.heap.size+1;omega) _).setCell (by show _<=w.heap.size+1;omega) _
  have l:Hid (u=(b0,p,s,y)):=by show _=_;rw[i.l,AG f]
  have t:¬(b0=0/\p=0/\s=0/\y=0):=λh=>f (by rw[h.1,h.2.1,h.2.2.1,h.2.2.2];rfl)
  clear f i;go_wp2
  all_goals first
   | (exfalso;omega)
   | (refine AI (v:=NI b0 p s y) (by simp[results,results93,go_sem,O,T,z,U]<;>omega) rfl ⟨by rw[l.l],?_⟩;exact(((o.l.setCell (by show _<=w.heap.size+1;omega) _).setCell (by show _<=w.heap.size+1;omega) _).setCell (by show _<=w.heap.size+1;omega) _).setCell (by show _<=w.heap.size+1;omega) _)
theorem Hr(a:Option Addr)(b:List ByteArray)(c:Nat)(f:Option Addr)(d:List (Int×ByteArray))(i:Nat)(n:Int)(w:World)(h:Strs w a b)(l:Wrs w f d)(m:b.length<=1048576)(j:d.length<=1048576)(o:∀s∈b,s.size<=1048576)(k:∀x∈d,x.2.size<=1048576)(p:TypeId)(v:Value)(hv:w.cell? ⟨1,0,none⟩=some (.iface p v))(q:w.cell? ⟨0,0,none⟩=some (.iface 263 (.agg #[.pointer (some ⟨3,125,none⟩)])))(r:1<w.heap.size):Calls prog 93 #[LE a b.length c f d.length i,.int .i64 n] w λe g=>e=.returned (ZD (MG b d n))/\Below w.heap.size w g:=by
 by_cases g:LG b d=true/\1<=n/\n<=8
 ·exact xJ a b c f d i n w h l m j o k p v hv q r g.1 g.2
 have e:MG b d n=MW:=by unfold MG;rw[AG g]
 rw[e];exact Ia a b c f d i n w h l m j o k g
end
section
set_option maxHeartbeats 4000000
theorem Dv(h j:Value)(x:List Int)(a c n:Int)(m:Int)(w:World)(o:x.length=64)(bE:IntKind.i64.wrap (a+m)=a+m)
  (C:∀d,Below w.heap.size w d->Calls prog 240 #[.agg #[h,j],.int .i64 (a+m)] d λe b=>e=.returned (.tuple #[.agg (x.map (Value.int .u8)).toArray,.bool true])/\Below d.heap.size d b)
  (F:TypeId)(v:Value)(hv:w.cell? ⟨1,0,none⟩=some (.iface F v))(E:w.cell? ⟨0,0,none⟩=some (.iface 263 (.agg #[.pointer (some ⟨3,125,none⟩)])))(W:1<w.heap.size):Calls prog 165 #[jc h j a c n,.int .i64 m] w λe b=>e=.returned (VC (MI (strOfNums x) n))/\Below w.heap.size w b:=by
 have D:∀b d,Below w.heap.size w ((w.alloc b).alloc d):=λb d=>(KW _ _).alloc σ _
 have t:=Z (λd (z:Below w.heap.size w d)=>tK (strOfNums x) n d F v ((z.cell (p:=⟨1,0,none⟩) W).j hv) ((z.cell (p:=⟨0,0,none⟩) (by show 0<_;omega)).j E) (by have:=z.size;omega))
 obtain⟨k,l,q,p,b,e⟩:∃k l q p b,VC (MI (strOfNums x) n)=.tuple #[NK k l q p,.bool b]:=by
  cases MI (strOfNums x) n with
  | none=>exact⟨_,_,_,_,_,rfl⟩
  | some y=>obtain⟨k,l,q,p⟩:=y;exact⟨_,_,_,_,_,rfl⟩
 rw[e]at t⊢;clear e hv E;have bG:(x.map (Value.int .u8)).toArray.size=64:=by simp[o]
 have G:Hid ((prog.info? 142).map (·.size)=some (x.map (Value.int .u8)).length):=by show _=_;rw[BP,o];kernel_rfl
 have i:=λk d=>oU k h j d
 obtain⟨y,u⟩:∃y,Hid (y=strOfNums x):=⟨_,Z rfl⟩;rw[<-u.l]at t;have H:=Z C;clear C;go_enter func165,ntmps165;go_wp2_with fail;refine(H.l _ (D _ _)).A ?_;rintro e X ⟨rfl,f⟩;have I:=Z (((B4.new w (.iface 219 (.agg #[h,j])) (.int .i64 a) (.int .i64 c) (.int .i64 n) 186).alloc (.cells #[.int .i64 0,.int .i64 0,.int .i64 0,.string empty] 119)).z f);have g:=(B4.new (w.alloc (.cells #[.iface 219 (.agg #[h,j]),.int .i64 a,.int .i64 c,.int .i64 n] 186)) (.int .i64 0) (.int .i64 0) (.int .i64 0) (.string empty) 119).z f;rw[BB]at g;have L:=Z g;have B:=Z ((D (.cells #[.iface 219 (.agg #[h,j]),.int .i64 a,.int .i64 c,.int .i64 n] 186) (.cells #[.int .i64 0,.int .i64 0,.int .i64 0,.string empty] 119)).j (f.A ξ));clear f i g
 go_wp2_with (first
   | (with_reducible refine XC 142 _ _ rfl ?_;refine dp rfl 142 _ _ rfl (x.map (Value.int .u8)) (VR x) rfl rfl _ _ (by rw[BP,o];kernel_rfl) G.l ?_;intro d r g N;have M:=r.text (P:=prog) x 0 64 64 o (λi O=>by simp[List.getD,show i<x.length by omega]) 22 5 9 underlying22 underlying5 underlying9;rw[<-u.l]at M;have A:=r.drew.text (P:=prog) x 0 64 64 o (λi O=>by simp[List.getD,show i<x.length by omega]) 22 5 9 underlying22 underlying5 underlying9;rw[<-u.l]at A;have f:=Z (L.l.z g);have K:=Z (I.l.z g);have s:=Z (B.l.j (g.A B.l.size));clear g N r)
   | fail)
 have r0:=f.l.c0;have r1:=f.l.c1;have r2:=f.l.c2;have r3:=f.l.c3;have R:=f.l.f0;have S:=f.l.f1;have T:=f.l.f2;have U:=f.l.f3;have q3:=K.l.c3;have aX:(convert 22 9 (.slice (some ⟨X.heap.size,0,none⟩) 64 64)).run prog d.drew=.ok (.string y) d.drew:=A
 go_region_with (first|(go_at_call 185;refine(t.l _ (s.l.drew)).A ?_;rintro e w3 ⟨rfl,i⟩;have g:=f.l.drew.z i;have r:=Z (s.l.drew.j (i.A s.l.drew.size));have N:=g.c0;have O:=g.c1;have P:=g.c2;have Q:=g.c3;have R:=g.f0;have S:=g.f1;have T:=g.f2;have U:=g.f3;clear i g))
 all_goals
  go_wp2;refine AI (v:=.tuple #[NK k l q p,.bool b]) (by simp[results,results165,go_sem,N,O,P,Q]) rfl ⟨rfl,?_⟩;exact(((r.l.setCell (by show _<=w.heap.size+1;omega) _).setCell (by show _<=w.heap.size+1;omega) _).setCell (by show _<=w.heap.size+1;omega) _).setCell (by show _<=w.heap.size+1;omega) _
end
theorem xO(d f q:Int)(r:ByteArray)(k l m:Int)(p:ByteArray)(w:World):Calls prog 131 #[NK d f q r,NK k l m p] w λe a=>e=.returned (.bool (OV d f k l))/\Below w.heap.size w a:=by
 have h:∀a b,Below w.heap.size w ((w.alloc a).alloc b):=λa b=>(KW _ _).alloc σ _
 rw[<-Ho];obtain⟨B,b⟩:∃B,WH d f k l=B:=⟨_,rfl⟩;have a:=Z b;rw[b];clear b
 by_cases b:k=1\/k=2
 ·by_cases g:l=f
  ·have e:B=true:=by rw[<-a.l];unfold WH;rw[AF b];simp[g]
   subst e;subst g;clear a
   rcases b with rfl|rfl<;>(go_enter func131,ntmps131;go_wp2;all_goals (go_ret;exact⟨rfl,h _ _⟩))
  have j:(l == f)=false:=by simp[g]
  by_cases c:d=1
  ·subst c
   have e:B=false:=by rw[<-a.l];unfold WH;rw[AF b];simp[g]
   subst e;clear a
   rcases b with rfl|rfl<;>(go_enter func131,ntmps131;go_wp2;all_goals (go_ret;exact⟨rfl,h _ _⟩))
  have o:(d == 1)=false:=by simp[c]
  by_cases i:f<l
  focus
   have e:B=true:=by rw[<-a.l];unfold WH;rw[AF b];simp[c,i]
  rotate_left
  focus
   have e:B=false:=by rw[<-a.l];unfold WH;rw[AF b];simp[c,i,g]
  rotate_left
  all_goals
   subst e;clear a
   rcases b with rfl|rfl<;>(go_enter func131,ntmps131;go_wp2;all_goals (go_ret;exact⟨by simp[i],h _ _⟩))
 have j:¬k=1:=λe=>b (.inl e)
 have n:¬k=2:=λe=>b (.inr e)
 have s:(k == 1)=false:=by simp[j]
 have t:(k == 2)=false:=by simp[n]
 by_cases g:k=3
 focus
  subst g
  by_cases i:f<=l
  focus
   by_cases c:d=1
   focus
    subst c;have e:B=false:=by rw[<-a.l];unfold WH;simp
   rotate_left
   focus
    have o:(d == 1)=false:=by simp[c]
    have e:B=true:=by rw[<-a.l];unfold WH;simp[c,i]
   rotate_left
  rotate_left 2
  focus
   have e:B=false:=by rw[<-a.l];unfold WH;simp[i]
  rotate_left
 rotate_left 3
 focus
  have u:(k == 3)=false:=by simp[g]
  have e:B=false:=by rw[<-a.l];unfold WH;rw[AG b,AG g]
 rotate_left
 all_goals
  subst e;clear a b;go_enter func131,ntmps131;go_wp2
  all_goals (go_ret;exact⟨rfl,h _ _⟩)
theorem oE(n:Nat)(f s:Int)(i:n<=1048576)(d:-9223372036854775808<=f)(g:f<=9223372036854775807)(w:World):Calls prog 129 #[.int .i64 (n:Int),.int .i64 f,.int .i64 s] w λe a=>e=.returned (.bool (decide (0<=f/\0<=s/\s<=(n:Int)-f)))/\a=w:=by
 by_cases b:0<=f
 ·have j:IntKind.i64.wrap ((n:Int)-f)=(n:Int)-f:=by simp[IntKind.wrap,IntKind.bits,IntKind.signed];omega
  by_cases c:0<=s
  ·by_cases a:s<=(n:Int)-f
   ·have e:decide (0<=f/\0<=s/\s<=(n:Int)-f)=true:=AM ⟨b,c,a⟩
    rw[e];go_enter func129,ntmps129;go_wp2;go_ret;exact⟨by simp[a],rfl⟩
   have e:decide (0<=f/\0<=s/\s<=(n:Int)-f)=false:=AJ (λh=>a h.2.2)
   rw[e];go_enter func129,ntmps129;go_wp2;go_ret;exact⟨by simp[a],rfl⟩
  have e:decide (0<=f/\0<=s/\s<=(n:Int)-f)=false:=AJ (λh=>c h.2.1)
  rw[e];go_enter func129,ntmps129;go_wp2;go_ret;exact⟨rfl,rfl⟩
 have e:decide (0<=f/\0<=s/\s<=(n:Int)-f)=false:=AJ (λh=>b h.1)
 rw[e];go_enter func129,ntmps129;go_wp2;go_ret;exact⟨rfl,rfl⟩
end
section
open Tryz
open Go.RowKit Go.Shelf
attribute [local go_sem] Oper.semAt_some
theorem Hk(a b:ByteArray):(a++b).data.toList=a.data.toList++b.data.toList:=by rw[ByteArray.data_append,Array.toList_append]
theorem wO(a:ByteArray):(Lib.byteCells a.data.toList).length=a.size:=by rw[Lib.byteCells_length];exact Array.length_toList
theorem Bz(a:ByteArray):(⟨a.data.toList.toArray⟩:ByteArray)=a:=by rw[Array.toArray_toList]
theorem sg{w:World}{b0 c:Nat}{e:TypeId}{s:Nat}{v:Value}{n:Nat}{d:List Value}(h:w.ownsRow c e s v n d)(k:b0<=c):w.ownsRow b0 e s v n d:=by
 refine⟨h.1,?_⟩;rcases h.2 with f|⟨g,a,b,hv,j,i⟩
 ·exact .inl f
 exact .inr ⟨g,a,b,hv,ω,i⟩
theorem Ax{d:World}{g:Nat}{c:Value}{a:List (Int×ByteArray)}(f:d.ownsRow (g+1) 145 65 c a.length (NQ (LJ a))):∃b e,c=.slice b (LJ a).length e/\OwnS d b (NQ (LJ a)):=by
 rw[QH];rcases MO f with ⟨e,i⟩|⟨h,b,e,k,l,j⟩
 ·have:a=[]:=AB i
  subst this;exact⟨none,0,e,.inl rfl⟩
 exact⟨_,b,e,.inr ⟨h,rfl,j⟩⟩
theorem Fe(a:Option Addr)(t:List ByteArray)(c:Nat)(M:Option Addr)(z:List (Int×ByteArray))(c':Nat)(O E first C n:Int)(w:World)(h:Strs w a t)(h':Wrs w M z)(hl:t.length<=1048576)(iT:z.length<=1048576)(hs:∀s∈t,s.size<=1048576)(gN:∀x∈z,x.2.size<=1048576)(eY:-9223372036854775808<=first/\first<=9223372036854775807)
  (ty:TypeId)(v:Value)(hv:w.cell? ⟨1,0,none⟩=some (.iface ty v))(h0:w.cell? ⟨0,0,none⟩=some (.iface 263 (.agg #[.pointer (some ⟨3,125,none⟩)])))(hg:1<w.heap.size)(dZ:XU t z O E n):Calls prog 94 #[LE a t.length c M z.length c',.int .i64 O,.int .i64 E,.int .i64 first,.int .i64 C,.int .i64 n] w λe i=>ca w i e (SY t z O E first C n):=by
 have b:SY t z O E first C n=MD (λk=>(xhE z t).getD k empty) O.toNat first n E.toNat 0 2 C empty ([],0,C):=by unfold SY;rw[AF dZ,Df]
 rw[b];clear b;obtain⟨f,hn,f0,s0,f1,s1⟩:=dZ;obtain⟨q,rfl⟩:∃k:Nat,O=(k:Int):=⟨O.toNat,ω⟩;obtain⟨N,rfl⟩:∃k:Nat,E=(k:Int):=⟨E.toNat,ω⟩;simp only[BM];have j:decide (1<=n/\n<=8)=true:=AM hn;obtain⟨⟨jH,gH,gI⟩,d,g⟩:=PA f
 obtain⟨H,b⟩:∃H:Nat->ByteArray,H=λk=>(xhE z t).getD k empty:=⟨_,rfl⟩
 rw[<-b];have iN:=Z b
 obtain⟨RES,cO⟩:∃RES,Hid (RES=MD H q first n N 0 2 C empty ([],0,C)):=⟨_,Z rfl⟩
 rw[<-cO.l];clear b;have cQ:N<=200:=ω
 have fX:Hid (∀B,Calls prog 129 #[.int .i64 (t.length:Int),.int .i64 (q:Int),.int .i64 (N:Int)] B λe i=>e=.returned (.bool true)/\i=B):=λB=>by
  have:=oE t.length (q:Int) (N:Int) hl ω ω B;rw[AM (show 0<=(q:Int)/\0<=(N:Int)/\(N:Int)<=(t.length:Int)-(q:Int) by omega)]at this;exact this
 have o:=Z (λ(B:World) (Q:Below w.heap.size w B)=>WD a t c M z c' B (h.z Q) (h'.z Q) hl iT hs gN);rw[f]at o;have U:=Z (λ(B:World) (Q:Below w.heap.size w B)=>gq a t c M z c' B (h.z Q) (h'.z Q) gH gI (λs hs=>by have:=d s hs;omega) (λx hx=>by have:=AU (g x hx);omega));have D:=Z (λB=>RX n B);rw[j]at D
 have b:∀l m p,Below w.heap.size w (((w.alloc l).alloc m).alloc p):=λl m p=>((KW _ _).alloc σ _).alloc τ _
 have A:=Z b;have HH:=Z h;have iI:=Z h';have F:=Z g;have iF:=Z d;have X:=Z (λB (Q:Below w.heap.size w B)=>((Q.cell (p:=⟨1,0,none⟩) hg).j hv));have W:=Z (λB (Q:Below w.heap.size w B)=>((Q.cell (p:=⟨0,0,none⟩) (by show 0<_;omega)).j h0));clear h h' g d hv h0 hs gN b f j;refine(EX (n:=4)).1 ?_;refine callsIn_of_wp_marks func94 rfl trivial ?_ rfl;simp only[ntmps94,GK,CA,AR,Nat.reduceAdd,Nat.reduceSub,FT,FU,GJ,FE,DQ,DZ]
 gi_wp2
 refine wpIn_wide.2 (wp_scope_straight ((wpIn_wide (n:=4)).1 ?_))
 gi_wp2_with (first
  | (refine⟨trivial,?_⟩;gi_at_call 47;refine(EX.2 (o.l _ (A.l _ _ _))).A ?_;rintro e w1 ⟨rfl,f⟩;have l:=(((OI w #[.slice a t.length c,.slice M z.length c'] 26 w.heap.size rfl).alloc (.cells #[.int .i64 first] 3)).alloc (.cells #[.slice none 0 0,.int .i64 0,.int .i64 0] 148)).z f;have G:=((OI (w.alloc (.cells #[.slice a t.length c,.slice M z.length c'] 26)) #[.int .i64 first] 3 (w.heap.size+1) σ).alloc (.cells #[.slice none 0 0,.int .i64 0,.int .i64 0] 148)).z f;have K:=(OI ((w.alloc (.cells #[.slice a t.length c,.slice M z.length c'] 26)).alloc (.cells #[.int .i64 first] 3)) #[.slice none 0 0,.int .i64 0,.int .i64 0] 148 (w.heap.size+1+1) σ).z f;have p:=(A.l (.cells #[.slice a t.length c,.slice M z.length c'] 26) (.cells #[.int .i64 first] 3) (.cells #[.slice none 0 0,.int .i64 0,.int .i64 0] 148)).j (f.A ξ);have fU:=Z G;have fV:=Z K;have u:=Z p;have q0:=l.y 0;have q1:=l.y 1;have ql:=l.lt;clear l G K p f)
  | (refine⟨trivial,?_⟩;gi_at_call 45;refine(EX.2 (D.l _)).A ?_;refine NC ?_)
  | (refine⟨trivial,?_⟩;gi_at_call 129;refine(EX.2 (fX.l _)).A ?_;refine NC ?_)
  | (refine⟨trivial,?_⟩;gi_at_call 51;refine(EX.2 (U.l _ u.l)).A ?_;rintro e w2 ⟨g,vv,rfl,y,m,T,b⟩;clear q0 q1 ql;obtain⟨a2,c2,iZ,r⟩:∃a2 c2,vv=.slice a2 (LJ z).length c2/\OwnS w2 a2 (NQ (LJ z)):=Ax m;subst iZ;have I:=Z (Below.then u.l (Y _) b);have R:=Z (fU.l.z b);have S:=Z (fV.l.z b);have P:=Z y;have L:=Z r;clear b y m r T)
  | (refine⟨trivial,?_⟩;gi_at_call 127;refine(EX.2 (rdr _ _ _ _ _ _ _)).A ?_;rintro e j ⟨rfl,d⟩;have aH:=Z (Below.then I.l (Y _) d);have cJ:=Z (R.l.z d);have aC:=Z (S.l.z d);have fT:=Z (P.l.z d);have fQ:=Z (L.l.z d);clear d))
 have aE:w.heap.size<=j.heap.size:=aH.l.size;have iV:=aC.l.lt
 have d:∀p∈LJ z,p.2.length=64:=λp l=>by
  obtain⟨x,hx,rfl⟩:=DL.1 l;have:=AU (F.l x hx);show(KU x.2).length=64;rw[ME];omega
 have T:Hld j a2 (LJ z):=by
  rcases fQ.l with h0|⟨b,rfl,K⟩
  ·refine .inl (AB ?_)
   have:=BY List.length h0;rw[td _ d,AR]at this;omega
  exact K.hld d
 have fS:Hid (∀B,Below j.heap.size j B->∀m:Nat,m<N->Calls prog 165 #[jc (.slice a2 (LJ z).length c2) (.iface 100 (.slice (some ⟨g,0,none⟩) t.length t.length)) (q:Int) (N:Int) n,.int .i64 (m:Int)] B λe i=>e=.returned (VC (MI (H (q+m)) n))/\Below B.heap.size B i):=λB Q m hm=>by
  have gG:q+m<t.length:=ω
  have r:q+m<(RG (LJ z) (t.map KU)).length:=by rw[fv];simp;omega
  have hX:strOfNums ((RG (LJ z) (t.map KU)).getD (q+m) [])=H (q+m):=by
   rw[iN.l,<-sf];simp[ND,List.getD,r]
  have f:Below w.heap.size w B:=aH.l.j (Q.A aE);rw[<-hX];refine Dv _ _ _ _ _ _ _ B (cj (rf _ _ d fT.l.len) r) (by simp[IntKind.wrap,IntKind.bits,IntKind.signed];omega) (λG i=>?_) ty v (X.l _ f) (W.l _ f) (by have:=f.size;omega);have b:=Q.j (i.A Q.size);have:=rT a2 (LJ z) c2 g t.length t.length (q+m) (t.map KU) G (T.z b) d (λp l=>by obtain⟨y,i,rfl⟩:=DL.1 l;exact(AU (F.l y i)).1) (by rw[QH];exact gI) (fT.l.z b) σ gH gG;rw[show((q:Int)+(m:Int))=((q+m:Nat):Int) by omega];exact this
 obtain⟨G,iH⟩:∃G,Hid (G=Value.iface 100 (.slice (some ⟨g,0,none⟩) t.length t.length)):=⟨_,Z rfl⟩;obtain⟨p,iO⟩:∃p,Hid (p=Value.slice a2 (LJ z).length c2):=⟨_,Z rfl⟩;rw[<-iH.l,<-iO.l]at fS⊢
 have i:Hid (ScL j (((j.alloc (.cells #[.iface 219 (.agg #[p,G]),.int .i64 (q:Int),.int .i64 (N:Int),.int .i64 n] 186)).alloc (.cells #[.slice none 0 0,.int .i64 0,.int .i64 C] 148)).alloc (.cells #[.int .i64 2,.int .i64 C,.int .i64 0,.string ⟨#[]⟩] 119)) [] (((j.alloc (.cells #[.iface 219 (.agg #[p,G]),.int .i64 (q:Int),.int .i64 (N:Int),.int .i64 n] 186)).alloc (.cells #[.slice none 0 0,.int .i64 0,.int .i64 C] 148)).alloc (.cells #[.int .i64 2,.int .i64 C,.int .i64 0,.string ⟨#[]⟩] 119)).heap.size (.iface 219 (.agg #[p,G])) (.int .i64 (q:Int)) (.int .i64 (N:Int)) (.int .i64 n) (.slice none 0 0) [] 0 C 2 C 0 ⟨#[]⟩):=by
  refine⟨((OI _ _ _ _ rfl).alloc _).alloc _,(OI _ _ _ _ σ).alloc _,OI _ _ _ _ σ,CE _ _ _ _,λk hk=>(by cases hk),((KW _ _).alloc σ _).alloc τ _,λr b=>(by cases b),List.nodup_nil⟩
 clear U o D fX A fU fV u R S I P L fQ T d HH iI F iF X W;refine wpIn_label ?_
 gi_wp2
 refine wpIn_loop_ghost (λk A W=>∃(Rs:List Nat) (y:Value) (f:List ByteArray) (u:Nat) (l I L R:Int) (S:ByteArray) (gV gW gX gY gZ iA iB iC iD:Value),A={ tmps:=#[LE a t.length c M z.length c',.int .i64 (q:Int),.int .i64 (N:Int),.int .i64 first,.int .i64 C,.int .i64 n,.pointer (some ⟨w.heap.size,0,none⟩),undef,undef,.pointer (some ⟨w.heap.size+1,0,none⟩),undef,undef,.pointer (some ⟨w.heap.size+1+1,0,none⟩),.pointer (some ⟨j.heap.size,0,none⟩),.pointer (some ⟨j.heap.size+1,0,none⟩),.pointer (some ⟨j.heap.size+1+1,0,none⟩),gV,undef,undef,.agg #[.slice a t.length c,.slice M z.length c'],.bool true,.bool false,.bool false,.int .i64 n,.bool true,.bool false,.bool false,.bool false,.pointer (some ⟨w.heap.size,0,none⟩),.slice a t.length c,.int .i64 (t.length:Int),.int .i64 (q:Int),.int .i64 (N:Int),.bool true,.bool false,.bool false,undef,.agg #[.slice a t.length c,.slice M z.length c'],.agg #[.slice (some ⟨g,0,none⟩) t.length t.length,p],(.iface 219 (.agg #[p,G])),.int .i64 (q:Int),.int .i64 (N:Int),.int .i64 n,.agg #[.iface 219 (.agg #[p,G]),.int .i64 (q:Int),.int .i64 (N:Int),.int .i64 n],.int .i64 C,.agg #[.slice none 0 0,.int .i64 0,.int .i64 C],.int .i64 C,.agg #[.int .i64 2,.int .i64 C,.int .i64 0,.string ⟨#[]⟩],gW,gX,gY,gZ,iA,iB,iC,iD,undef,undef,undef,undef,undef,undef,undef,undef,undef,undef,undef,undef,undef,undef,undef,undef,undef,undef,undef,undef,undef,undef,undef,undef,undef,undef],defers:=Rs.map (λr=>({ target:=.collected r,args:=#[] }:Deferred)) }/\k=N-u/\u<=N/\f.length<=u/\Hid (ScL j W Rs W.heap.size (.iface 219 (.agg #[p,G])) (.int .i64 (q:Int)) (.int .i64 (N:Int)) (.int .i64 n) y f (u:Int) l I L R S)/\Hid (Chn (S:=H) (frm:=q) (n:=n) (size:=N) first RES u [] I L empty (f,(u:Int),l))) N ⟨[],.slice none 0 0,[],0,C,2,C,0,⟨#[]⟩,undef,undef,undef,undef,undef,undef,undef,undef,undef,rfl,ω,AO _,Y _,i,?_⟩ ?_
 ·intro _
  refine⟨AO _,?_⟩;rw[cO.l];rfl
 rintro k _ W ⟨Rs,y,f,u,l,I,L,R,S,gV,gW,gX,gY,gZ,iA,iB,iC,iD,rfl,rfl,jL,jC,T,bZ⟩
 clear i;have iR:W.cell? ⟨j.heap.size+1,1,none⟩=some (.int .i64 (u:Int)):=T.l.fb.y 1;have jD:=T.l.fb.lt
 by_cases gG:u<N
 ·have fB:(u:Int)<(N:Int):=ω
  have b:W.cell? ⟨j.heap.size,0,none⟩=some (.iface 219 (.agg #[p,G])):=T.l.lb.y 0;have d:W.cell? ⟨j.heap.size,1,none⟩=some (.int .i64 (q:Int)):=T.l.lb.y 1;have i:W.cell? ⟨j.heap.size,2,none⟩=some (.int .i64 (N:Int)):=T.l.lb.y 2;have o:W.cell? ⟨j.heap.size,3,none⟩=some (.int .i64 n):=T.l.lb.y 3;have jO:=T.l.lb.lt
  gi_wp2_with (refine⟨trivial,?_⟩;gi_at_call 130;refine(Iy _ _ _ _ _ _ _ _).A ?_;rintro e w4 ⟨rfl,rfl⟩)
  clear iR b d i o;have iU:j.heap.size+2<W.heap.size:=T.l.bb.lt;obtain⟨WS,b⟩:∃WS,WS=((W.alloc (.cells #[.pointer none,.slice none 0 0] 123)).alloc (.cells #[.iface 219 (.agg #[p,G]),.int .i64 (q:Int),.int .i64 (N:Int),.int .i64 n] 186)).alloc (.cells #[.int .i64 (u:Int)] 3):=⟨_,rfl⟩;have d:Below W.heap.size W WS:=by rw[b];exact((KW _ _).alloc σ _).alloc τ _
  have i9:WS.heap.size=W.heap.size+3:=by rw[b];simp
  have i:ScN j WS Rs W.heap.size (.iface 219 (.agg #[p,G])) (.int .i64 (q:Int)) (.int .i64 (N:Int)) (.int .i64 n) y f (u:Int) l I L R S empty:=by
   have e1:=AW W (.cells #[.pointer none,.slice none 0 0] 123);have U:=AW (W.alloc (.cells #[.pointer none,.slice none 0 0] 123)) (.cells #[.iface 219 (.agg #[p,G]),.int .i64 (q:Int),.int .i64 (N:Int),.int .i64 n] 186);have o:=AW ((W.alloc (.cells #[.pointer none,.slice none 0 0] 123)).alloc (.cells #[.iface 219 (.agg #[p,G]),.int .i64 (q:Int),.int .i64 (N:Int),.int .i64 n] 186)) (.cells #[.int .i64 (u:Int)] 3);simp only[BB]at U o;refine⟨T.l.z d,.inl ⟨Y _,.slice none 0 0,?_,World.ownsRowF_nil _ _ _ _,by simp[Value.ownBlock]⟩,?_,?_,λk e=>(T.l.own.lt k e).2,iU⟩
   ·rw[b,JE _ _ τ,JE _ _ σ];exact e1
   ·rw[b,JE _ _ σ];exact U
   rw[b];exact o
  rw[<-b];have eP:=Z d;have aZ:=Z i;clear b d i
  refine wpIn_rangeFunc_ownH rfl ω (gf:=164) (lb:=#[.pointer (some ⟨W.heap.size+1+1,0,none⟩),.pointer (some ⟨W.heap.size+1,0,none⟩)]) rfl trivial (enters_of func164 κ rfl)
   (wI 3 ω (W.heap.size+1) (W.heap.size+1+1) q N u H n p G j WS cQ ω aZ.l.sl.be fS aZ.l.g1 aZ.l.g2)
   KpP.t (KpP.b ω ω ω) (AC _ _) (λ_=>rfl)
   (λF X=>InS first RES j Rs W.heap.size (.iface 219 (.agg #[p,G])) (.int .i64 (q:Int)) (.int .i64 (N:Int)) (.int .i64 n) y f u l F X)
   (λcc F X=>InX first RES j Rs W.heap.size (.iface 219 (.agg #[p,G])) (.int .i64 (q:Int)) (.int .i64 (N:Int)) (.int .i64 n) y f u l cc F X)
   (InS.own _ ω) (λcc=>InX.own _ ω ω cc)
   ⟨I,L,R,S,empty,aZ.l,AO _,bZ.l⟩
   (λx b X=>∃P,X.heap[P]?=some (.cells #[.int .i64 (TF H q n x.1).1,.int .i64 (TF H q n x.1).2.1,.int .i64 (TF H q n x.1).2.2.1,.string (TF H q n x.1).2.2.2] 119 (0,0))/\W.heap.size+2<P/\b={ tmps:=#[LE a t.length c M z.length c',.int .i64 (q:Int),.int .i64 (N:Int),.int .i64 first,.int .i64 C,.int .i64 n,.pointer (some ⟨w.heap.size,0,none⟩),undef,undef,.pointer (some ⟨w.heap.size+1,0,none⟩),undef,undef,.pointer (some ⟨w.heap.size+1+1,0,none⟩),.pointer (some ⟨j.heap.size,0,none⟩),.pointer (some ⟨j.heap.size+1,0,none⟩),.pointer (some ⟨j.heap.size+1+1,0,none⟩),.pointer (some ⟨W.heap.size,0,none⟩),.int .i64 (x.1:Int),.pointer (some ⟨P,0,none⟩),.agg #[.slice a t.length c,.slice M z.length c'],.bool true,.bool false,.bool false,.int .i64 n,.bool true,.bool false,.bool false,.bool false,.pointer (some ⟨w.heap.size,0,none⟩),.slice a t.length c,.int .i64 (t.length:Int),.int .i64 (q:Int),.int .i64 (N:Int),.bool true,.bool false,.bool false,undef,.agg #[.slice a t.length c,.slice M z.length c'],.agg #[.slice (some ⟨g,0,none⟩) t.length t.length,p],(.iface 219 (.agg #[p,G])),.int .i64 (q:Int),.int .i64 (N:Int),.int .i64 n,.agg #[.iface 219 (.agg #[p,G]),.int .i64 (q:Int),.int .i64 (N:Int),.int .i64 n],.int .i64 C,.agg #[.slice none 0 0,.int .i64 0,.int .i64 C],.int .i64 C,.agg #[.int .i64 2,.int .i64 C,.int .i64 0,.string ⟨#[]⟩],.pointer (some ⟨j.heap.size+1,1,none⟩),.int .i64 (u:Int),.int .i64 (N:Int),.bool true,.agg #[.iface 219 (.agg #[p,G]),.int .i64 (q:Int),.int .i64 (N:Int),.int .i64 n],.pointer (some ⟨j.heap.size+1,1,none⟩),.int .i64 (u:Int),.func (.func 164) #[] #[.pointer (some ⟨W.heap.size+1+1,0,none⟩),.pointer (some ⟨W.heap.size+1,0,none⟩)],.int .i64 (x.1:Int),un (TF H q n x.1),undef,undef,undef,undef,undef,undef,undef,undef,undef,undef,undef,undef,undef,undef,undef,undef,undef,undef,undef,undef,undef,undef,undef,undef],defers:=[] }) ?hax ?assign ?body ?done ?stop
  case hax =>
   rintro x M s X d U ⟨P,i,Q,F⟩ hg b;refine⟨P,(hg.block P (AT.1 i).1 (λe=>?_)).j i,Q,F⟩;obtain⟨_,o,D,K⟩:=b P e.symm
   rw[i]at D;cases D;cases K
  case assign =>
   intro lp F x X K i o
   have D:WS.heap.size<=X.heap.size:=by
    obtain⟨I,L,R,S,op,d,_,_⟩:=i;have:=(AT.1 d.g2).1;omega
   gi_wp2
   have b:Below X.heap.size X (X.alloc (.cells #[.int .i64 (TF H q n x.1).1,.int .i64 (TF H q n x.1).2.1,.int .i64 (TF H q n x.1).2.2.1,.string (TF H q n x.1).2.2.2] 119)):=KW _ _;refine o _ _ ((yw b).from _) ⟨b.A ω,b.block _ ω,b.block _ ω⟩ (InS.own _ (Y _) _ _ _ none i (ks b) (λr e=>by cases e)) ⟨X.heap.size,AW _ _,ω,?_⟩;rfl
  case body =>
   rintro lp F x _ X jF ⟨rr,iY⟩ ⟨I,L,R,S,op,d,gK,bJ⟩ ⟨P,i,jB,rfl⟩ jI;have fF:=x.2.1;obtain⟨D,U,K,o,b⟩:∃D U K o,TF H q n x.1=(D,U,K,o):=⟨_,_,_,_,rfl⟩;have jJ:=(SI (qe x b)).2.2.2.2.2.2;have iM:=Z b;rw[b]at i⊢;simp only at i⊢;have aQ:=Z (λhh=>bJ.no (x:=x) b eY hh);have aW:=Z (λ(e1:D=1) fC aL=>bJ.part (x:=x) (by rw[b,e1]) eY fC aL);have aV:=Z (λfC aL hk=>bJ.end (x:=x) b eY fC aL hk)
   have eM:Hid (Good u (F++[x])->u<=x.1):=λhg=>by have:=hg.snoc.2;omega
   have gS:(F++[x]).length=F.length+1:=σ
   obtain⟨px,dR⟩:∃px,px=F++[x]:=⟨_,rfl⟩;rw[<-dR]at aQ aW aV eM gS⊢;obtain⟨xn,gU⟩:∃xn,x.1=xn:=⟨_,rfl⟩;rw[gU]at aQ aW aV eM fF⊢;clear b iM dR gU x bJ
   obtain⟨b,hZ⟩:∃b,IntKind.i64.wrap (first+(xn:Int))=b:=⟨_,rfl⟩
   rw[hZ]at aQ aW aV;have b0:X.cell? ⟨j.heap.size+1+1,0,none⟩=some (.int .i64 I):=d.sl.bb.y 0;have b1:X.cell? ⟨j.heap.size+1+1,1,none⟩=some (.int .i64 L):=d.sl.bb.y 1;have b2:X.cell? ⟨j.heap.size+1+1,2,none⟩=some (.int .i64 R):=d.sl.bb.y 2;have b3:X.cell? ⟨j.heap.size+1+1,3,none⟩=some (.string S):=d.sl.bb.y 3;have bl:j.heap.size+1+1<X.heap.size:=d.sl.bb.lt;have fr:=(cJ.l.z d.sl.be).y 0;have i7:=(cJ.l.z d.sl.be).lt;have p0:=QZ i 0 (.int .i64 D) rfl;have p1:=QZ i 1 (.int .i64 U) rfl;have p2:=QZ i 2 (.int .i64 K) rfl;have p3:=QZ i 3 (.string o) rfl;have iP:=(AT.1 i).1;have cC:=Z d;have HP:=Z i;have jA:W.heap.size+2<X.heap.size:=(AT.1 d.g2).1;clear d i iY
   by_cases hm:K=b
   ·subst hm
    have eC:=Z (λB=>xO I L R S D U K o B)
    cases aL:OV I L D U with
    | false =>
     rw[aL]at eC;have HF:=Z (aQ.l (by rw[aL];simp));clear aQ aW aV aL
     gi_wp2_with (refine⟨trivial,?_⟩;gi_at_call 131;refine(show CallsIn Fence.wide _ _ _ _ _ _ from EX.2 (eC.l _)).A ?_;rintro e w5 ⟨rfl,aR⟩)
     exact⟨(yw aR).from _,.inl ⟨rfl,⟨I,L,R,S,cC.l.sl.z aR⟩,HF.l⟩⟩
    | true =>
     rw[aL]at eC;have aJ:=Z (λe1=>aW.l e1 rfl (by rw[<-e1];exact aL));have aX:=Z (λhk=>aV.l rfl aL hk);clear aQ aW aV aL;have eJ:¬(P=j.heap.size+1+1):=ω
     have iX:¬(j.heap.size+1+1=P):=ω
     have fA:(Lib.byteCells op.data.toList).length+o.size<=140737488355328:=by
      rw[wO];omega
     have cY:=Hk op o
     have eI:∀(d:World) (i:Nat) (v:Value),KeepsOthers d (d.setCell ⟨j.heap.size+1+1,i,none⟩ v):=λd i v=>KeepsOthers.setCell _ _ _
     have eL:=Z cY;clear cY
     gi_upto_region 14 with (first
      | (refine⟨trivial,?_⟩;gi_at_call 131;refine(show CallsIn Fence.wide _ _ _ _ _ _ from EX.2 (eC.l _)).A ?_;rintro e w5 ⟨rfl,aR⟩;have aN:=cC.l.kept (ks aR) (λr e=>by cases e);have bT:=(aR.block P iP).j HP.l;clear p0 p1 p2 p3 b0 b1 b2 b3;have p0:=QZ bT 0 (.int .i64 D) rfl;have p1:=QZ bT 1 (.int .i64 U) rfl;have p2:=QZ bT 2 (.int .i64 K) rfl;have p3:=QZ bT 3 (.string o) rfl;have b0:w5.cell? ⟨j.heap.size+1+1,0,none⟩=some (.int .i64 I):=aN.sl.bb.y 0;have b1:w5.cell? ⟨j.heap.size+1+1,1,none⟩=some (.int .i64 L):=aN.sl.bb.y 1;have b2:w5.cell? ⟨j.heap.size+1+1,2,none⟩=some (.int .i64 R):=aN.sl.bb.y 2;have b3:w5.cell? ⟨j.heap.size+1+1,3,none⟩=some (.string S):=aN.sl.bb.y 3;have f0:w5.frozen? ⟨j.heap.size+1+1,0,none⟩=false:=aN.sl.bb.E 0;have f1:w5.frozen? ⟨j.heap.size+1+1,1,none⟩=false:=aN.sl.bb.E 1;have f2:w5.frozen? ⟨j.heap.size+1+1,2,none⟩=false:=aN.sl.bb.E 2;have f3:w5.frozen? ⟨j.heap.size+1+1,3,none⟩=false:=aN.sl.bb.E 3;have l5:=aR.size;have eN:=Z (aN.setWas D U K o);have iL:=Z bT;have fG:=Z aR;clear aN bT aR)
      | (refine⟨trivial,?_⟩;gi_at_call 75;refine(show CallsIn Fence.wide _ _ _ _ _ _ from EX.2 (Ba W.heap.size W.heap.size (Lib.byteCells op.data.toList) o _ eN.l.bu fA τ)).A ?_;rintro e w9 ⟨rfl,cW,aK,eH⟩;obtain⟨ba,cU⟩:=tI eN.l.bu;have bW:=tE cU eH aK.size;have gD:=eN.l.wrote (op':=op++o) aK eH (.inr (by rw[eL.l,Lib.byteCells_append];exact cW));have gE:=(eH P _ ((BD _ _ _ _ eJ).j ((BD _ _ _ _ eJ).j ((BD _ _ _ _ eJ).j ((BD _ _ _ _ eJ).j iL.l)))) (by intro e;cases e;omega) (by intro cc fz e;simp at e));have fO:=Z ((yw fG.l).j ((eI _ _ _).j ((eI _ _ _).j ((eI _ _ _).j ((eI _ _ _).j bW)))));have iG:=Z (((((fG.l.A (show j.heap.size<=X.heap.size by omega)).setCell (p:=⟨j.heap.size+1+1,0,none⟩) (by show j.heap.size<=j.heap.size+1+1;omega) (.int .i64 D)).setCell (p:=⟨j.heap.size+1+1,1,none⟩) (by show j.heap.size<=j.heap.size+1+1;omega) (.int .i64 U)).setCell (p:=⟨j.heap.size+1+1,2,none⟩) (by show j.heap.size<=j.heap.size+1+1;omega) (.int .i64 K)).setCell (p:=⟨j.heap.size+1+1,3,none⟩) (by show j.heap.size<=j.heap.size+1+1;omega) (.string o) |>.j (aK.A ω));have eF:=Z gD;have cF:=Z gE;have l9:w5.heap.size<=w9.heap.size:=(by have:=aK.size;simpa using this);clear cW aK eH cU bW gD gE p0 p1 p2 p3 b0 b1 b2 b3 f0 f1 f2 f3))
     have p0:=QZ cF.l 0 (.int .i64 D) rfl;have p1:=QZ cF.l 1 (.int .i64 U) rfl;have p2:=QZ cF.l 2 (.int .i64 K) rfl;have p3:=QZ cF.l 3 (.string o) rfl;have i8:P<w9.heap.size:=ω
     by_cases bV:D=1
     ·have HI:Hid (InS first RES j Rs W.heap.size (.iface 219 (.agg #[p,G])) (.int .i64 (q:Int)) (.int .i64 (N:Int)) (.int .i64 n) y f u l px w9):=⟨D,U,K,o,op++o,eF.l,by rw[BK,gS];omega,by have:=aJ.l bV;rw[bV];exact this⟩
      have eZ:(D != 1)=false:=by simp[bV]
      clear aJ aX
      gi_wp2
      exact⟨fO.l.from _,⟨iG.l,eF.l.g1.j cC.l.g1.symm,eF.l.g2.j cC.l.g2.symm⟩,HI.l⟩
     have eZ:(D != 1)=true:=by simp[bV]
     have cA:=Z (aX.l bV);have cS:=eF.l.kept (W':=w9.drew) (row:=none) ⟨rfl,rfl,rfl,Y _,λ_ _ _=>rfl⟩ (λr e=>by cases e);have aY:=Z cS;have fW:=Z (λB iQ hs=>Jo W.heap.size W.heap.size (op++o).data.toList B iQ hs);have gQ:=Bz (op++o);rw[gQ]at fW;clear gQ cS aJ aX bV
     gi_upto_region 15 with fail
     gi_region_with (first
      | (refine⟨trivial,?_⟩;gi_at_call 77;refine(show CallsIn Fence.wide _ _ _ _ _ _ from EX.2 (fW.l _ aY.l.bu τ)).A ?_;rintro e iE ⟨rfl,aS,aO,aP⟩;obtain⟨ba,cU⟩:=tI aY.l.bu;have bW:=tE cU aP aO.size;have iJ:=Z (fO.l.j (⟨bW.size,bW.same⟩:KeepsOthers w9 iE));have cP:=aY.l.wrote (op':=op++o) aO aP aS;have aG:=aP P _ (show w9.drew.heap[P]?=_ from cF.l) (by intro e;cases e;omega) (by intro cc fz e;simp at e);have r0:=QZ aG 0 (.int .i64 D) rfl;have r1:=QZ aG 1 (.int .i64 U) rfl;have r2:=QZ aG 2 (.int .i64 K) rfl;have r3:=QZ aG 3 (.string o) rfl;have jN:w9.heap.size<=iE.heap.size:=aO.size;have aI:=Z cP;have iK:=Z aG;clear aS aO aP cU bW cP aG)
      | (refine⟨trivial,?_⟩;gi_at_call 132;refine(show CallsIn Fence.wide _ _ _ _ _ _ from EX.2 (yJ j.heap.size (j.heap.size+1) y f (u:Int) l D U K o (op++o) xn _ aI.l.sl.fb aI.l.sl.own ω ω (aI.l.sl.own_ne ω) ω ω)).A ?_;rintro e jP ⟨rfl,gR⟩;have fY:=Z gR;clear gR))
     all_goals
      gi_wp2
      obtain⟨y2,eU⟩:=aI.l.sl.take fY.l;refine⟨(iJ.l.j (aI.l.sl.takeKeeps fY.l)).from _,.inr ⟨rfl,xn,y2,(if D=2 then f++[op++o] else f),U,D,U,K,o,?_,fF,λhg=>⟨eM.l hg,?_,?_⟩⟩⟩
      ·rw[show((xn+1:Nat):Int)=(xn:Int)+1 by omega]
       exact eU
      ·split
       ·simp
       omega
      ·rw[show((xn+1:Nat):Int)=(xn:Int)+1 by omega]
       exact cA.l hg
   have i:(K == b)=false:=by simp[hm]
   have d:(K != b)=true:=by simp[hm]
   have HF:=Z (aQ.l (λh=>hm h.1));clear aQ aW aV
   gi_wp2
   refine⟨trivial,?_⟩
   gi_wp2
   exact⟨KeepsFrom.refl _ _,.inl ⟨rfl,⟨I,L,R,S,cC.l.sl⟩,HF.l⟩⟩
  case done =>
   rintro D F X hD ⟨eG,i⟩ ⟨I,L,R,S,op,d,gK,bJ⟩ bG;have HF:=Z (bJ.done eG i);have b:=Z (d.sl.push bG ω ω);clear bJ i d gK bG T aZ eP bZ;have zl:=b.l.fb.lt
   obtain⟨i,o,eB⟩:∃i o,y=Value.slice i f.length o:=by
    rcases MO b.l.own with ⟨d,K⟩|⟨U,P,d,_⟩
    ·exact⟨none,0,by rw[d,K]⟩
    exact⟨_,P,d⟩
   subst eB;have z0:X.cell? ⟨j.heap.size+1,0,none⟩=some (Value.slice i f.length o):=b.l.fb.y 0;have z1:X.cell? ⟨j.heap.size+1,1,none⟩=some (.int .i64 (u:Int)):=b.l.fb.y 1;have z2:X.cell? ⟨j.heap.size+1,2,none⟩=some (.int .i64 l):=b.l.fb.y 2;have d:=aC.l.z b.l.be;obtain⟨y0,y1,y2⟩:=d.k3;obtain⟨x0,x1,x2⟩:=d.z3;have xl:=d.lt;have dM:¬(w.heap.size+1+1=j.heap.size+1):=ω
   have aT:¬(j.heap.size+1=w.heap.size+1+1):=ω
   clear d
   gi_wp2
   have P:=b.l.fin (w:=w) aC.l ω aH.l;refine qj j.heap.size (ScF1 w j (w.heap.size+1+1) (Value.slice i f.length o) f (u:Int) l) (λX r d K h3=>ScF1.put aE X r d K h3) (λX hX=>?_) (D::Rs) _ b.l.nd P.2 P.1;obtain⟨dU,dN,aK⟩:=hX;obtain⟨e0,e1,U⟩:=dU.k3;refine⟨.agg #[Value.slice i f.length o,.int .i64 (u:Int),.int .i64 l],by simp[results,results94,go_sem,e0,e1,U],?_⟩;rw[<-HF.l];exact⟨_,rfl,sg dN aE,aK⟩
  case stop =>
   rintro D cc F X hD eG hx bG;rcases hx with ⟨rfl,⟨I,L,R,S,hl⟩,dH⟩|⟨rfl,x,y',ents',l',I,L,R,S,hl,fF,dH⟩
   ·have HF:=Z (dH eG)
    have b:=Z (hl.push bG ω ω);clear dH hl bG T aZ eP bZ;have zl:=b.l.fb.lt
    obtain⟨i,o,eB⟩:∃i o,y=Value.slice i f.length o:=by
     rcases MO b.l.own with ⟨d,K⟩|⟨U,P,d,_⟩
     ·exact⟨none,0,by rw[d,K]⟩
     exact⟨_,P,d⟩
    subst eB;have z0:X.cell? ⟨j.heap.size+1,0,none⟩=some (Value.slice i f.length o):=b.l.fb.y 0;have z1:X.cell? ⟨j.heap.size+1,1,none⟩=some (.int .i64 (u:Int)):=b.l.fb.y 1;have z2:X.cell? ⟨j.heap.size+1,2,none⟩=some (.int .i64 l):=b.l.fb.y 2;have d:=aC.l.z b.l.be;obtain⟨y0,y1,y2⟩:=d.k3;obtain⟨x0,x1,x2⟩:=d.z3;have xl:=d.lt;have dM:¬(w.heap.size+1+1=j.heap.size+1):=ω
    have aT:¬(j.heap.size+1=w.heap.size+1+1):=ω
    clear d
    gi_wp2
    have P:=b.l.fin (w:=w) aC.l ω aH.l;refine qj j.heap.size (ScF1 w j (w.heap.size+1+1) (Value.slice i f.length o) f (u:Int) l) (λX r d K h3=>ScF1.put aE X r d K h3) (λX hX=>?_) (D::Rs) _ b.l.nd P.2 P.1;obtain⟨dU,dN,aK⟩:=hX;obtain⟨e0,e1,U⟩:=dU.k3;refine⟨.agg #[Value.slice i f.length o,.int .i64 (u:Int),.int .i64 l],by simp[results,results94,go_sem,e0,e1,U],?_⟩;rw[<-HF.l];exact⟨_,rfl,sg dN aE,aK⟩
   obtain⟨o,i,K⟩:=dH eG
   have b:=Z (hl.push bG ω ω);have d:=Z K;clear dH hl bG K T aZ eP bZ
   gi_wp2
   exact⟨N-(x+1),ω,D::Rs,y',ents',x+1,l',I,L,R,S,_,_,_,_,_,_,_,_,_,rfl,rfl,ω,ω,b,d⟩
 have HF:=Z (bZ.l.done (Good.nil u) (.inl τ))
 have b:=T;have fB:¬((u:Int)<(N:Int)):=ω
 have zl:=b.l.fb.lt
 obtain⟨i,o,eB⟩:∃i o,y=Value.slice i f.length o:=by
  rcases MO b.l.own with ⟨d,K⟩|⟨U,P,d,_⟩
  ·exact⟨none,0,by rw[d,K]⟩
  exact⟨_,P,d⟩
 subst eB;have z0:W.cell? ⟨j.heap.size+1,0,none⟩=some (Value.slice i f.length o):=b.l.fb.y 0;have z1:W.cell? ⟨j.heap.size+1,1,none⟩=some (.int .i64 (u:Int)):=b.l.fb.y 1;have z2:W.cell? ⟨j.heap.size+1,2,none⟩=some (.int .i64 l):=b.l.fb.y 2;have d:=aC.l.z b.l.be;obtain⟨y0,y1,y2⟩:=d.k3;obtain⟨x0,x1,x2⟩:=d.z3;have xl:=d.lt;have dM:¬(w.heap.size+1+1=j.heap.size+1):=ω
 have aT:¬(j.heap.size+1=w.heap.size+1+1):=ω
 clear d
 gi_wp2
 have P:=b.l.fin (w:=w) aC.l ω aH.l;refine qj j.heap.size (ScF1 w j (w.heap.size+1+1) (Value.slice i f.length o) f (u:Int) l) (λX r d K h3=>ScF1.put aE X r d K h3) (λX hX=>?_) Rs _ b.l.nd P.2 P.1;obtain⟨dU,dN,aK⟩:=hX;obtain⟨e0,e1,U⟩:=dU.k3;refine⟨.agg #[Value.slice i f.length o,.int .i64 (u:Int),.int .i64 l],by simp[results,results94,go_sem,e0,e1,U],?_⟩;rw[<-HF.l];exact⟨_,rfl,sg dN aE,aK⟩
end
section
open Tryz
open Go.RowKit
theorem Cu(a:Option Addr)(f:List ByteArray)(c:Nat)(j:Option Addr)(g:List (Int×ByteArray))(k:Nat)(d b first B n:Int)(w:World)(h:Strs w a f)(G:Wrs w j g)(y:f.length<=1048576)(C:g.length<=1048576)(H:∀s∈f,s.size<=1048576)(D:∀x∈g,x.2.size<=1048576)(t:-9223372036854775808<=d/\d<=9223372036854775807)(u:¬XU f g d b n):Calls prog 94 #[LE a f.length c j g.length k,.int .i64 d,.int .i64 b,.int .i64 first,.int .i64 B,.int .i64 n] w λe i=>ca w i e ([],0,0):=by
 have s:∀i l m,Below w.heap.size w (((w.alloc i).alloc l).alloc m):=λi l m=>((KW _ _).alloc σ _).alloc τ _
 have A:=Z (λ(m:World) (v:Below w.heap.size w m)=>WD a f c j g k m (h.z v) (G.z v) y C H D);have z:=Z (λm=>oE f.length d b y t.1 t.2 m)
 cases hok:LG f g
 focus
  have o:decide (1<=n/\n<=8)=decide (1<=n/\n<=8):=rfl;have q:decide (0<=d/\0<=b/\b<=(f.length:Int)-d)=decide (0<=d/\0<=b/\b<=(f.length:Int)-d):=rfl
 rotate_left
 focus
  by_cases p:1<=n/\n<=8
  focus
   have o:decide (1<=n/\n<=8)=true:=AM p;have q:decide (0<=d/\0<=b/\b<=(f.length:Int)-d)=false:=AJ (λi=>u ⟨hok,p,i.1,i.2.1,ω,i.2.2⟩)
  rotate_left
  focus
   have o:decide (1<=n/\n<=8)=false:=AJ p;have q:decide (0<=d/\0<=b/\b<=(f.length:Int)-d)=decide (0<=d/\0<=b/\b<=(f.length:Int)-d):=rfl
  rotate_left
 rotate_left 2
 all_goals
  clear u;go_enter func94,ntmps94;go_wp2;refine wp_scope_straight ?_
  go_wp2_with (first|(go_at_call 47;refine(A.l _ (s _ _ _)).A ?_;rw[hok];rintro e P ⟨rfl,l⟩;have r:=(((OI w #[.slice a f.length c,.slice j g.length k] 26 w.heap.size rfl).alloc (.cells #[.int .i64 first] 3)).alloc (.cells #[.slice none 0 0,.int .i64 0,.int .i64 0] 148)).z l;have i:=(OI ((w.alloc (.cells #[.slice a f.length c,.slice j g.length k] 26)).alloc (.cells #[.int .i64 first] 3)) #[.slice none 0 0,.int .i64 0,.int .i64 0] 148 (w.heap.size+1+1) σ).z l;have x:=Z ((s (.cells #[.slice a f.length c,.slice j g.length k] 26) (.cells #[.int .i64 first] 3) (.cells #[.slice none 0 0,.int .i64 0,.int .i64 0] 148)).j (l.A ξ));have N:=r.y 0;have O:=r.lt;have b0:=i.y 0;have E:=i.y 1;have F:=i.y 2;have I:=i.E 0;have K:=i.E 1;have L:=i.E 2;have M:=i.lt;clear l r i)|(go_at_call 45;refine(RX _ _).A ?_;rw[o];refine NC ?_)|(go_at_call 129;refine(z.l _).A ?_;rw[q];refine NC ?_))
  try simp only[Exit.noGoto]
  refine AI (v:=.agg #[.slice none 0 0,.int .i64 0,.int .i64 0]) (by simp[results,results94,go_sem,b0,E,F]) rfl ?_;exact⟨.slice none 0 0,rfl,CE _ _ _ _,((x.l.setCell (by show w.heap.size<=w.heap.size+1+1;omega) _).setCell (by show w.heap.size<=w.heap.size+1+1;omega) _).setCell (by show w.heap.size<=w.heap.size+1+1;omega) _⟩
theorem wX(a:Option Addr)(f:List ByteArray)(c:Nat)(j:Option Addr)(g:List (Int×ByteArray))(l:Nat)(d b first i n:Int)(w:World)(h:Strs w a f)(p:Wrs w j g)(q:f.length<=1048576)(m:g.length<=1048576)(r:∀s∈f,s.size<=1048576)(o:∀x∈g,x.2.size<=1048576)(u:-9223372036854775808<=d/\d<=9223372036854775807)(t:-9223372036854775808<=first/\first<=9223372036854775807)
  (s:TypeId)(v:Value)(hv:w.cell? ⟨1,0,none⟩=some (.iface s v))(x:w.cell? ⟨0,0,none⟩=some (.iface 263 (.agg #[.pointer (some ⟨3,125,none⟩)])))(y:1<w.heap.size):Calls prog 94 #[LE a f.length c j g.length l,.int .i64 d,.int .i64 b,.int .i64 first,.int .i64 i,.int .i64 n] w λe k=>ca w k e (SY f g d b first i n):=by
 by_cases k:XU f g d b n
 ·exact Fe a f c j g l d b first i n w h p q m r o t s v hv x y k
 have e:SY f g d b first i n=([],0,0):=by unfold SY;rw[AG k]
 rw[e]
 exact Cu a f c j g l d b first i n w h p q m r o u k
