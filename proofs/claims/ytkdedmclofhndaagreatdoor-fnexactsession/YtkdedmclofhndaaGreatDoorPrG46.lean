import Derived.Test.YtkdedmclofhndaaGreatDoorPrG41
import Derived.Shelf.Strings.BuilderK
set_option maxHeartbeats 16000000
set_option maxRecDepth 8000
set_option linter.all false
namespace Go.Proofs.YtkdedmclofhndaaGreatDoor
section
open Tryz
open Go.RowKit
@[reducible] def xc(a:xA)(n c:Nat)(u l:Int):qD:=.agg #[yI a n c,Z u,Z l]
theorem tD{w f:xV}{e:Ending}{x:Scd}(h:aw w f e x):∃a c,e=yT (xc a x.1.length c x.2.1 x.2.2)/\OwnS f a (x.1.map Value.string)/\(∀g,blk a x.1.length=some g->w.heap.size<=g)/\yX w f:=by
 obtain⟨y,rfl,j,i⟩:=h;rcases MC j with ⟨c,d⟩|⟨g,b,c,m,n,k⟩
 ·subst c
  have:x.1=[]:=AD d;exact⟨none,0,by rw[d],.inl (by rw[this];rfl),λg a=>(by rw[d]at a;cases a),i⟩
 subst c
 refine⟨_,b,rfl,.inr ⟨g,rfl,k⟩,λl a=>?_,i⟩;have:=du a;omega
end
section
open Tryz
open Go.RowKit Go.Shelf
variable {g1 g2 n3:Nat}{A B:xV}
attribute [local go_sem] Oper.semAt_some
@[reducible] def vj(x:Int×Int×Int×yZ):qD:=ND x.1 x.2.1 x.2.2.1 x.2.2.2
@[reducible] def mv{a:Nat->yZ}{b:Nat}{c:Int}{N:Nat}(x:Pgs a b c N):Array qD:=#[Z (x.1:Int),vj (SZ a b c x.1)]
def KpP(n3 g1 g2:Nat)(A B:xV):Prop:=Below n3 A B/\B.heap[g1]?=A.heap[g1]?/\B.heap[g2]?=A.heap[g2]?
theorem KpP.t{C:xV}(h:KpP n3 g1 g2 A B)(k:KpP n3 g1 g2 B C):KpP n3 g1 g2 A C:=⟨h.1.E k.1,k.2.1.E h.2.1,k.2.2.E h.2.2⟩
theorem KpP.b{w:xV}(d:n3<=w.heap.size)(f:g1<w.heap.size)(g:g2<w.heap.size)(W:xV)(l:Nat)(o a:Obj)(c:w.heap.size<=l)(h:W.heap[l]?=some o)(b:o.isCells=false)(e:o.isWalk=false):KpP n3 g1 g2 W (W.putObj l a) :=⟨belowK_b d W l o a c h b e,World.putObj_heap_other ω,World.putObj_heap_other ω⟩
theorem KpP.V{C:xV}(h:KpP n3 g1 g2 A B)(a:yX B C)(b:n3<=B.heap.size)(c:g1<B.heap.size)(d:g2<B.heap.size):KpP n3 g1 g2 A C :=⟨h.1.E (a.J b),(a.block g1 c).E h.2.1,(a.block g2 d).E h.2.2⟩
def uZ{b:Nat->yZ}{c:Nat}{d:Int}{N:Nat}(u:Nat)(a:List (Pgs b c d N)):Prop:=Good u a/\(N<=u+a.length\/NB (b (c+(u+a.length))) d=none)
theorem QT{w:xV}{g:Nat}{a:Array qD}{t:TypeId}{z:Nat×Nat}(h:w.heap[g]?=some (.cells a t z))(i:Nat)(v:qD)(hv:a[i]?=some v):w.cell? (yA g i)=some v:=by
 simp[World.cell?,h,hv]
theorem ku(h:yX A B):A.grownBy B none:=⟨h.os,h.tape,h.output,h.size,λk a _=>h.block k a⟩
theorem Jb(n:Nat)(hn:1<=n)(l g1 g2 c N u:Nat)(j:Nat->yZ)(d:Int)(t w:qD)(y:xV)(hN:N<=200)(hu:u<=N)
  (aZ:Hid (∀a,yX y a->∀m:Nat,m<N->Calls prog 271 #[je t w (c:Int) (N:Int) d,Z (m:Int)] a λe b=>e=yT (TS (NB (j (c+m)) d))/\yX a b))
  (J F:List (Pgs j c d N)->xV->Prop)
  (Q:∀a x f,J a f->a.length<N->YieldAt Fence.wide (n-1) prog l (mv x) f λe b=>(e=yT (yR true)/\J (a++[x]) b/\KpP y.heap.size g1 g2 f b)\/(e=yT (yR false)/\F (a++[x]) b))
  (W:xV)(P:yX y W)(H:W.heap[g1]?=some (.cells #[.iface 301 (.agg #[t,w]),Z (c:Int),Z (N:Int),Z d] 245 (0,0)))(I:W.heap[g2]?=some (.cells #[Z (u:Int)] 3 (0,0)))
  (M:J [] W)(O:∀s A B,J s A->A.grownBy B none->J s B):CallsIn Fence.wide n prog 270 #[.func (.yield l) #[] #[],zW g2 0,zW g1 0] W λe b=>(∃v,e=yT v) /\
   ((∃f,uZ u f/\J f b)\/(∃a,Good u a/\F a b)):=by
 refine JU func270 rfl trivial ?_ rfl;simp only[ntmps270,GP,BJ,AT,Nat.reduceAdd,Nat.reduceSub,FY,FZ,GO,FI,EK,EV];have T:=Y Q;have D:=Y O;clear Q O;have a:=QT I 0 (Z (u:Int)) rfl
 gi_wp2
 clear a
 gi_loopw [4] (λi wr=>∃(k:Nat) (a:List (Pgs j c d N)),a.length=k/\Good u a/\u+k<=N/\i=Z ((u+k:Nat):Int)/\J a wr/\yX y wr/\wr.heap[g1]?=some (.cells #[.iface 301 (.agg #[t,w]),Z (c:Int),Z (N:Int),Z d] 245 (0,0))) (λi _=>N-(intOf i).toNat)
 case atStart=>exact⟨0,[],rfl,Good.nil u,hu,rfl,M,P,H⟩
 case round =>
  obtain⟨k,a,o,g,p,rfl,f,K,b⟩:=hrel;obtain⟨q,e⟩:∃q,q=u+k:=⟨_,rfl⟩;rw[<-e];have h:=Y e;have i:=Y o;have m:=Y g;have z:=Y f;have x:=Y K;have bI:q<=N:=ω
  have X:=Y b;have bE:=(AP.1 b).1;clear o g f p;have c0:=QT b 0 (.iface 301 (.agg #[t,w])) rfl;have c1:=QT b 1 (Z (c:Int)) rfl;have c2:=QT b 2 (Z (N:Int)) rfl;have c3:=QT b 3 (Z d) rfl;clear b e H I P M
  by_cases L:q<N
  ·have bF:(q:Int)<(N:Int):=ω
   have bJ:IntKind.i64.wrap ((q:Int)+1)=(q:Int)+1:=by simp[IntKind.wrap,IntKind.bits,IntKind.signed];omega
   have g:=aZ.j wr x.j q L;clear K
   cases hR:NB (j (c+q)) d with
   | none =>
    rw[hR]at g;simp only[TS]at g;have E:=Y hR;have v:=Y g;clear hR g
    gi_wp2_with (refine⟨trivial,?_⟩;gi_at_call 271;refine(FE.2 v.j).J ?_;rintro e S ⟨rfl,b⟩)
    refine⟨λf o=>(by cases o),?_⟩
    gi_wp2
    refine AE (KG rfl _ _ _) rfl ?_;refine⟨⟨_,rfl⟩,.inl ⟨a,⟨m.j,.inr ?_⟩,D.j _ _ _ z.j (ku (b.alloc b.size _))⟩⟩;rw[i.j,<-h.j];exact E.j
   | some pg =>
    obtain⟨o,p,r,s⟩:=pg;rw[hR]at g;simp only[TS]at g;obtain⟨f,b⟩:∃f:Pgs j c d N,f.1=q:=⟨⟨q,L,by rw[hR];rfl⟩,rfl⟩;have e:mv f=#[Z (q:Int),.agg #[Z o,Z p,Z r,yQ s]]:=by unfold mv vj SZ;rw[b,hR];rfl
    have bB:=Y e;have G:=Y b;have E:=Y hR;have v:=Y g;clear hR g e b
    gi_wp2_with (refine⟨trivial,?_⟩;gi_at_call 271;refine(FE.2 v.j).J ?_;rintro e S ⟨rfl,b⟩)
    obtain⟨fn,R,aI,bC,g,C⟩:=T.j a f (S.alloc (.cells #[Z o,Z p,Z r,yQ s] 127)) (D.j _ _ _ z.j (ku (b.alloc b.size _))) (by rw[i.j];have:=h.j;omega);rw[bB.j]at g;have bH:=b.size;have aX:=Y ((b.alloc b.size (.cells #[Z o,Z p,Z r,yQ s] 127)).block _ bE);have U:=Y (x.j.E ((b.alloc b.size (.cells #[Z o,Z p,Z r,yQ s] 127)).J x.j.size));clear b;rw[g,Oper.uponIn_round];refine⟨λ_=>hn,?_⟩;refine C.J ?_;rintro e W6 (⟨rfl,hJ6,hk6⟩|⟨rfl,hJx6⟩)
    ·have aY:=Y (hk6.2.1.E (aX.j.E X.j))
     have V:=Y (U.j.E hk6.1);have b:=Y hJ6;clear hJ6 hk6 C g
     gi_wp2
     go_roundw
     case rel=>exact⟨k+1,a++[f],by rw[AK,i.j];rfl,m.j.push (by rw[G.j,i.j,h.j]),by have:=h.j;omega,by have:=h.j;simp;omega,b.j,V.j,aY.j⟩
     case measure=>simp[intOf];omega
    have b:=Y hJx6
    clear hJx6 C g
    gi_wp2
    refine AE (KG rfl _ _ _) rfl ?_;exact⟨⟨_,rfl⟩,.inr ⟨a++[f],m.j.push (by rw[G.j,i.j,h.j]),b.j⟩⟩
  gi_wp2
  go_end0;exact⟨⟨_,rfl⟩,.inl ⟨a,⟨m.j,.inl (by rw[i.j,<-h.j];omega)⟩,z.j⟩⟩
theorem Nr(n:Nat)(b c:qD)(a N:Int)(d:Int)(u:Int)(w:xV):CallsIn Fence.wide n prog 220 #[je b c a N d,Z u] w λe f=>e=yT (.func (.func 270) #[] #[zW (w.heap.size+1) 0,zW w.heap.size 0])/\f=(w.alloc (.cells #[.iface 301 (.agg #[b,c]),Z a,Z N,Z d] 245)).alloc (.cells #[Z u] 3):=by
 refine JU func220 rfl trivial ?_ rfl;simp only[ntmps220,GP,BJ,AT,Nat.reduceAdd,Nat.reduceSub,FY,FZ,GO,FI,EK,EV]
 gi_wp2
 go_ret;exact⟨rfl,rfl⟩
theorem zX(n:Nat)(z:1<=n)(g1 g2 a N u:Nat)(d:Nat->yZ)(b:Int)(g h:qD)(c w:xV)(v:N<=200)(C:u<=N)(k:yX c w)
  (p:Hid (∀f,yX c f->∀m:Nat,m<N->Calls prog 271 #[je g h (a:Int) (N:Int) b,Z (m:Int)] f λe i=>e=yT (TS (NB (d (a+m)) b))/\yX f i))
  (i:w.heap[g1]?=some (.cells #[.iface 301 (.agg #[g,h]),Z (a:Int),Z (N:Int),Z b] 245 (0,0)))(j:w.heap[g2]?=some (.cells #[Z (u:Int)] 3 (0,0))):SeqStopsK Fence.wide n prog 270 #[zW g2 0,zW g1 0] (λx:Pgs d a b N=>mv x) (KpP c.heap.size g1 g2) (uZ u) (Good u) N w:=λl J o W f t r y q =>
 Jb n z l g1 g2 a N u d b g h c v C p J o y W (k.E (f.J k.size)) ((f.block _ (AP.1 i).1).E i) ((f.block _ (AP.1 j).1).E j) q (λs A B x m=>t s A B none x m (λr e=>(by cases e)))
end
section
open Tryz
open Go.RowKit Go.Shelf
variable {b:Nat}{row:Option Nat}{T e:TypeId}{W W':xV}
theorem Fo(B b:Nat)(bs:List qD)(s:yZ)(w:xV)(h:Lib.IsBuilderF 55 5 B b bs w)(c:bs.length+s.size<=140737488355328)(d:B<=w.heap.size):Calls prog 14 #[zW b 0,yQ s] w λe a=>e=yT (.tuple #[Z s.size,.nilIface])/\(Lib.BuilderAtF 55 5 B b (zW b 0) (bs++Lib.strCells s) a/\Below B w a/\Lib.OthersKept 5 (some b) w a):=Any.Builder_WriteString_k tT dr B b bs s w h c d
theorem zL(B b:Nat)(l:List UInt8)(w:xV)(h:Lib.IsBuilderF 55 5 B b (Lib.byteCells l) w)(c:B<=w.heap.size):Calls prog 17 #[zW b 0] w λe a=>e=yT (yQ ⟨l.toArray⟩)/\(Lib.IsBuilderF 55 5 B b (Lib.byteCells l) a/\Below B w a/\Lib.OthersKept 5 (some b) w a):=Any.Builder_String_any_k xB dr B b l w h c
theorem jw{g:Nat}{c:qD}{d:List qD}(h:Row W g (c::d)):∃a t z,W.heap[g]?=some (.cells a t z):=by
 have:=h.cell 0 c rfl;unfold World.cell? at this
 split at this
 ·exact⟨_,_,_,by assumption⟩
 cases this
theorem kx{g:Nat}{c:qD}{d:List qD}(h:Row W g (c::d))(k:W.grownBy W' row)(m:∀r,row=some r->r≠g\/∃o:Obj,W.heap[r]?=some o/\o.isCells=false):Row W' g (c::d):=by
 refine h.V k λe=>?_
 rcases m g e.symm with i|⟨o,f,j⟩
 ·exact i rfl
 obtain⟨a,t,z,l⟩:=jw h
 rw[l]at f;cases f;cases j
theorem qT{a:Nat}{s:Nat}{v:qD}{n:Nat}{d:List qD}(h:W.ownsRow a e s v n d)(m:W.grownBy W' row)(p:∀r,row=some r->∃o:Obj,W.heap[r]?=some o/\o.isCells=false):W'.ownsRow a e s v n d:=by
 refine h.kept m ?_;rcases h.2 with ⟨rfl,_⟩|⟨g,i,j,rfl,_,f,_⟩
 ·exact .inl rfl
 refine .inr λk=>?_
 obtain⟨o,c,l⟩:=p g (by simpa[Value.ownBlock] using k.symm)
 rw[f]at c;cases c;cases l
theorem qK{B:Nat}{bs:List qD}(h:Lib.IsBuilderF T e B b bs W)(j:W.grownBy W' row)(l:∀r,row=some r->r<B\/∃o:Obj,W.heap[r]?=some o/\o.isCells=false):Lib.IsBuilderF T e B b bs W':=by
 have i:∀p,Lib.BuilderAtF T e B b p bs W->Lib.BuilderAtF T e B b p bs W':=by
  rintro p ⟨r,v,f,d,n⟩;have m:b<W.heap.size:=(AP.1 f).1
  have q:some b≠row:=λe=>by
   rcases l b e.symm with h|⟨o,a,g⟩
   ·omega
   rw[f]at a;cases a;cases g
  refine⟨r,v,(j.block b m q).E f,d.kept j ?_,n⟩
  cases hv:v.ownBlock with
  | none=>exact .inl rfl
  | some k =>
   refine .inr λc=>?_
   rcases l k c.symm with h|⟨o,a,g⟩
   ·have:=(d.lt k hv).1;omega
   obtain⟨c,t,s⟩:=Lib.ownsRowF_kind d k hv
   rw[s]at a;cases a;cases g
 rcases h with h|h
 ·exact .inl (i _ h)
 exact .inr (i _ h)
theorem vZ{B:Nat}{bs:List qD}(h:Lib.IsBuilderF T e B b bs W):∃a,W.heap[b]?=some (.cells a T (0,0)):=by
 rcases h with ⟨_,v,a,_⟩|⟨_,v,a,_⟩<;>exact⟨_,a⟩
theorem vU{a:Array qD}{z:Nat×Nat}(g:W.heap[b]?=some (.cells a T z))(h:Lib.OthersKept e (some b) W W')(i:W.heap.size<=W'.heap.size):KeepsOthers W W' :=⟨i,λk o d f=>h k o d (λe=>by cases e;rw[g]at d;cases d;cases f) (λc j e=>by rw[e]at f;cases f)⟩
theorem lO(h:yX W W'):KeepsOthers W W':=⟨h.size,λk o a _=>(h.block k (AP.1 a).1).E a⟩
structure ScL(w3 W:xV)(Rs:List Nat)(M:Nat)(c0 c1 c2 c3:qD)(y:qD)(ents:List yZ)(u l wk wl wm:Int)(wp:yZ):Prop where
 lb:Row W w3.heap.size [c0,c1,c2,c3]
 fb:Row W (w3.heap.size+1) [y,Z u,Z l]
 bb:Row W (w3.heap.size+2) [Z wk,Z wl,Z wm,yQ wp]
 own:W.ownsRow w3.heap.size 9 1 y ents.length (ents.map Value.string)
 yo:∀k,y.ownBlock=some k->w3.heap.size+2<k
 be:yX w3 W
 mr:∀r∈Rs,w3.heap.size<=r/\r<M/\W.heap[r]?=some (.deferred (some []))
 nd:Rs.Nodup
section
variable {w3 W W':xV} {Rs:List Nat} {M:Nat} {c0 c1 c2 c3:qD} {y:qD} {ents:List yZ} {u l wk wl wm:Int} {wp:yZ}
theorem ScL.kept(h:ScL w3 W Rs M c0 c1 c2 c3 y ents u l wk wl wm wp)(m:w3.heap.size<=M)(a:W.grownBy W' row)(c:∀r,row=some r->M<=r/\∃o:Obj,W.heap[r]?=some o/\o.isCells=false):ScL w3 W' Rs M c0 c1 c2 c3 y ents u l wk wl wm wp:=by
 have d:∀g:Nat,∀r,row=some r->r≠g\/∃o:Obj,W.heap[r]?=some o/\o.isCells=false:=λg r e=>.inr (c r e).2
 refine⟨kx h.lb a (d _),kx h.fb a (d _),kx h.bb a (d _),qT h.own a (λr e=>(c r e).2),h.yo,h.be.V a h.be.size (λk e=>AJ m (c k e).1),λr g=>?_,h.nd⟩;obtain⟨i,j,f⟩:=h.mr r g;exact⟨i,j,(a.block r (AP.1 f).1 (λe=>by have:=(c r e.symm).1;omega)).E f⟩
theorem ScL.low(h:ScL w3 W Rs M c0 c1 c2 c3 y ents u l wk wl wm wp)(c:Below M W W')(t:w3.heap.size+2<M)(p:∀k,y.ownBlock=some k->k<M):ScL w3 W' Rs M c0 c1 c2 c3 y ents u l wk wl wm wp:=by
 have d:∀ {g:Nat} {j:List qD},g<M->Row W g j->Row W' g j:=λf a=>⟨AC a.lt c.size,λi v hv=>(DP (a:=⟨_,i,none⟩) (c.block _ f)).E (a.cell i v hv),λi k=>(GQ (a:=⟨_,i,none⟩) (c.block _ f)).E (a.froz i k)⟩
 have s:W'.ownsRow w3.heap.size 9 1 y ents.length (ents.map Value.string):=by
  have k:=h.own;refine⟨k.1,?_⟩;rcases k.2 with q|⟨g,f,i,hv,n,o,m⟩
  ·exact .inl q
  exact .inr ⟨g,f,i,hv,n,(c.block g (p g (by rw[hv];rfl))).E o,m⟩
 exact⟨d ω h.lb,d ω h.fb,d ω h.bb,s,h.yo,h.be.E (c.J ω),λr a=>⟨(h.mr r a).1,(h.mr r a).2.1,(c.block r (h.mr r a).2.1).E (h.mr r a).2.2⟩,h.nd⟩
theorem ScL.top(h:ScL w3 W Rs M c0 c1 c2 c3 y ents u l wk wl wm wp):ScL w3 W Rs W.heap.size c0 c1 c2 c3 y ents u l wk wl wm wp :=⟨h.lb,h.fb,h.bb,h.own,h.yo,h.be,λr a=>⟨(h.mr r a).1,(AP.1 (h.mr r a).2.2).1,(h.mr r a).2.2⟩,h.nd⟩
theorem ScL.I(h:ScL w3 W Rs M c0 c1 c2 c3 y ents u l wk wl wm wp)(a:yX W W'):ScL w3 W' Rs M c0 c1 c2 c3 y ents u l wk wl wm wp :=⟨h.lb.I a,h.fb.I a,h.bb.I a,LZ h.own a,h.yo,h.be.E (a.J h.be.size),λr c=>⟨(h.mr r c).1,(h.mr r c).2.1,(a.block r (AP.1 (h.mr r c).2.2).1).E (h.mr r c).2.2⟩,h.nd⟩
theorem ScL.own_ne(h:ScL w3 W Rs M c0 c1 c2 c3 y ents u l wk wl wm wp){k:Nat}(a:k<=w3.heap.size+2):y.ownBlock≠some k:=λe=>by have:=h.yo k e;omega
theorem ScL.mk_ne(h:ScL w3 W Rs M c0 c1 c2 c3 y ents u l wk wl wm wp){r:Nat}(i:r∈Rs):r≠w3.heap.size+1/\r≠w3.heap.size+2/\y.ownBlock≠some r:=by
 have c:=(h.mr r i).2.2;refine⟨λe=>?_,λe=>?_,λe=>?_⟩
 ·obtain⟨a,t,z,d⟩:=jw h.fb
  rw[e,d]at c;cases c
 ·obtain⟨a,t,z,d⟩:=jw h.bb
  rw[e,d]at c;cases c
 rcases h.own.2 with ⟨rfl,_⟩|⟨g,d,f,rfl,_,a,_⟩
 ·cases e
 have:g=r:=by simpa[Value.ownBlock] using e
 rw[this,c]at a;cases a
theorem ScL.setWas(h:ScL w3 W Rs M c0 c1 c2 c3 y ents u l wk wl wm wp)(f j k:Int)(m:yZ):ScL w3 ((((W.setCell (yA (w3.heap.size+2) 0) (Z f)).setCell (yA (w3.heap.size+2) 1) (Z j)).setCell (yA (w3.heap.size+2) 2) (Z k)).setCell (yA (w3.heap.size+2) 3) (yQ m)) Rs M c0 c1 c2 c3 y ents u l f j k m:=by
 have n:∀ {g:Nat} {o:List qD},g≠w3.heap.size+2->Row W g o->Row ((((W.setCell (yA (w3.heap.size+2) 0) (Z f)).setCell (yA (w3.heap.size+2) 1) (Z j)).setCell (yA (w3.heap.size+2) 2) (Z k)).setCell (yA (w3.heap.size+2) 3) (yQ m)) g o:=λc a =>
  (((a.other _ (JC c) _).other _ (JC c) _).other _ (JC c) _).other _ (JC c) _
 have d:=h.own_ne (AA _)
 have bs:∀ {x:xV},yX w3 x->∀i v,yX w3 (x.setCell (yA (w3.heap.size+2) i) v):=λc i v=>c.setCell (by show w3.heap.size<=w3.heap.size+2;omega) _
 refine⟨n ω h.lb,n ω h.fb,(((h.bb.set 0 σ _).set 1 σ _).set 2 σ _).set 3 σ _,BS (BS (BS (BS h.own d _) d _) d _) d _,h.yo,bs (bs (bs (bs h.be _ _) _ _) _ _) _ _,λr a=>⟨(h.mr r a).1,(h.mr r a).2.1,?_⟩,h.nd⟩;have c:=(h.mk_ne a).2.1;rw[BM _ _ _ _ c,BM _ _ _ _ c,BM _ _ _ _ c,BM _ _ _ _ c];exact(h.mr r a).2.2
theorem ScL.take(h:ScL w3 W Rs M c0 c1 c2 c3 y ents u l wk wl wm wp){a:List yZ}{s q:Int}(x:mL w3.heap.size (w3.heap.size+1) y W a s q W'):∃j,ScL w3 W' Rs M c0 c1 c2 c3 j a s q wk wl wm wp:=by
 obtain⟨j,c,w,t,o,p⟩:=x
 have m:∀ {g:Nat} {n:List qD},g<=w3.heap.size+2->g≠w3.heap.size+1->Row W g n->Row W' g n:=λf d c=>by
  have e:=p _ c.lt d (λe=>h.own_ne f e.symm);exact⟨AC c.lt o.size,λi v hv=>(DP (a:=⟨_,i,none⟩) e).E (c.cell i v hv),λi d=>(GQ (a:=⟨_,i,none⟩) e).E (c.froz i d)⟩
 have v:=h.bb.lt;refine⟨j,m ω ω h.lb,c,m ω ω h.bb,w,λk e=>?_,h.be.E o,λr d=>⟨(h.mr r d).1,(h.mr r d).2.1,?_⟩,h.nd⟩
 ·rcases t with f|⟨H,f,i⟩
  ·exact h.yo k (f.symm.E e)
  rw[f]at e;cases e;omega
 have f:=h.mk_ne d
 exact(p r (AP.1 (h.mr r d).2.2).1 f.1 (λe=>f.2.2 e.symm)).E (h.mr r d).2.2
theorem ScL.takeKeeps(h:ScL w3 W Rs M c0 c1 c2 c3 y ents u l wk wl wm wp){c:List yZ}{r q:Int}(p:mL w3.heap.size (w3.heap.size+1) y W c r q W'):KeepsOthers W W':=by
 obtain⟨x,w,v,s,m,n⟩:=p;refine⟨m.size,λk o d f=>(n k (AP.1 d).1 (λe=>?_) (λe=>?_)).E d⟩
 ·obtain⟨a,t,z,g⟩:=jw h.fb
  rw[e,g]at d;cases d;cases f
 rcases h.own.2 with ⟨rfl,_⟩|⟨g,i,j,rfl,_,a,_⟩
 ·cases e
 have:k=g:=by simpa[Value.ownBlock] using e
 rw[this,a]at d;cases d;cases f
theorem ScL.push(h:ScL w3 W Rs M c0 c1 c2 c3 y ents u l wk wl wm wp){D:Nat}(c:W.heap[D]?=some (.deferred (some [])))(g:M<=D)(d:w3.heap.size<=D):ScL w3 W (D::Rs) W.heap.size c0 c1 c2 c3 y ents u l wk wl wm wp :=⟨h.lb,h.fb,h.bb,h.own,h.yo,h.be,λr a=>by
  rcases DX.1 a with rfl|a
  ·exact⟨d,(AP.1 c).1,c⟩
  exact⟨(h.mr r a).1,(AP.1 (h.mr r a).2.2).1,(h.mr r a).2.2⟩,List.nodup_cons.2 ⟨λf=>by have:=(h.mr D f).2.1;omega,h.nd⟩⟩
end
structure ScN(w3 W:xV)(Rs:List Nat)(b:Nat)(c0 c1 c2 c3:qD)(y:qD)(ents:List yZ)(u l wk wl wm:Int)(wp op:yZ):Prop where
 sl:ScL w3 W Rs b c0 c1 c2 c3 y ents u l wk wl wm wp
 bu:Lib.IsBuilderF 55 5 b b (Lib.byteCells op.data.toList) W
 g1:W.heap[b+1]?=some (.cells #[c0,c1,c2,c3] 245 (0,0))
 g2:W.heap[b+2]?=some (.cells #[Z u] 3 (0,0))
 yb:∀k,y.ownBlock=some k->k<b
 lo:w3.heap.size+2<b
section
variable {w3 W W':xV} {Rs:List Nat} {b:Nat} {c0 c1 c2 c3:qD} {y:qD} {ents:List yZ} {u l wk wl wm:Int} {wp op:yZ}
theorem ScN.kept(h:ScN w3 W Rs b c0 c1 c2 c3 y ents u l wk wl wm wp op)(c:W.grownBy W' row)(f:∀r,row=some r->b<=r/\∃o:Obj,W.heap[r]?=some o/\o.isCells=false):ScN w3 W' Rs b c0 c1 c2 c3 y ents u l wk wl wm wp op:=by
 have i:∀ {g:Nat} {a:Array qD} {t:TypeId} {z:Nat×Nat},W.heap[g]?=some (.cells a t z)->W'.heap[g]?=some (.cells a t z):=λd=>(c.block _ (AP.1 d).1 (λe=>by
  obtain⟨_,o,j,k⟩:=f _ e.symm
  rw[d]at j;cases j;cases k)).E d
 exact⟨h.sl.kept (by have:=h.lo;omega) c f,qK h.bu c (λr e=>.inr (f r e).2),i h.g1,i h.g2,h.yb,h.lo⟩
theorem ScN.alloc(h:ScN w3 W Rs b c0 c1 c2 c3 y ents u l wk wl wm wp op)(o:Obj):ScN w3 (W.alloc o) Rs b c0 c1 c2 c3 y ents u l wk wl wm wp op:=h.kept (World.grownBy_alloc W o none) (λr e=>by cases e)
theorem ScN.setWas(h:ScN w3 W Rs b c0 c1 c2 c3 y ents u l wk wl wm wp op)(f j m:Int)(n:yZ):ScN w3 ((((W.setCell (yA (w3.heap.size+2) 0) (Z f)).setCell (yA (w3.heap.size+2) 1) (Z j)).setCell (yA (w3.heap.size+2) 2) (Z m)).setCell (yA (w3.heap.size+2) 3) (yQ n)) Rs b c0 c1 c2 c3 y ents u l f j m n op:=by
 have p:=h.lo
 have g:∀(X:xV) (i:Nat) (v:qD),X.grownBy (X.setCell (yA (w3.heap.size+2) i) v) (some (w3.heap.size+2)):=λX i v=>⟨rfl,rfl,rfl,σ,λk _ c=>BM _ _ _ _ (λe=>c (by rw[e]))⟩
 have bs:∀ {X:xV},Lib.IsBuilderF 55 5 b b (Lib.byteCells op.data.toList) X->∀i v,Lib.IsBuilderF 55 5 b b (Lib.byteCells op.data.toList) (X.setCell (yA (w3.heap.size+2) i) v):=λd i v=>qK d (g _ i v) (λr e=>by cases e;exact .inl p)
 have a:∀ {X:xV} {k:Nat} {o:Obj},k≠w3.heap.size+2->X.heap[k]?=some o->∀i v,(X.setCell (yA (w3.heap.size+2) i) v).heap[k]?=some o:=λc d i v=>(BM _ _ _ _ c).E d
 have c:b+1≠w3.heap.size+2:=ω
 have d:b+2≠w3.heap.size+2:=ω
 exact⟨h.sl.setWas f j m n,bs (bs (bs (bs h.bu _ _) _ _) _ _) _ _,a c (a c (a c (a c h.g1 _ _) _ _) _ _) _ _,a d (a d (a d (a d h.g2 _ _) _ _) _ _) _ _,h.yb,h.lo⟩
theorem ScN.wrote(h:ScN w3 W Rs b c0 c1 c2 c3 y ents u l wk wl wm wp op){op':yZ}(g:Below b W W')(a:Lib.OthersKept 5 (some b) W W')(d:Lib.IsBuilderF 55 5 b b (Lib.byteCells op'.data.toList) W'):ScN w3 W' Rs b c0 c1 c2 c3 y ents u l wk wl wm wp op' :=⟨h.sl.low g h.lo h.yb,d,a _ _ h.g1 σ (by intro c f e;simp at e),a _ _ h.g2 σ (by intro c f e;simp at e),h.yb,h.lo⟩
end
def InS{i:Nat->yZ}{p:Nat}{r:Int}{N:Nat}(first:Int)(j:Scd)(q:xV)(h:List Nat)(b:Nat)(k m n o:qD)(y:qD)(a:List yZ)(u:Nat)(l:Int)(c:List (Pgs i p r N))(W:xV):Prop :=∃f g s t d,ScN q W h b k m n o y a (u:Int) l f g s t d/\d.size<=64*c.length/\Chn first j u c f g d (a,(u:Int),l)
def InX{m:Nat->yZ}{s:Nat}{w:Int}{N:Nat}(first:Int)(n:Scd)(v:xV)(k:List Nat)(b:Nat)(o p q r:qD)(y:qD)(d:List yZ)(u:Nat)(l:Int)(c:Code)(f:List (Pgs m s w N))(W:xV):Prop :=(c=.exit 0/\(∃g h i j,ScL v W k b o p q r y d (u:Int) l g h i j)/\(Good u f->(d,(u:Int),l)=n)) ∨
 (c=.exit 1/\∃(x:Nat) (z:qD) (a:List yZ) (t g h i:Int) (j:yZ),ScL v W k b o p q r z a ((x+1:Nat):Int) t g h i j/\x<N/\(Good u f->u<=x/\a.length<=d.length+1/\Chn (S:=m) (frm:=s) (n:=w) (size:=N) first n (x+1) [] g h ByteArray.empty (a,((x+1:Nat):Int),t)))
section
variable {SF:Nat->yZ} {fm:Nat} {wd:Int} {N:Nat} {first:Int} {RES:Scd} {w3:xV} {Rs:List Nat} {b:Nat} {c0 c1 c2 c3:qD} {y:qD} {ents:List yZ} {u:Nat} {l:Int}
theorem InS.own(B:Nat)(g:b<=B):OwnFrom B (λ(a:List (Pgs SF fm wd N)) W=>InS first RES w3 Rs b c0 c1 c2 c3 y ents u l a W):=by
 rintro s X Y row ⟨k,m,n,o,j,i,d,f⟩ h c;exact⟨k,m,n,o,j,i.kept h (λr e=>⟨AJ g (c r e).1,(c r e).2⟩),d,f⟩
theorem InX.own(B:Nat)(w:b<=B)(p:w3.heap.size<=b)(c:Code):OwnFrom B (λ(i:List (Pgs SF fm wd N)) W=>InX first RES w3 Rs b c0 c1 c2 c3 y ents u l c i W):=by
 rintro s X Y row h t v
 have q:∀r,row=some r->b<=r/\∃o:Obj,X.heap[r]?=some o/\o.isCells=false:=λr e=>⟨AJ w (v r e).1,(v r e).2⟩
 rcases h with ⟨f,⟨j,k,m,n,g⟩,d⟩|⟨f,x,z,a,r,j,k,m,n,g,o,d⟩
 ·exact .inl ⟨f,⟨j,k,m,n,g.kept p t q⟩,d⟩
 exact .inr ⟨f,x,z,a,r,j,k,m,n,g.kept p t q,o,d⟩
end
theorem qu{F:Fence}{n:Nat}{P:Program}{fn:Func}{tmps:Array qD}{R:Ending->xV->Prop}(B:Nat)(Pr:xV->Prop)(aB:∀W r,B<=r->W.heap[r]?=some (.deferred (some []))->Pr W->Pr (W.putObj r (.deferred none)))(aA:∀W,Pr W->LeavesIn F n P fn tmps R [] .returning W):∀(Rs:List Nat) (W:xV),Rs.Nodup->(∀r∈Rs,B<=r/\W.heap[r]?=some (.deferred (some [])))->Pr W->LeavesInM F n P fn tmps R (Rs.map (λr=>({ target:=.collected r,args:=#[] }:Deferred))) .returning W
 | [],W,_,_,hp=>aA W hp
 | r::Rs,W,hn,hm,hp=>by
  have h0:=hm r (EM ..);refine⟨σ,.inl ⟨r,_,rfl,run_takeDeferred h0.2,?_⟩⟩;have hnr:=List.nodup_cons.1 hn;refine qu B Pr aB aA Rs _ hnr.2 (λq hq=>?_) (aB W r h0.1 h0.2 hp);have h1:=hm q (DJ _ hq);exact⟨h1.1,(World.putObj_heap_other (λe:q=r=>hnr.1 (by rw[<-e];exact hq))).E h1.2⟩
def ScF1(w c:xV)(RB:Nat)(y:qD)(a:List yZ)(u l:Int)(X:xV):Prop:=Row X RB [y,Z u,Z l]/\X.ownsRow c.heap.size 9 1 y a.length (a.map Value.string)/\yX w X
theorem ScF1.put{w c:xV}{RB:Nat}{y:qD}{a:List yZ}{u l:Int}(n:w.heap.size<=c.heap.size)(X:xV)(r:Nat)(m:c.heap.size<=r)(j:X.heap[r]?=some (.deferred (some [])))(h:ScF1 w c RB y a u l X):ScF1 w c RB y a u l (X.putObj r (.deferred none)):=by
 obtain⟨g,i,f⟩:=h
 have d:∀q,some r=some q->∃o:Obj,X.heap[q]?=some o/\o.isCells=false:=λq e=>by cases e;exact⟨_,j,rfl⟩
 exact⟨kx g (grownBy_putObj' X r _) (λq e=>.inr (d q e)),qT i (grownBy_putObj' X r _) d,f.V (grownBy_putObj' X r _) f.size (λk e=>by cases e;omega)⟩
theorem ScL.fin{w c:xV}{m:List Nat}{M:Nat}{t x z A:qD}{y:qD}{a:List yZ}{u l B C D:Int}{E:yZ}{RB:Nat}{o p q:qD}(h:ScL c W m M t x z A y a u l B C D E)(j:Row c RB [o,p,q])(f:w.heap.size<=RB)(n:yX w c):ScF1 w c RB y a u l (((W.setCell (yA RB 0) y).setCell (yA RB 1) (Z u)).setCell (yA RB 2) (Z l))/\(∀r∈m,c.heap.size<=r/\(((W.setCell (yA RB 0) y).setCell (yA RB 1) (Z u)).setCell (yA RB 2) (Z l)).heap[r]?=some (.deferred (some []))):=by
 have g:=j.lt;have s:Row W RB [o,p,q]:=⟨AC g h.be.size,λi v hv=>(DP (a:=⟨_,i,none⟩) (h.be.block _ g)).E (j.cell i v hv),λi d=>(GQ (a:=⟨_,i,none⟩) (h.be.block _ g)).E (j.froz i d)⟩
 have k:y.ownBlock≠some RB:=λe=>by have:=h.yo RB e;omega
 refine⟨⟨((s.set 0 σ _).set 1 σ _).set 2 σ _,BS (BS (BS h.own k _) k _) k _,(((n.E (h.be.J n.size)).setCell f _).setCell f _).setCell f _⟩,λr d=>⟨(h.mr r d).1,?_⟩⟩;have i:r≠RB:=by have:=(h.mr r d).1;omega
 rw[BM _ _ _ _ i,BM _ _ _ _ i,BM _ _ _ _ i];exact(h.mr r d).2.2
