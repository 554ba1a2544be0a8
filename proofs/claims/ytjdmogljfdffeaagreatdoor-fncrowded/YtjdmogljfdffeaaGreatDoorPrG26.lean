import Derived.Test.YtjdmogljfdffeaaGreatDoorPrWiE
import Derived.Test.YtjdmogljfdffeaaGreatDoorPrWdW
import Derived.Deep.CutBlock
set_option maxHeartbeats 16000000
set_option maxRecDepth 8000
set_option linter.all false
namespace Go.Proofs.YtjdmogljfdffeaaGreatDoor
open _root_.ByteArray(empty)
section
open Tryz
open Go.RowKit Go.MuLone
theorem Dt(i:Nat)(x y:Wo)(q:Wp)(e:Ev)(a:Option Addr)(c:Nat)(f:Option Addr)(d g:Nat)(o:Nat->Nat)(w:World)(l:Row w g (RP 0 x q))(C:o g=0)(I:∀b v,Sem.run prog (callFunc i b) v=.ok (.enter i b) v)
  (m:∀b,Row b g (RP 1 x q)->w.grownBy b (some g)->Calls prog i #[.pointer (some ⟨g,0,none⟩),NH e a c f d] b (λr k=>r=.returned (.tuple #[])/\∃j h,HpPost b k g 1 o y j h)):Calls prog 18 #[.pointer (some ⟨g,0,none⟩),.func (.func i) #[] #[],NH e a c f d] w λr b=>r=.returned (.tuple #[])/\∃j h,HpPost w b g 0 o y j h:=by
 have D:=l.lt;have h:=YI (M:=λ_=>True) l (SK (λ_=>trivial));have j:=Z m;clear l m;unfold NH at j⊢;go_enter_defers func18,ntmps18;go_upto_region 1 with fail;generalize b:w.alloc _=L;obtain⟨n,p,k⟩:=LF b;clear b;replace h:=(h.z n).add (UY k.q ω);clear k p;have p:=h.r.y 0;have s:=h.r.E 0;have t:=h.r.lt;have K:=n.size;go_wp2_with (go_at_call 60;refine(lock_free tG ⟨g,0,none⟩ _ p s).A ?_;rintro r F ⟨rfl,k⟩;have b:=h.set 0 σ (.int .i32 1);rw[<-k]at b;have u:=b.m.q.2.y 0;have v:=b.m.q.2.y 1;have z:=b.m.q.2.y 2;have A:=b.m.q.2.y 3;have B:=b.m.q.2.lt;clear k h p s t);clear u v z A B;refine(j.l F b.r b.e).A ?_;rintro r z ⟨rfl,v,u,k⟩;have h:=Z k;have p:=Z b.e;clear k b j;go_wp2;refine leaves_cons (f:=61) (args:=#[.pointer (some ⟨g,0,none⟩)]) σ (by simp[go_sem]) ?_
 refine(unlock_deferred tG ⟨g,0,none⟩ .returning _ (h.l.r.y 0) (h.l.r.E 0)).A ?_;rintro r A B ⟨rfl,rfl,rfl⟩;refine⟨_,JU rfl _ _ _,rfl,v,u,?_⟩;have H:=h.l;have E:=p.l;have G:=OG (BO z (some g)) 0 (.int .i32 0);exact⟨H.r.set 0 σ (.int .i32 0),H.h.I G ((H.ag g (AD D E.size)).j C),λb t=>H.ag b (AD t E.size),G.os.j (H.os.j E.os),G.tape.j (H.tape.j E.tape),G.output.j (H.output.j E.output),AL E.size (AL H.size G.size),λb j k s=>(G.block b (AD j (AL E.size H.size)) (λe=>k (by injection e))).j ((H.block b (AD j E.size) k s).j (E.block b j (λe=>k (by injection e)))),H.cap⟩
end
section
open Tryz
open Go.RowKit
variable {F H L S T W:Int}{news:List Value}{B:Nat}{w w':World}
structure PcI(B:Nat)(w:World)(o:Nat->Nat)(v:Value)(P:List (List Pr))(j:Nat)(news:List Value):Prop where
 own:w.ownsRow B 31 1 v j news
 lab:∀g,v.ownBlock=some g->o g=5
 low:∀b,o b≠0->B<=b
 ech:∀i,i<j->∃p c,news[i]?=some (.slice p (P.getD i []).length c)/\OwL w o (7+i) p (LH (P.getD i []))
theorem PcI.z{o:Nat->Nat}{v:Value}{P:List (List Pr)}{j:Nat}(h:PcI B w o v P j news)(a:Below w.heap.size w w'):PcI B w' o v P j news :=⟨LR h.own a,h.lab,h.low,λi e=>by obtain⟨p,c,b,d⟩:=h.ech i e;exact⟨p,c,b,d.only (K:=λ_=>False) (sy a) id⟩⟩
theorem PcI.push{g cap:Nat}{W:World}{o:Nat->Nat}{v:Value}{P:List (List Pr)}{j:Nat}{a:Option Addr}{c:Nat}(h:PcI B w o v P j news)(z:B<=w.heap.size)(d:Below w.heap.size w W)(n:OwnS W a (LH (P.getD j [])))(m:∀g,blk a (P.getD j []).length=some g->w.heap.size<=g)
  (own:w'.ownsRow B 31 1 (.slice (some ⟨g,0,none⟩) (j+1) cap) (j+1) (news++[.slice a (P.getD j []).length c]))(p:W.grownBy w' v.ownBlock)(q:v.ownBlock=some g\/g=W.heap.size):∃b,PcI B w' b (.slice (some ⟨g,0,none⟩) (j+1) cap) P (j+1) (news++[.slice a (P.getD j []).length c]):=by
 have C:=d.size
 have r:=λb k=>XJ (g:=b) n fd k
 have hv:∀b,v.ownBlock=some b->b<w.heap.size:=λb k=>(h.own.lt b k).2
 refine⟨λb=>if b<w.heap.size then o b else if blk a (P.getD j []).length=some b then 7+j else if b=W.heap.size then 5 else 0,own,λx e=>?_,λb=>?_,λi A=>?_⟩
 ·cases e
  rcases q with k|k
  ·exact(AF (hv g k)).j (h.lab g k)
  show(if g<w.heap.size then o g else if blk a (P.getD j []).length=some g then 7+j else if g=W.heap.size then 5 else 0)=5
  rw[AG ω,AG (λe=>by have:=r g e;omega),AF k]
 ·show(if b<w.heap.size then o b else if blk a (P.getD j []).length=some b then 7+j else if b=W.heap.size then 5 else 0)≠0->B<=b
  by_cases f:b<w.heap.size
  ·rw[AF f];exact h.low b
  exactλ_=>ω
 have f:∀b,b<w.heap.size->(λb=>if b<w.heap.size then o b else if blk a (P.getD j []).length=some b then 7+j else if b=W.heap.size then 5 else 0) b=o b:=λb d=>AF d
 have l:Only (λb=>if b<w.heap.size then o b else if blk a (P.getD j []).length=some b then 7+j else if b=W.heap.size then 5 else 0) (λk=>k=5) W w':=nt p (λx e=>(f x (hv x e)).j (h.lab x e));have e:news.length=j:=by rw[h.own.1,KE]
 by_cases b:i<j
 ·obtain⟨y,s,t,u⟩:=h.ech i b
  exact⟨y,s,by rw[BA ω];exact t,((u.lab f).only (K:=λ_=>False) (sy d) id).only l ω⟩
 obtain rfl:i=j:=ω
 refine⟨a,c,by rw[CX ω,e];simp,(UQ n RA m (λx k=>?_)).only l ω⟩;show(if x<w.heap.size then o x else if blk a (P.getD i []).length=some x then 7+i else if x=W.heap.size then 5 else 0)=7+i;rw[AG (by have:=m x k;omega),AF k]
theorem PcI.pso{o f:Nat->Nat}{p:Option Addr}{c:Nat}{P:List (List Pr)}(h:PcI B w o (.slice p P.length c) P P.length news)(d:∀b,B<=b->b<w.heap.size->f b=o b):YR w f p P:=by
 by_cases q:P.length=0
 ·exact .inl q
 obtain⟨g,k,e,b,a⟩:=h.own.form ω
 injection e with l _ m;subst l m;refine .inr ⟨g,rfl,a,(d g b a).j (h.lab g rfl),λi s=>?_⟩;obtain⟨v,j,t,u⟩:=h.ech i s;exact⟨v,j,(SA h.own).cell i _ t,u.imp_right λ⟨x,e,r,n⟩=>⟨x,e,r,(d x (h.low x ω) r.lt).j n⟩⟩
def yO(w w':World)(r:Ending)(x:Wo):Prop:=∃q o news,r=.returned (LO x q)/\RH x w' q o/\x.rs.length<=q.cs/\w'.ownsRow w.heap.size 31 1 (.slice q.p x.P.length q.cp) x.P.length news/\(∀b,b<w.heap.size->o b=0)/\Below w.heap.size w w'
def xF(a w:World)(c b:Value)(P:List (List Pr)):Prop:=∃(j:Nat) (o:Nat->Nat) (news:List Value),j<=P.length/\b=.int .i64 (j:Int)/\PcI a.heap.size w o c P j news/\Below a.heap.size a w
theorem Ft(x:Wo)(q:Wp)(w:World)(h:x.at w q)(cU:LG x.ss x.ws=true)(A:x.ok):Calls prog 12 #[LO x q] w λr w'=>yO w w' r x:=by
 obtain⟨⟨l,cQ,cS⟩,i,g⟩:=PA cU;have n:=A.le;have eF:=A.p.1;have eI:=A.t.1;have eG:=(VS A.s).1;have cY:Hid (∀j,j<x.P.length->(x.P.getD j []).length<=1048576):=Z (λj hj=>by have:=(VS (A.p.2 (x.P.getD j []) (by simp[List.getD,hj]))).1;omega);have k:=Z (λw' o c=>gq q.a x.ss q.c q.a' x.ws q.c' w' o c cQ cS (λs b=>by have:=i s b;omega) (λy a=>by have:=AU (g y a);omega));unfold LE at k;have bQ:=Z (QB (ws:=x.ws) λy a=>by have:=AU (g y a);omega);have m:DepF w (λb=>b≠w.heap.size) (λW=>x.at W q):=(nG h (λw' d=>h.z d)).A (λb d _=>ω);obtain⟨i0,a,c,e,f⟩:=XK ef;have E:=Z (AH a (AH c (AH e f)));clear a c e f;obtain⟨i1,a,c,e,f⟩:=XK mw;have HJ:=Z (AH a (AH c (AH e f)));clear a c e f;unfold LO;clear h cU l i g n A;go_enter func12,ntmps12
 go_upto_region 1 with fail;generalize c:w.alloc _=v1;obtain⟨a,g,l⟩:=LF c;clear c;generalize c:v1.alloc _=v2;obtain⟨e,i,f⟩:=LF c;clear c;rw[g]at f i;have d:=a.j (e.A a.size);have c:Sc w v2 w.heap.size (wL x q) _:=⟨⟨d.os,d.tape,d.output,d.size,λb R _=>d.block b R⟩,(l.z e).q,((m.z a).z e).and (UY f.q ω)⟩;clear d a e l f g i m;have a:=c.r.y 1;have e:=c.r.y 2;have i:=c.r.lt;go_wp2_with fail;clear a e i;refine(k.l _ c.m.q.1.h1 c.m.q.1.h2).A ?_;rintro r v3 ⟨g,v,rfl,p,own,C,d⟩;replace c:=c.z d;have l3:=d.size;obtain⟨a2,e,rfl⟩:=na own;have t:=(pO own).1.hld bQ.l;clear k d;go_wp2_with fail;have f:=nh (some ⟨g,0,none⟩) (x.ss.map KU) x.ss.length x.ss.length a2 (LJ x.ws) x.ws.length e σ (QH _) v3 p.plt t cQ cS p.len bQ.l;rw[mZ,pF]at f;unfold LE at f;refine f.A ?_
 rintro r G ⟨l,o,n,s,rfl,a,u,z,d⟩;have lw:=c.e.size;have l4:w.heap.size+1<G.heap.size:=(c.z d).m.q.2.lt
 have gA:∀g,blk l x.ss.length=some g->w.heap.size+1<g:=λg k=>by have:=u g k;have:=c.m.q.2.lt;omega
 have gB:∀g,blk n x.ws.length=some g->w.heap.size+1<g:=λg k=>by have:=z g k;have:=c.m.q.2.lt;omega
 have uA:=λg k=>XJ (g:=g) a.s (λi m=>i (Gp m)) k
 have uB:=λg k=>XJ (g:=g) a.p (λi m=>i (wM m)) k
 have dU:=a.ne;replace c:=(c.z d).add ((XE a.s VU (λg k=>KQ (gA g k)) (SB:=w.heap.size) ω).and (XE a.p ip (λg k=>KQ (gB g k)) (SB:=w.heap.size) ω));clear f d a own p t C u z;have a:=c.r.y 1;have e:=c.r.y 2;have d:=c.r.E 1;have f:=c.r.E 2;have i:=c.r.lt;go_upto_region 2 with fail;clear a d e f i;replace c:=(c.set 1 σ (.slice l x.ss.length o)).set 2 σ (.slice n x.ws.length s);have z5:((G.setCell ⟨w.heap.size,1,none⟩ (.slice l x.ss.length o)).setCell ⟨w.heap.size,2,none⟩ (.slice n x.ws.length s)).heap.size=G.heap.size:=by rw[BJ,BJ]
 generalize a:World.setCell (World.setCell _ _ _) _ _=v5 at c z5⊢;clear a;have u:=Z (ZR q.s x.rs q.cs v5 c.m.q.1.1.h3 ω);unfold LQ at u;have a:=c.r.y 13;have d:=c.r.E 13;have i:=c.r.lt;go_wp2_with fail;clear a d i;refine u.l.A ?_;rintro r v6 ⟨m,t,rfl,dL,a,e,d⟩;unfold LQ;have eK:=d.size
 have Q:∀g,blk m x.rs.length=some g->G.heap.size<=g:=λg k=>by have:=e g k;omega
 have uC:=λg k=>XJ (g:=g) a fd k
 replace c:=(c.z d).add (XE a RA e (SB:=w.heap.size) (by have:=c.r.lt;omega));clear u d a e;have a:=c.r.y 13;have C:=c.r.y 14;have d:=c.r.E 13;have I:=c.r.E 14;have i:=c.r.lt;go_wp2_with fail;clear a d C I i;have eM:=c.e.size;replace c:=c.set 13 σ (.slice m x.rs.length t);have z7:(v6.setCell ⟨w.heap.size,13,none⟩ (.slice m x.rs.length t)).heap.size=v6.heap.size:=BJ _ _ _;generalize d:World.setCell _ _ _=a at c z7⊢;clear d;go_loopw [3,20] (λf d wr=>xF a wr f d x.P) (λ_ d _=>x.P.length-(intOf d).toNat)
 case atStart=>exact⟨0,λ_=>0,[],AO _,rfl,⟨CE _ _ _ _,λg e=>by(cases e),λb e=>absurd rfl e,λi d=>ω⟩,AC _ _⟩
 case round =>
  rename Value=>f
  obtain⟨j,oj,news,hj,rfl,z,C⟩:=hrel;have f:=c.z C;have O:=C.size
  by_cases cP:j<x.P.length
  ·have dN:(j:Int)<(x.P.length:Int):=ω
   have eC:(0:Int)<=(j:Int):=ω
   have eJ:IntKind.i64.wrap ((j:Int)+1)=((j+1:Nat):Int):=by rw[jv _ ω ω];omega
   obtain⟨b,ob,p,P,d,eB,X,K⟩:=f.m.q.1.1.1.h4.at cP;rw[d];clear d c f;have cH:=cY.l j cP;obtain⟨d,bU⟩:∃y,Hid (y=x.P.getD j []):=⟨_,Z rfl⟩;have N:=Z z;have cW:=Z C;rw[<-bU.l]at X K cH;clear z C;have u:=Z (ZR p d P (wr.alloc (.cells #[.slice p d.length P] 31)) (K.l.z (KW _ _)) cH);unfold LQ at u;go_wp2_with fail;refine u.l.A ?_;rintro r I ⟨M,c6,rfl,dM,cT,g6,cI⟩;unfold LQ;have D:=Z ((KW wr (.cells #[.slice p d.length P] 31)).j (cI.A σ));have U:=Z cT;have bJ:Hid (∀g,blk M d.length=some g->wr.heap.size<=g):=Z (λg k=>by have:=g6 g k;simp at this;omega);have dZ:=D.l.size;clear u dM cT g6 cI X K;go_wp2_with (at_builtin;refine QN _ rfl _ _ 34 rfl a.heap.size underlying34 HJ.l rfl ω _ j _ rfl ((LR N.l.own D.l).alloc _) ⟨I.heap.size,0,none⟩ 1 1 [.slice M d.length c6] rfl rfl (World.news_of_block (AW I _)) (by intro u hu;simp at hu;subst hu;rfl) τ (I.heap.size+1) σ ?_;intro g9 cZ w9 aE X aJ dQ;have bT:=Z aE;have K:=Z X;have cV:=Z aJ;clear aE X aJ)
   rw[bU.l]at bT U bJ K;have X:=D.l.j ((KW I (.cells #[.slice M (x.P.getD j []).length c6] 31)).A dZ);obtain⟨o9,dV⟩:=N.l.push O X (U.l.alloc' _) bJ.l bT.l K.l (cV.l.imp_right (λe=>by rw[e];simp));exact⟨⟨j+1,o9,_,ω,ν,dV,TL (cW.l.j (X.A O)) ((LR N.l.own D.l).alloc _) K.l τ⟩,by simp[intOf];omega⟩
  obtain rfl:j=x.P.length:=ω
  obtain⟨p,pc,rfl⟩:=na z.own;have lr:=f.m.q.1.1.2.lt;obtain⟨D,u⟩:∃y,Hid (y=λb=>if a.heap.size<=b then (if b<wr.heap.size then oj b else 4) else if blk l x.ss.length=some b then 1 else if blk n x.ws.length=some b then 2 else if blk m x.rs.length=some b then 3 else 0):=⟨_,Z rfl⟩;have lV:w.heap.size+1<a.heap.size:=c.m.q.1.1.2.lt
  have hF:∀b,b<=w.heap.size+1->D b=0:=λb d=>by rw[u.l];simp only[];rw[AG ω,AG (λe=>by have:=gA b e;omega),AG (λe=>by have:=gB b e;omega),AG (λe=>by have:=Q b e;omega)]
  have I:YR wr D p x.P:=z.pso (λb R y=>by rw[u.l];simp only[];rw[AF R,AF y]);have y:DepF wr (λb=>b≠w.heap.size) (λW=>WoG (x.ss.map Value.string) (MH x.ws) (LH x.rs) x.P.length (λi=>x.P.getD i []) [] W ⟨l,o,n,s,m,t,p,pc,none,0⟩ D):=WoG.depF ⟨UQ f.m.q.1.2.1 VU (lo:=0) (λ_ _=>AO _) (λg k=>?_),UQ f.m.q.1.2.2 ip (lo:=0) (λ_ _=>AO _) (λg k=>?_),UQ f.m.q.2 RA (lo:=0) (λ_ _=>AO _) (λg k=>?_),I,.inl rfl⟩ (hF _ ω)
  rotate_left
  ·rw[u.l];simp only[];rw[AG (by have:=uA g k;omega),AF k]
  ·rw[u.l];simp only[];rw[AG (by have:=uB g k;omega),AG (λe=>by rcases dU with h|h|h;rw[h]at e;cases e;rw[h]at k;cases k;exact h (e.j k.symm)),AF k]
  ·rw[u.l];simp only[];rw[AG (by have:=uC g k;omega),AG (λe=>by have:=uA g e;have:=Q g k;omega),AG (λe=>by have:=uB g e;have:=Q g k;omega),AF k]
  replace f:=(f.add y).add (tf z.own (λb k e=>by have:=(z.own.lt b k).1;omega));clear c y I C;have c:=f.set 14 σ (.slice p x.P.length pc);have eL:=c.m.q.1.1.1.1.2.lt;have N:=Z (YS (P:=prog) c.m.q.1.1.1.1.1.h5 _ _ underlying23 q.ct);have C:=f.r.y 14;have R:=f.r.y 15;have I:=f.r.E 14;have U:=f.r.E 15;have i:=f.r.lt;have M:=Z c;have P:(wr.setCell ⟨w.heap.size,14,none⟩ (.slice p x.P.length pc)).heap.size=wr.heap.size:=BJ _ _ _;clear f c;go_upto_region 11 with (at_builtin;refine xu rfl _ _ 23 rfl 9 i0 _ 1 16 underlying23 E.l.1 E.l.2.1 E.l.2.2.1 E.l.2.2.2 none rfl (.inl rfl) _ rfl x.ts.length _ N.l ω ω ?_;intro f k wx eH y X;have c:=M.l.z X;have K:=Z y;have R:=c.r.y 15;have U:=c.r.E 15;have i:=c.r.lt;clear y X)
  clear C I R U i N;replace c:=c.set 15 σ (.slice f x.ts.length k);have I:Hid (x.ts.length=0\/(f=some ⟨wr.heap.size,0,none⟩/\Row (wx.setCell ⟨w.heap.size,15,none⟩ (.slice f x.ts.length k)) wr.heap.size (x.ts.map Value.string))):=Z (K.l.imp_right (λ⟨e,r⟩=>⟨by rw[e,P],by rw[<-P];exact r.other _ (by show w.heap.size≠_;rw[P];omega) _⟩));generalize i:World.setCell wx _ _=N at c I⊢;clear i K M;have R:RH x N ⟨l,o,n,s,m,t,p,pc,f,k⟩ D:=⟨c.m.q.1.2.h1,c.m.q.1.2.h2,c.m.q.1.2.h3,c.m.q.1.2.h4,?_⟩
  rotate_left
  ·rcases I.l with h|⟨rfl,r⟩
   ·exact .inl (by rw[AB h];rfl)
   exact .inr ⟨_,rfl,r,by rw[u.l];simp only[];rw[AF O,AG ω]⟩
  refine BG ?_;refine AS rfl 36 _ rfl w.heap.size 0 rfl _ _ c.r.range underlying36 rfl LX ?_;simp only[J];refine BI rfl 36 _ _ rfl (w.heap.size+1) 0 #[.int .i64 x.w,.slice l x.ss.length o,.slice n x.ws.length s,.bool x.up,.int .i64 x.W,.int .i64 x.S,.int .i64 x.L,.int .i64 x.T,.int .i64 x.H,.int .i64 x.F,.int .i64 x.R,.int .i64 x.U,.int .i64 x.O,.slice m x.rs.length t,.slice p x.P.length pc,.slice f x.ts.length k] rfl rfl (c.m.q.1.1.1.1.2.there rfl) LX κ ?_
  try simp only[J]
  have i:=OQ N (w.heap.size+1) 0 [.int .i64 x.w,.slice l x.ss.length o,.slice n x.ws.length s,.bool x.up,.int .i64 x.W,.int .i64 x.S,.int .i64 x.L,.int .i64 x.T,.int .i64 x.H,.int .i64 x.F,.int .i64 x.R,.int .i64 x.U,.int .i64 x.O,.slice m x.rs.length t,.slice p x.P.length pc,.slice f x.ts.length k];have U:=c.m.q.1.1.1.1.2.sets [.int .i64 x.w,.slice l x.ss.length o,.slice n x.ws.length s,.bool x.up,.int .i64 x.W,.int .i64 x.S,.int .i64 x.L,.int .i64 x.T,.int .i64 x.H,.int .i64 x.F,.int .i64 x.R,.int .i64 x.U,.int .i64 x.O,.slice m x.rs.length t,.slice p x.P.length pc,.slice f x.ts.length k] rfl;have K:=R.I i (hF _ ω);have M:=c.m.q.2.kept i (.inr (λe=>by have:=(c.m.q.2.lt _ e).1;omega));have y:Below w.heap.size w (N.setCells (w.heap.size+1) 0 [.int .i64 x.w,.slice l x.ss.length o,.slice n x.ws.length s,.bool x.up,.int .i64 x.W,.int .i64 x.S,.int .i64 x.L,.int .i64 x.T,.int .i64 x.H,.int .i64 x.F,.int .i64 x.R,.int .i64 x.U,.int .i64 x.O,.slice m x.rs.length t,.slice p x.P.length pc,.slice f x.ts.length k]):=⟨i.os.j c.e.os,i.tape.j c.e.tape,i.output.j c.e.output,AL c.e.size i.size,λb d=>(i.block b (by have:=c.e.size;omega) (λe=>by injection e;omega)).j (c.e.block b d (λe=>by injection e;omega))⟩
  generalize World.setCells _ _ _ _=X at U K M y⊢;have C:=Z (AH K (AH M y));clear c R K M y i I
  try go_wp2
  exact VP 2 36 results12 _ rfl [.int .i64 x.w,.slice l x.ss.length o,.slice n x.ws.length s,.bool x.up,.int .i64 x.W,.int .i64 x.S,.int .i64 x.L,.int .i64 x.T,.int .i64 x.H,.int .i64 x.F,.int .i64 x.R,.int .i64 x.U,.int .i64 x.O,.slice m x.rs.length t,.slice p x.P.length pc,.slice f x.ts.length k] _ U underlying36 rfl LX rfl ⟨⟨l,o,n,s,m,t,p,pc,f,k⟩,D,news,rfl,C.l.1,dL,C.l.2.1.A ω,λb d=>hF b ω,C.l.2.2⟩
theorem yT:(prog.info? 67).map (·.size)=some 6:=κ
def vE:Wo:=⟨0,[],[],false,0,0,0,0,0,0,0,0,0,[],[],[]⟩
def Wo.doR(x:Wo)(e:Ev):Wo:=if MP x=true then x.doE e else vE
theorem G6{v y:World}{c:Nat}{l:Int}{o e:Nat->Nat}{x:Wo}{q:Wp}(a:Below v.heap.size v y)(H:HpPost y w' c l o x q e):HpPost v w' c l o x q e :=⟨H.r,H.h,λb h=>H.ag b (AD h a.size),H.os.j a.os,H.tape.j a.tape,H.output.j a.output,AL a.size H.size,λb d f g=>(H.block b (AD d a.size) f g).j (a.block b d),H.cap⟩
theorem du{x:Wo}(h:MP x=true):x.ok/\LG x.ss x.ws=true/\0<x.P.length:=by
 unfold MP at h;simp only[BE]at h;obtain⟨_,d,a,b,c⟩:=h;unfold PT at b;unfold QR at c;simp only[BE,BC,DO]at b c;refine⟨⟨.inl d,?_,⟨b.1.2,b.2⟩,c.1,λs e=>by have:=c.2 s e;omega⟩,d,ω⟩;unfold PX at a
 by_cases e:x.up=true
 ·rw[AF e]at a
  unfold NE at a;simp only[BE]at a;exact a.1.1.2
 rw[AG e]at a
 have:=AU (by unfold QA at a;exact a);rw[AB this.2.2.2.2.2.2];exact TQ
def vU(w w':World)(r:Ending)(y:Wo):Prop:=∃q o,r=.returned (LO y q)/\RH y w' q o/\(∀b,o b≠0->w.heap.size<=b/\b<w'.heap.size)/\Below w.heap.size w w'
def DoK(w w':World)(r:Ending)(y:Wo):Prop:=∃q o,r=.returned (LO y q)/\RH y w' q o/\(∀b,o b≠0->w.heap.size<=b/\b<w'.heap.size)/\Below w.heap.size w w'/\y.rs.length<=q.cs
theorem DoK.i{r:Ending}{y:Wo}(h:DoK w w' r y):vU w w' r y:=by
 obtain⟨q,o,a,b,c,d,_⟩:=h;exact⟨q,o,a,b,c,d⟩
theorem tb(x:Wo)(q:Wp)(e:Ev)(a:Option Addr)(c:Nat)(f:Option Addr)(d:Nat)(w:World)(h:x.at w q)(hc:x.rs.length<=q.cs)(I:x.le 1048576)(bI:Chs w a e.b)(hi:Ints w f e.fs)(he:e.le)(ty:TypeId)(gv:Value)(bQ:w.cell? ⟨1,0,none⟩=some (.iface ty gv))(bJ:w.cell? ⟨0,0,none⟩=some (.iface 263 (.agg #[.pointer (some ⟨3,125,none⟩)])))(cE:1<w.heap.size):Calls prog 5 #[LO x q,NH e a c f d] w λr w'=>DoK w w' r (x.doR e):=by
 have m:=Z (λw' k=>Im x q w' k hc I);have o:=Z (λw' k (k2:LG x.ss x.ws=true) k3=>Ft x q w' k k2 k3);unfold LO at m o⊢;unfold NH;have HH:=Z h;have C:=Z bI;have E:=Z hi;have HE:=Z he;have v:=Z (AH bQ bJ);clear h bI hi he bQ bJ hc I;obtain⟨t,j⟩:∃y,Hid (y=x.doR e):=⟨_,Z rfl⟩;rw[<-j.l];go_enter func5,ntmps5;go_upto_region 1 with fail;generalize b:w.alloc _=v1;obtain⟨i,D,b0⟩:=LF b;clear b;generalize g:v1.alloc _=v2;obtain⟨b,M,s⟩:=LF g;clear g;generalize l:v2.alloc _=v3;obtain⟨g,z2,z⟩:=LF l;clear l;rw[D]at s M;rw[M]at z z2;have n:=i.j ((b.j (g.A b.size)).A i.size);have l:=((b0.z b).z g).q;have u:=(s.z g).q;have p:=z.q;clear i b g b0 s z D M;refine BG ?_;refine AS rfl 36 _ rfl w.heap.size 0 rfl _ _ l.range underlying36 rfl LX ?_;simp only[J];go_wp2_with fail
 refine(m.l _ (HH.l.z n)).A ?_;rintro r v4 ⟨rfl,i⟩;replace n:=n.j (i.A n.size);replace l:=l.z i;replace u:=u.z i;replace p:=p.z i;clear i m;obtain⟨ok,i⟩:∃y,Hid (y=MP x):=⟨_,Z rfl⟩;rw[<-i.l]
 cases ok with
 | false =>
  have g:t=vE:=by rw[j.l];unfold Wo.doR;rw[<-i.l,AG σ]
  have U:=Z g;clear g o j;go_upto_region 2 with fail;refine BG ?_;refine UB rfl (.agg #[.int .i64 0,.slice none 0 0,.slice none 0 0,.bool false,.int .i64 0,.int .i64 0,.int .i64 0,.int .i64 0,.int .i64 0,.int .i64 0,.int .i64 0,.int .i64 0,.int .i64 0,.slice none 0 0,.slice none 0 0,.slice none 0 0]) γ ?_;simp only[J];refine BI rfl 36 _ _ rfl (w.heap.size+1+1) 0 #[.int .i64 0,.slice none 0 0,.slice none 0 0,.bool false,.int .i64 0,.int .i64 0,.int .i64 0,.int .i64 0,.int .i64 0,.int .i64 0,.int .i64 0,.int .i64 0,.int .i64 0,.slice none 0 0,.slice none 0 0,.slice none 0 0] rfl rfl (p.there rfl) LX κ ?_
  try simp only[J]
  have m:=OQ v4 (w.heap.size+1+1) 0 [.int .i64 0,.slice none 0 0,.slice none 0 0,.bool false,.int .i64 0,.int .i64 0,.int .i64 0,.int .i64 0,.int .i64 0,.int .i64 0,.int .i64 0,.int .i64 0,.int .i64 0,.slice none 0 0,.slice none 0 0,.slice none 0 0];have M:=p.sets [.int .i64 0,.slice none 0 0,.slice none 0 0,.bool false,.int .i64 0,.int .i64 0,.int .i64 0,.int .i64 0,.int .i64 0,.int .i64 0,.int .i64 0,.int .i64 0,.int .i64 0,.slice none 0 0,.slice none 0 0,.slice none 0 0] rfl;have D:=n.j (MR m n.size (λx e=>by have e:=CZ e;omega));generalize World.setCells _ _ _ _=Q at M D m⊢;clear m l u p n
  try go_wp2
  exact VP 4 36 results5 _ rfl [.int .i64 0,.slice none 0 0,.slice none 0 0,.bool false,.int .i64 0,.int .i64 0,.int .i64 0,.int .i64 0,.int .i64 0,.int .i64 0,.int .i64 0,.int .i64 0,.int .i64 0,.slice none 0 0,.slice none 0 0,.slice none 0 0] _ M underlying36 rfl LX rfl ⟨⟨none,0,none,0,none,0,none,0,none,0⟩,λ_=>0,by rw[U.l];rfl,by rw[U.l];exact⟨.inl rfl,.inl rfl,.inl rfl,.inl rfl,.inl rfl⟩,λb k=>absurd rfl k,D,by rw[U.l];exact Y _⟩
 | true =>
  obtain⟨ho,cC,cF⟩:=du i.l.symm;have g:t=x.doE e:=by rw[j.l];unfold Wo.doR;rw[<-i.l,AF rfl]
  have U:=Z g;clear g j i;go_upto_region 3 with fail;refine BG ?_;refine AS rfl 36 _ rfl w.heap.size 0 rfl _ _ l.range underlying36 rfl LX ?_;simp only[J];go_wp2_with fail;refine(o.l _ (HH.l.z n) cC ho).A ?_;rintro r v5 ⟨K,o5,news,rfl,P,aR,O,z5,i⟩;have l5:=i.size;have lR:=p.lt;replace n:=n.j (i.A n.size);replace l:=l.z i;replace u:=u.z i;replace p:=p.z i;clear i o;unfold LO;go_upto_region 4 with fail;generalize g:v5.alloc _=A;obtain⟨i,N,b6⟩:=LF g;have X:=Z N;clear g N
  iterate 6(generalize Value.agg _=A9)
  refine BG ?_;refine UB rfl (.agg #[.nilFunc,.func (.func 13) #[] #[],.func (.func 14) #[] #[],.func (.func 15) #[] #[],.func (.func 16) #[] #[],.func (.func 17) #[] #[]]) γ ?_;simp only[J];refine tw rfl (.pointer (some ⟨A.heap.size,0,none⟩)) (A.alloc (.cells #[.nilFunc,.nilFunc,.nilFunc,.nilFunc,.nilFunc,.nilFunc] 67)) γ ?_;simp only[J];refine BI rfl 67 _ _ rfl A.heap.size 0 #[.nilFunc,.func (.func 13) #[] #[],.func (.func 14) #[] #[],.func (.func 15) #[] #[],.func (.func 16) #[] #[],.func (.func 17) #[] #[]] rfl rfl ((LU A #[.nilFunc,.nilFunc,.nilFunc,.nilFunc,.nilFunc,.nilFunc] 67).there rfl) yT κ ?_
  try simp only[J]
  have Q:=(LU A #[.nilFunc,.nilFunc,.nilFunc,.nilFunc,.nilFunc,.nilFunc] 67).sets [.nilFunc,.func (.func 13) #[] #[],.func (.func 14) #[] #[],.func (.func 15) #[] #[],.func (.func 16) #[] #[],.func (.func 17) #[] #[]] rfl;have m:Below A.heap.size A ((A.alloc (.cells #[.nilFunc,.nilFunc,.nilFunc,.nilFunc,.nilFunc,.nilFunc] 67)).setCells A.heap.size 0 [.nilFunc,.func (.func 13) #[] #[],.func (.func 14) #[] #[],.func (.func 15) #[] #[],.func (.func 16) #[] #[],.func (.func 17) #[] #[]]):=(KW A _).j (MR (OQ _ _ _ _) σ (λg e=>by cases e;exact Y _));generalize World.setCells _ _ _ _=z at Q m⊢;obtain⟨j,M⟩:∃y,y=v5.heap.size:=⟨_,rfl⟩;obtain⟨G,D⟩:∃y,y=A.heap.size:=⟨_,rfl⟩;have cH:=X.l;obtain⟨s,o⟩:∃y,Hid (y=λb=>if b<v5.heap.size then o5 b else 0):=⟨_,Z rfl⟩;have l4:w.heap.size+1+1<v4.heap.size:=lR
  have N:∀b,b<v4.heap.size->s b=0:=λb i=>by rw[o.l];simp only[];rw[AF ω];exact z5 b i
  have R:s j=0:=by rw[o.l];simp only[];rw[AG ω]
  have dW:=((((P.lab (o':=s) (λb i=>by rw[o.l];exact AF i)).depF R).and (tf O (λb k e=>by have:=(O.lt b k).2;omega))).z i).z m;have dI:DepF w (λb=>b<w.heap.size) (λW=>Ints W f e.fs/\Chs W a e.b/\W.cell? ⟨1,0,none⟩=some (.iface ty gv)/\W.cell? ⟨0,0,none⟩=some (.iface 263 (.agg #[.pointer (some ⟨3,125,none⟩)]))):=nG ⟨E.l,C.l,v.l⟩ (λw' i=>⟨E.l.z i,C.l.z i,(i.cell (p:=⟨1,0,none⟩) cE).j v.l.1,(i.cell (p:=⟨0,0,none⟩) (by show 0<_;omega)).j v.l.2⟩);replace n:=n.j ((i.j (m.A i.size)).A n.size);replace dI:=(dI.step (n.A (AO _)) (λb k _=>n.block b k)).A (G:=λb=>b≠j/\s b=0) (λb _ k=>⟨ω,N b ω⟩);have zK:s G=0:=by rw[o.l];simp only[];rw[AG ω]
  have rS:=(b6.z m).q;rw[<-M]at rS;replace u:=(u.z i).z m;replace p:=(p.z i).z m;rw[<-D]at Q;have cL:j<z.heap.size:=rS.lt;have nS:w.heap.size+1+1<j/\j<G/\v4.heap.size<=j:=ω
  rw[<-M,<-D];clear m i b6 P O z5 o E C v l cH X M D l5 z2
  have CH:Hid (1<=e.K->e.K<=5->∃y,([.nilFunc,.func (.func 13) #[] #[],.func (.func 14) #[] #[],.func (.func 15) #[] #[],.func (.func 16) #[] #[],.func (.func 17) #[] #[]]:List Value)[e.K.toNat]?=some (.func (.func y) #[] #[])/\(∀i v,Sem.run prog (callFunc y i) v=.ok (.enter y i) v)/\∀w',Row w' j (RP 1 x K)->z.grownBy w' (some j)->Calls prog y #[.pointer (some ⟨j,0,none⟩),NH e a c f d] w' (λr O=>r=.returned (.tuple #[])/\∃m l,HpPost w' O j 1 s t m l)):=Z (λP h2=>by
   rw[U.l];have o:e.K=1\/e.K=2\/e.K=3\/e.K=4\/e.K=5:=ω
   have kW:=λw' (E:z.grownBy w' (some j))=>dW.I E (λg e k=>by cases e;exact k rfl)
   have kI:=λw' (E:z.grownBy w' (some j))=>dI.I E (λg e k=>by cases e;exact k.1 rfl)
   have kJ:=λw' E=>((kI w' E).A (G:=λb=>b≠j) (λb _ k=>k.1)).map (λW k=>k.1)
   rcases o with o|o|o|o|o
   ·refine⟨13,by rw[o];rfl,λi v=>κ,λw' C E=>?_⟩
    refine(Ah x K e a c f d j 1 s w' C (kW w' E).q.1 R aR (kJ w' E) ho HE.l o ty gv (kI w' E).q.2.2.1 (kI w' E).q.2.2.2 (by have:=E.size;omega)).A (λr O k=>⟨k.1,gc k.2⟩)
   ·refine⟨14,by rw[o];rfl,λi v=>κ,λw' C E=>?_⟩
    exact zC x K e a c f d j 1 s w' C (kW w' E).q.1 R aR v4.heap.size news (kW w' E).q.2 cF (by have:=E.size;omega) ((kI w' E).map (λW k=>k.1)) (kI w' E).q.2.1 ho HE.l o
   ·refine⟨15,by rw[o];rfl,λi v=>κ,λw' C E=>?_⟩
    refine(xQ x K e a c f d j 1 s w' C (kW w' E).q.1 R aR (kJ w' E) ho HE.l o).A (λr O k=>⟨k.1,gc k.2⟩)
   ·refine⟨16,by rw[o];rfl,λi v=>κ,λw' C E=>?_⟩
    refine(Co x K e a c f d j 1 s w' C (kW w' E).q.1 R aR (kJ w' E) ho HE.l o).A (λr O k=>⟨k.1,gc k.2⟩)
   ·refine⟨17,by rw[o];rfl,λi v=>κ,λw' C E=>?_⟩
    refine(Ib x K e a c f d j 1 s w' C (kW w' E).q.1 R (kJ w' E) ho HE.l o).A (λr O k=>⟨k.1,gc k.2⟩))
  have kN:Hid (¬(1<=e.K/\e.K<=5)->t=x):=Z (λg=>by rw[U.l];exact ZA (D:=LD 0) (u:=false) ω (by unfold Wo.call;rw[AG ω,AG ω,AG ω,AG ω]) (.inl rfl));go_upto_region 5 with fail;go_cut [23] from 16 to 22 (λi g=>i=.bool (decide (1<=e.K/\e.K<=5))/\g=z)
  case first =>
   have i:=u.y 0;have v:=u.lt;clear CH dW dI
   by_cases P:1<=e.K
   ·by_cases h2:e.K<=5
    ·go_wp2_with fail
     go_meet;exact⟨by rw[AM ⟨P,h2⟩],rfl⟩
    go_wp2_with fail
    go_meet;exact⟨by rw[AJ (λk=>ω)],rfl⟩
   go_wp2_with fail
   go_meet;exact⟨by rw[AJ (λk=>ω)],rfl⟩
  case rest =>
  obtain⟨rfl,i⟩:=hcut;rw[i];clear i;go_upto_if 23 with fail;go_cut [] from 23 to 30 (λg=>∃m l,HpPost z g j 0 s t m l)
  case first =>
   by_cases hk:1<=e.K/\e.K<=5
   ·rw[AM hk]
    obtain⟨P,h2⟩:=hk;obtain⟨y,g,l,i⟩:=CH.l P h2;obtain⟨m,I⟩:∃m:Nat,e.K=(m:Int):=⟨e.K.toNat,ω⟩;have cI:m<6:=ω
    rw[I,BM]at g;have cK:=Q.cell m _ g;have HM:=Z I;have bV:=Z l;have bU:=Z i;clear g I l i;go_upto_region 6 with fail;refine AN (S:=λw'=>Row w' (w.heap.size+1) [.int .i64 e.K,.slice a e.b.length c,.int .i64 e.cut,.slice f e.fs.length d]/\w'.cell? ⟨G,m,none⟩=some (.func (.func y) #[] #[])) κ (⟨u.z (AC _ _).drew,NX (AC z.heap.size z).drew cK (by show G<_;exact Q.lt)⟩) (λX=>?_);refine V 0 (.pointer (some ⟨j,0,none⟩)) rfl X (TK 1 (.pointer (some ⟨w.heap.size+1,0,none⟩)) rfl (BW ⟨ρ,λw g=>by obtain⟨D,M⟩:=g;have l:=D.lt;go_simp⟩) X (TK 2 (.int .i64 e.K) rfl (BW ⟨ρ,λw g=>by obtain⟨D,M⟩:=g;have c0:=D.y 0;go_simp⟩) X (TK 3 (.pointer (some ⟨G,m,none⟩)) rfl (BW ⟨ρ,λw g=>by obtain⟨D,M⟩:=g;have I:=HM.l;have l:=DI _ _ M;have hq:¬(6:Int)<=(m:Int):=ω;rw[I];go_simp⟩) X (V 4 (.func (.func y) #[] #[]) rfl X (TK 5 (.agg #[.int .i64 e.K,.slice a e.b.length c,.int .i64 e.cut,.slice f e.fs.length d]) rfl (BW ⟨ρ,λw g=>by obtain⟨D,M⟩:=g;exact RK 43 _ rfl _ 0 rfl _ _ D.range underlying43 rfl dm⟩) X ?_)))))
    simp only[J];refine RD 6 rfl (λKq cA=>?_);have i:Below z.heap.size z z.drew:=(AC _ _).drew;have aZ:=rS.z i;have aS:=u.z i;have aV:=NX i cK (by show G<_;exact Q.lt);generalize z.drew=y9 at i aZ aS aV⊢;have lh:=i.size;have CO:=Dt y x t K e a c f d j s y9 aZ R bV.l (λO k2 k3=>bU.l O k2 ⟨k3.os.j i.os,k3.tape.j i.tape,k3.output.j i.output,AL i.size k3.size,λb P h2=>(k3.block b (AD P i.size) h2).j (i.block b P)⟩);unfold NH at CO;refine LC ρ 18 #[.pointer (some ⟨j,0,none⟩),.func (.func y) #[] #[],.agg #[.int .i64 e.K,.slice a e.b.length c,.int .i64 e.cut,.slice f e.fs.length d]] γ CO ?_;rintro r v8 ⟨rfl,v,O,g⟩;refine⟨_,rfl,?_⟩;have bT:=VQ aS (g.block _ aS.lt ω (N _ ω)) (AD aS.lt g.size);have bE:=(CT (a:=⟨G,m,none⟩) (g.block G (AD Q.lt lh) ω zK)).j aV
    refine cA.l _ _ (⟨bT,bE⟩) (λbZ=>?_)
    try simp only[J]
    refine DN ?_;have bY:=Z g;have HD:=Z i;clear g i CO aZ aS aV bT bE;go_wp2_with fail;go_meet;exact⟨v,O,G6 HD.l bY.l⟩
   rw[AJ hk]
   have g:=kN.l hk;have i:=Z (AH rS dW.q.1);clear rS dW dI CH hk;go_wp2_with fail;go_meet;rw[g];exact⟨K,s,i.l.1,i.l.2,λ_ _=>rfl,rfl,rfl,rfl,Y _,λ_ _ _ _=>rfl,aR⟩
  case rest =>
  obtain⟨v,O,g⟩:=hcut;have lv:=g.size;have cJ:=p.lt;have aY:=VQ p (g.block _ p.lt ω (N _ l4)) (AD p.lt g.size);have X:Below w.heap.size w wc:=⟨g.os.j n.os,g.tape.j n.tape,g.output.j n.output,AL n.size g.size,λb i=>(g.block b (by have:=n.size;omega) ω (N b ω)).j (n.block b i)⟩
  have zR:∀b,b<v4.heap.size->O b=0:=λb i=>(g.ag b ω).j (N b i)
  clear dW dI rS u p Q CH kN n;go_upto_region 7 with fail;refine BG ?_;refine UB rfl (.pointer (some ⟨j,0,none⟩)) γ ?_;simp only[J];refine UB rfl (.pointer (some ⟨j,0,none⟩)) γ ?_;simp only[J];refine ic rfl _ _ _ rfl (.pointer (some ⟨j,2,none⟩)) (by have l:=g.r.lt;go_simp) ?_;simp only[J];refine AS rfl 36 _ rfl j 2 rfl (wL t v) _ (Row.rangeMid (pre:=[.int .i32 0,.int .u32 0]) (cs:=(wL t v)) (post:=[]) g.r) underlying36 rfl LX ?_;simp only[J];refine BI rfl 36 _ _ rfl (w.heap.size+1+1) 0 (wA t v) rfl rfl (aY.there rfl) LX κ ?_
  try simp only[J]
  have m:=OQ wc (w.heap.size+1+1) 0 (wL t v);have M:=aY.sets (wL t v) rfl;have n:=g.h.I m (zR _ l4);have D:=X.j (MR m X.size (λx e=>by have e:=CZ e;omega));generalize World.setCells _ _ _ _=Q at M n D m⊢;have p:=Z n;have u:=Z g.cap;clear n m g X aY
  try go_wp2
  refine VP 4 36 results5 _ rfl (wL t v) _ M underlying36 rfl LX rfl ⟨v,λb=>if w.heap.size<=b/\b<Q.heap.size then O b else 0,rfl,p.l.lab (λb i=>?_),λb k=>?_,D,u.l⟩
  ·show(if w.heap.size<=b/\b<Q.heap.size then O b else 0)=O b
   by_cases h:w.heap.size<=b
   ·rw[AF ⟨h,i⟩]
   rw[AG (λk=>h k.1),zR b ω]
  by_cases h:w.heap.size<=b/\b<Q.heap.size
  ·exact h
  exact absurd (AG h) k
theorem km{R U O:Int}{a:List Pr}(b:1<=W/\W<=8)(c:8<=S/\S<=200)(d:1<=L/\L<=60000)(e:0<=T/\T<=1000000000)(f:0<=R/\R<=60000)(g:0<=H/\H<=1)(h:1<=F/\F<=999999000)(i:0<=U/\U<=hv S)(j:0<=O/\O<=U)(k:LV a=true)(l:LT (LI a) W<=hv S-1):NE W S L T H F R U O a=true:=by
 unfold NE RT;simp only[BE,BC];exact⟨⟨⟨⟨⟨⟨⟨b,c⟩,d⟩,⟨⟨e,f⟩,g⟩,h⟩,i⟩,j⟩,k⟩,l⟩
theorem uO{R U O:Int}{a:List Pr}(h:NE W S L T H F R U O a=true):(0<=R/\R<=60000)/\LT (LI a) W<=hv S-1:=by
 unfold NE RT at h;simp only[BE,BC]at h;exact⟨h.1.1.1.1.2.1.1.2,h.2⟩
def cz(n N:Int)(D:Dd):Prop:=NE D.W D.S D.L D.T D.H D.F D.R D.U D.O D.rs=true/\D.W=n/\D.S=N/\∀s∈MK D.ops,s.size=64
theorem zy{k l m:Int}{p:ByteArray}{n:Int}(h:MN k l m p n=true):(LS k l m p n).size=64:=by
 unfold LS;rw[AF h];have a:=AU (by unfold MN at h;exact h);exact aa _ _ _ _ _ ω
theorem tD{l m n:Int}(a:1<=l/\l<=60000)(b:1<=m/\m<=1000000000)(c:1<=n/\n<=8):(LS 3 l m empty n).size=64:=zy (by unfold MN;exact AM τ)
theorem mF{s:ByteArray}{l f:Int}{n m:Nat}(d:1<=n/\n<=8)(c:n+m=56):∀p∈NV s l f n m,p.size=64:=by
 intro p a
 by_cases h:1<=l/\l<=60000/\1<=f/\f+(NA s.size m:Int)<=1000000001
 ·rw[YG rfl h]at a
  unfold PG at a;obtain⟨k,b,rfl⟩:=DL.1 a;exact yf d c h (EZ.1 b)
 rw[ZM rfl h]at a;cases a
theorem Jt{n m:Nat}(g:1<=n/\n<=8)(f:n+m=56)(e:1<=L/\L<=60000)(hF:1<=F/\F<=1000000000):∀(k:Nat) (c:List (List Ch)),c.length=k->∀p∈LW L F n m c,p.size=64:=by
 intro k
 induction k with
 | zero =>
  intro c d p a;rw[AB d,am]at a;rw[DJ.1 a];exact tD e hF ω
 | succ k i =>
  intro c d p a
  obtain⟨l,b,rfl⟩:∃l b,c=l++[b]:=by
   rcases EF c with h|⟨l,b,h⟩
   ·rw[h]at d;cases d
   exact⟨l,b,by simpa using h⟩
  rw[fu]at a;rcases BS.1 a with a|a
  ·exact i l (by simpa using d) p a
  exact mF g f p a
theorem oG(a:Int)(l:List ByteArray):MK (MA a l)=l:=by
 unfold MK MA;rw[List.mapIdx_eq_zipIdx_map,List.filterMap_map]
 have:((λo:OpT=>if o.1=true then none else some o.2.2) ∘ λx:ByteArray×Nat=>(false,a+(x.2:Int),x.1))=λx:ByteArray×Nat=>some x.1:=by funext x;simp
 rw[this,List.filterMap_eq_map',List.zipIdx_map_fst]
theorem El(a b:List OpT):MK (a++b)=MK a++MK b:=List.filterMap_append
theorem uV{b:List Pr}(h:XN W S L T H F b)(a:LV b=true)(d:(OH W S L T H F b).C=0):cz W S (OH W S L T H F b):=by
 obtain⟨i,f,g,k,l,m,j⟩:=h;unfold OH at d⊢
 split at d
 ·rename_i c
  rw[AF c];have c:=AU (by unfold WB at c;exact c);have o:=PJ f;obtain⟨n,rfl⟩:∃n:Nat,W=(n:Int):=⟨W.toNat,ω⟩;have p:=ae L (F+hv S) n (56-n) ω ω ω (LI b);refine⟨km (S:=S) i f g (T:=T+1) (R:=L) (H:=1-H) (F:=F+hv S) (U:=((LW L (F+hv S) n (56-n) (LI b)).length:Int)) (O:=0) ω ω ω ω ω ω a j,rfl,rfl,?_⟩
  intro s a
  simp only[TN,BM,El,oG]at a;rcases BS.1 a with a|a
  ·exact Jt ω ω g ω _ _ rfl s a
  have e:MK [(true,0,empty),(false,(T+1) % 2,MB (T+1) (1-H) (F+hv S) L (n:Int)),(true,0,empty)]=[MB (T+1) (1-H) (F+hv S) L (n:Int)]:=by simp[MK]
  rw[e,DJ]at a;rw[a];unfold MB;rw[AF (by unfold TJ;omega)];refine zy ?_;unfold MN;refine AM ?_;have q:(RQ (1-H) (F+hv S)).size=5:=by unfold RQ;simp[BU,OL]
  omega
 exact absurd d (by simp[LD])
theorem Au:∀s∈MK [((true,0,empty):OpT)],s.size=64:=by intro s h;simp[MK]at h
theorem nA{x:Wo}{e:Ev}(C:MP x=true)(b:(x.call e).2=true)(a:(x.call e).1.C=0):cz x.w x.ss.length (x.call e).1:=by
 unfold MP at C;simp only[BE,BC]at C;obtain⟨n,G,d,hp,ht⟩:=C;unfold PX at d;unfold Wo.call at b a⊢
 by_cases j:e.K=1
 ·rw[AF j]at b a⊢
  replace a:(OM x.ss x.ws x.w).C=0:=a;show cz x.w x.ss.length (OM x.ss x.ws x.w);have p:LG x.ss x.ws=true/\1<=x.w/\x.w<=8:=⟨G,n⟩;obtain⟨r1,r2,r3,r4⟩:=my p;have f:=fo p;obtain⟨⟨R,U,X⟩,_⟩:=PA G;have A:(8:Int)<=(x.ss.length:Int)/\(x.ss.length:Int)<=200:=ω
  have hh:=PJ A;unfold OM at a⊢;rw[AF p]at a⊢
  split at a
  ·exact absurd a (by simp[LD])
  rename_i Q l
  have l:=ei _ _ TQ _ l
  by_cases j:60000<(NT x.ss x.ws x.w).2.2+1
  ·rw[AF j]at a;exact absurd a (by simp[LD])
  rw[AG j]at a⊢
  by_cases k:hv x.ss.length-1<LT (LI Q) x.w
  ·rw[AF k]at a;exact absurd a (by simp[LD])
  rw[AG k]at a⊢
  by_cases k3:hv x.ss.length<=(NT x.ss x.ws x.w).2.1
  ·rw[AF k3]at a⊢
   exact uV ⟨n,A,ω,f.1,f.2.1,f.2.2.1,ω⟩ l a
  rw[AG k3]
  refine⟨km n A (by simp only;omega) f.1 f.2.2.2 f.2.1 f.2.2.1 (by simp only;omega) (by simp only;omega) l (by simp only;omega),rfl,rfl,?_⟩;intro s d;have e:MK [(false,2+(MG x.ss x.ws x.w).2.1*hv x.ss.length+(NT x.ss x.ws x.w).2.1,LS 3 ((NT x.ss x.ws x.w).2.2+1) ((MG x.ss x.ws x.w).2.2.1+(NT x.ss x.ws x.w).2.1) empty x.w),(true,0,empty)]=[LS 3 ((NT x.ss x.ws x.w).2.2+1) ((MG x.ss x.ws x.w).2.2.1+(NT x.ss x.ws x.w).2.1) empty x.w]:=by simp[MK]
  simp only[e]at d;rw[DJ.1 d];have:=f.2.2.1;exact tD ω ω n
 rw[AG j]at b a⊢
 have q:x.up=true->NE x.W x.S x.L x.T x.H x.F x.R x.U x.O x.rs=true/\x.W=x.w/\x.S=(x.ss.length:Int):=by
  intro P;rw[AF P,BE,BC]at d;exact d
 by_cases k:e.K=2
 ·rw[AF k]at b a⊢
  replace a:(NR x.W x.S x.L x.T x.H x.F x.R x.U x.O x.rs e.b).C=0:=a;show cz x.w x.ss.length (NR x.W x.S x.L x.T x.H x.F x.R x.U x.O x.rs e.b);obtain⟨c,h,g⟩:=q b;obtain⟨i,r,t,u,v,y,E,N,m⟩:=UE c;obtain⟨z,_⟩:=uO c;unfold NR at a⊢
  split at a
  ·rename_i K
   rw[AF K]
   split at a
   ·rename_i o
    rw[AF o]
    split at a
    ·rename_i D
     rw[AF D]
     split at a
     ·rename_i M
      rw[AF M];have hn:=jn (KZ e.b).size x.W i.1 i.2;refine⟨km i r t u z v y (by simp only;omega) (by simp only;omega) (by unfold OA;rw[AF o];exact ed o) D,h,g,?_⟩;intro s d;simp only[oG]at d;exact mF ω ω s d
     exact absurd a (by simp[LD])
    exact absurd a (by simp[LD])
   exact absurd a (by simp[LD])
  exact absurd a (by simp[LD])
 rw[AG k]at b a⊢
 by_cases k3:e.K=3
 ·rw[AF k3]at b a⊢
  replace a:(QG x.W x.S x.L x.T x.H x.F x.R x.U x.O x.rs).C=0:=a;show cz x.w x.ss.length (QG x.W x.S x.L x.T x.H x.F x.R x.U x.O x.rs);obtain⟨c,h,g⟩:=q b;obtain⟨i,r,t,u,v,y,E,N,m⟩:=UE c;obtain⟨z,O⟩:=uO c;unfold QG;rw[AF c];exact⟨km (O:=0) (U:=x.U) i r t u z v y E ω m O,h,g,Au⟩
 rw[AG k3]at b a⊢
 by_cases I:e.K=4
 ·rw[AF I]at b a⊢
  replace a:(PZ x.W x.S x.L x.T x.H x.F x.R x.U x.O x.rs).C=0:=a;show cz x.w x.ss.length (PZ x.W x.S x.L x.T x.H x.F x.R x.U x.O x.rs);obtain⟨c,h,g⟩:=q b;have m:=(UE c).2.2.2.2.2.2.2.2;unfold PZ at a⊢;rw[AF c]at a⊢;have:=uV (ni c) m a;rw[<-h,<-g];exact this
 rw[AG I]at b
 exact absurd b σ
theorem qR{x:Wo}(e:1<=x.w/\x.w<=8)(b:LG x.ss x.ws=true)(c:PT x.P=true)(d:QR x.ts=true)(a:List Int):MP (x.pow a)=true:=by
 unfold MP;simp only[BE,BC];refine⟨e,(gy b a).1,?_,c,d⟩;unfold PX QA;simp[Wo.pow]
theorem Gy{x:Wo}{e:Ev}(d:MP x=true)(j:(x.call e).2=true)(k:(x.call e).1.C=0)(p:¬(2000<(PU x e (x.call e).1).length\/200<(NW x e (x.call e).1).length)):LG (x.ran e (x.call e).1).ss (x.ran e (x.call e).1).ws=true/\(x.ran e (x.call e).1).ss.length=x.ss.length/\PT (x.ran e (x.call e).1).P=true/\QR (x.ran e (x.call e).1).ts=true:=by
 obtain⟨m,q,t,i⟩:=nA d j k;unfold MP at d;simp only[BE,BC]at d;obtain⟨u,l,b,c,f⟩:=d;obtain⟨g,h⟩:=sZ l (x.call e).1.ops (evN e (x.call e).1);refine⟨g,h,?_,?_⟩
 ·unfold PT at c⊢
  simp only[BE,BC,DO]at c⊢;show(1<=(NW x e (x.call e).1).length/\(NW x e (x.call e).1).length<=200)/\∀r∈NW x e (x.call e).1,LV r=true;refine⟨⟨?_,ω⟩,?_⟩
  ·unfold NW;split
   ·rw[AE];omega
   omega
  intro r a
  unfold NW at a
  split at a
  ·rcases BS.1 a with a|a
   ·exact c.2 r a
   rw[DJ.1 a];exact(UE m).2.2.2.2.2.2.2.2
  exact c.2 r a
 unfold QR at f⊢
 simp only[BE,BC,DO]at f⊢;show(PU x e (x.call e).1).length<=2000/\∀s∈PU x e (x.call e).1,s.size=64;refine⟨ω,λs b=>?_⟩;unfold PU at b;rcases BS.1 b with b|b
 ·exact f.2 s b
 refine i s ?_
 unfold MK at b⊢;obtain⟨o,n,a⟩:=List.mem_filterMap.1 b;exact List.mem_filterMap.2 ⟨o,DM n,a⟩
theorem ZZ{x:Wo}(c:MP x=true)(e:Ev):MP (x.doE e)=true:=by
 have a:=c;unfold MP at c;simp only[BE,BC]at c;obtain⟨b,q,y,r,s⟩:=c;unfold Wo.doE
 split
 ·exact qR b q r s _
 split
 ·exact a
 rename_i m
 have j:(x.call e).2=true:=by cases h:(x.call e).2 with
  | true=>rfl
  | false=>exact absurd (.inl h) m
 have l:(x.call e).1.C=0:=Decidable.not_not.1 (λk=>m (.inr k))
 split
 ·exact a
 rename_i t;obtain⟨d,u,n,f⟩:=Gy a j l t;obtain⟨i,o,p,v⟩:=nA a j l
 split
 ·exact qR (x:=x.ran e (x.call e).1) b d n f _
 have g:∀P,PX { (x.ran e (x.call e).1).upS (x.call e).1 with P:=P }=true:=by
  intro P;show(if true=true then NE (x.call e).1.W (x.call e).1.S (x.call e).1.L (x.call e).1.T (x.call e).1.H (x.call e).1.F (x.call e).1.R (x.call e).1.U (x.call e).1.O (x.call e).1.rs && decide ((x.call e).1.W=x.w/\(x.call e).1.S=((x.ran e (x.call e).1).ss.length:Int)) else _)=true;rw[AF rfl,BE,BC,u];exact⟨i,o,p⟩
 split
 ·unfold MP
  simp only[BE,BC];exact⟨b,d,g _,n,f⟩
 unfold MP
 simp only[BE,BC];refine⟨b,d,g _,?_,f⟩;unfold PT;simp[(UE i).2.2.2.2.2.2.2.2]
end
section
open Tryz
open Go.RowKit nw
def XO(n:Nat):ByteArray:=⟨#[107,101,121]⟩++strOfNums [48+((n / 10:Nat):Int),48+((n % 10:Nat):Int)]
def wj:ByteArray:=⟨#[97,32,118,97,108,117,101,32,111,102,32,50,48,32,98,121,116,101,115,46]⟩
def bC(n:Nat):List Ch:=[(XO n,wj,false)]
def ZC(n:Nat):List Pr:=(List.range n).map λi=>(XO i,wj)
theorem mX(n:Nat):(ZC n).length=n:=by simp[ZC]
theorem Cc:((List.range 60).all λn=>NL (bC n) && decide (1<=(KZ (bC n)).size/\(KZ (bC n)).size<=48))=true:=κ
theorem nr{n:Nat}(h:n<60):NL (bC n)=true/\1<=(KZ (bC n)).size/\(KZ (bC n)).size<=48:=by
 have:=DO.1 Cc n (EZ.2 h);rw[BE,BC]at this;exact this
theorem Fa:((List.range 60).all λj=>(List.range j).all λi=>decide (LY (XO i) (XO j)<0))=true:=κ
theorem I2{i j:Nat}(h:i<j)(a:j<60):LY (XO i) (XO j)<0:=by
 have:=DO.1 Fa j (EZ.2 a);exact AU (DO.1 this i (EZ.2 h))
theorem wH{n:Nat}(h:n<60):ML (ZC n) (bC n)=ZC (n+1):=by
 have a:=cq (XO n,wj,false) (ZC n) [] [] (λx c=>by
  obtain⟨i,b,rfl⟩:=DL.1 c
  exact I2 (EZ.1 b) h) (.inl rfl) σ
 rw[EA,EA]at a;show(bC n).foldl _ _=_;unfold bC;rw[IR,List.foldl_nil,a];unfold VL ZC;simp[FA]
theorem xh{l:Nat}(h:1<=l/\l<=48)(n:Nat)(a:1<=n/\n<=8):MY l (n:Int)=1:=by
 unfold MY NA;rw[AF ω,AG ω,Nat.div_eq_of_lt ω];rfl
theorem wZ{N n:Nat}(f:8<=N/\N<=40)(i:1<=n/\n<=8):∃q:Nat,hv (N:Int)=(q:Int)/\DownI (KV (N:Int) (n:Int)) N n q 0 [] 0/\(KV (N:Int) (n:Int)).P.length=1/\(KV (N:Int) (n:Int)).ts=[]:=by
 have d:hv (N:Int)=((((N:Int)-2) / 2).toNat:Int):=by unfold hv;rw[AF ω];omega
 have g:(KV (N:Int) (n:Int)).good N:=by have:=xj (n:=(N:Int)) (wd:=(n:Int)) ω;simpa using this
 have o:∀j,sec (KV (N:Int) (n:Int)).ss j=LM\/sec (KV (N:Int) (n:Int)).ss j=empty:=λj=>by
  show sec (newSS (N:Int)) j=_\/sec (newSS (N:Int)) j=_;unfold newSS sec;rw[AF ω,List.getD,ED]
  split
  ·exact .inl rfl
  exact .inr rfl
 have b:∀j,MI (sec (KV (N:Int) (n:Int)).ss j) (n:Int)=none:=λj=>by
  rcases o j with e|e
  ·rw[e];exact Ic _
  rw[e];unfold MI;rw[AG (λh=>by have:=h.2.2.1;simp at this)]
 have c:∀j a,MU (sec (KV (N:Int) (n:Int)).ss j) a (n:Int)=none:=λj a=>by unfold MU;rw[b j]
 refine⟨_,d,⟨g,f,d,rfl,i,rfl,rfl,TQ,?_,⟨0,0,0,1,0,⟨.inl rfl,ω,?_,⟨[],rfl,rfl,?_⟩,?_⟩,ω,ω,ω,ω,ω⟩,ω⟩,rfl,rfl⟩
 ·have:LT (LI []) (n:Int)=0:=rfl
  rw[this];omega
 ·unfold OF;rw[c,c];rfl
 ·exact ms (b _)
 rintro j _ _ l m ⟨k,p,h⟩
 rw[b j]at h
 cases h
structure CrI(x:Wo)(N nw q n k:Nat):Prop where
 u:UpI x N nw q (1+(k:Int))
 ok:MP x=true
 rs:x.rs=ZC n
 u1:1<=x.U
 ku:(k:Int)+x.U<=1+(n:Int)
 n1:n<=60
 ts:x.ts.length<=20+n+20*k
 p:x.P.length<=n+1
section
variable {x:Wo} {N nw q n k:Nat}
theorem CrI.k1(h:CrI x N nw q n k):k<=60:=by have:=h.ku;have:=h.u1;have:=h.n1;omega
theorem CrI.lim(h:CrI x N nw q n k):x.ts.length<=1400/\x.P.length<200/\q<=19:=by
 have:=h.k1;have:=h.ts;have:=h.p;have:=h.n1;have:=XA h.u.hN h.u.hq;omega
theorem Bb{N nw:Nat}(a:8<=N/\N<=40)(i:1<=nw/\nw<=8)(j:MP (KV (N:Int) (nw:Int))=true):∃q,CrI ((KV (N:Int) (nw:Int)).doE RE) N nw q 0 0:=by
 obtain⟨q,c,h,p,d⟩:=wZ a i;obtain⟨e,l,f,b,m,g⟩:=h.open ω (by rw[d];simp) ω;have o:=g (by have:=XA a c;omega);refine⟨q,⟨by simpa using e,ZZ j _,by rw[f];rfl,ω,ω,ω,by rw[d]at b;have:=XA a c;simp at b;omega,ω⟩⟩
structure CsI(x:Wo)(N nw q n i:Nat):Prop where
 u:∃c,c<=61+(i:Int)/\UpI x N nw q c
 ok:MP x=true
 rs:x.rs=ZC n
 ws:x.ws=[]
 ts:x.ts.length<=1400+20*i
 p:x.P.length=1
theorem CrI.safe(h:CrI x N nw q n k):CsI (x.doE UN) N nw q n 0:=by
 obtain⟨g,f,i⟩:=h.lim;have:=h.k1;obtain⟨a,b,c,d,e⟩:=h.u.flush ω f;exact⟨⟨_,ω,a⟩,ZZ h.ok _,by rw[c,h.rs],b,by rw[d];omega,e⟩
theorem CsI.again{i:Nat}(h:CsI x N nw q n i)(r:i<3):CsI ((x.doE UR).doE RE) N nw q n (i+1):=by
 obtain⟨c,p,a⟩:=h.u;have:=h.ts;have:=h.p;have:=XA a.hN a.hq;obtain⟨d,b,m⟩:=a.power h.ws;obtain⟨e,f,g,j,l,o⟩:=d.open ω (by rw[b];omega) (by rw[m];omega);exact⟨⟨_,ω,e⟩,ZZ (ZZ h.ok _) _,by rw[g,h.rs],f,by rw[b]at j;omega,l⟩
theorem CrI.commit(h:CrI x N nw q n k)(b:n<60)(g:(NR x.W x.S x.L x.T x.H x.F x.R x.U x.O x.rs (bC n)).C=0):CrI (x.doE (SO (bC n))) N nw q (n+1) k:=by
 obtain⟨o,j,p⟩:=h.lim;obtain⟨l,c⟩:=nr b;have i:=xh c nw h.u.n1;obtain⟨d,e,f,a,m⟩:=h.u.commit (bC n) g ω j;rw[i]at f a;have:=h.u1;have:=h.ku;have:=h.ts;have:=h.p;exact⟨d,ZZ h.ok _,by rw[e,h.rs,wH b],ω,ω,ω,by simp at a;omega,ω⟩
theorem CrI.compact(h:CrI x N nw q n k)(j:(x.doE SP).U<x.U):CrI (x.doE SP) N nw q n (k+1):=by
 obtain⟨l,c,m⟩:=h.lim;have i:=h.k1;obtain⟨a,d,b,e,f,g⟩:=h.u.compact ω ω c;have:=h.ts;have:=h.p;have:=h.ku;have:=h.n1;refine⟨by rw[show 1+((k+1:Nat):Int)=1+(k:Int)+1 by omega];exact a,ZZ h.ok _,by rw[b,h.rs],?_,ω,h.n1,ω,ω⟩;have:=(ZP (LI x.rs) (nw:Int)).1;omega
theorem CrI.first(h:CrI x N nw q 0 k):(NR x.W x.S x.L x.T x.H x.F x.R x.U x.O x.rs (bC 0)).C=0:=by
 have:=h.ku;have:=h.u1;have i:x.U=1:=ω
 obtain⟨l,m,o⟩:=XA h.u.hN h.u.hq;obtain⟨f,g⟩:=nr (n:=0) ω;have c:=xh g nw h.u.n1;have b:hv x.S=(q:Int):=by rw[h.u.eS,h.u.hq]
 have a:x.rs=[]:=h.rs;have d:OE x.rs (bC 0)=0:=by rw[a];kernel_rfl
 have e:LI (OA x.rs (bC 0))=[bC 0]:=by rw[a];kernel_rfl
 have j:LT [bC 0] (nw:Int)=1:=by
  have:=dy [] (bC 0) (nw:Int);rw[DQ,ky,c]at this;rw[this];rfl
 unfold NR;rw[AF (by rw[h.u.st,f];rfl),AF d,AF (by rw[e,h.u.eW,j,b];omega),AF (by rw[h.u.eW,c,b,i];omega)]
end
end
section
open Tryz
open Go.RowKit nw
@[reducible] def OR(x:Wo)(q:Wp):List Value:=(wL x q)
structure CwW(w0 w:World)(B:Nat)(x:Wo)(q:Wp):Prop where
 r:Row w B (OR x q)
 m:DepF w (λb=>w0.heap.size<=b/\b≠B) (λW=>x.at W q)
 lo:w0.heap.size<=B
 cap:x.rs.length<=q.cs
 bl:Below w0.heap.size w0 w
section
variable {w0 w w1 w2:World} {B:Nat} {x y:Wo} {q q':Wp} {ops:Array Oper} {rest:List Oper} {o:Oper} {A:Act} {Q:Exit->Act->World->Prop}
theorem CwW.z(h:CwW w0 w B x q)(a:Below w.heap.size w w1):CwW w0 w1 B x q :=⟨h.r.z a,h.m.z a,h.lo,h.cap,h.bl.j (a.A h.bl.size)⟩
theorem CwW.put(h:CwW w0 w B x q)(f:Below w.heap.size w w1)(d:DepF w1 (λb=>w.heap.size<=b/\b<w1.heap.size) (λW=>y.at W q'))(i:y.rs.length<=q'.cs):CwW w0 (w1.setCells B 0 (OR y q')) B y q':=by
 have a:=h.z f;have j:=h.r.lt;have c:=OQ w1 B 0 (OR y q');have:=h.bl.size;refine⟨a.r.sets (OR y q') rfl,(d.I c (λg e k=>by cases e;omega)).A (λb l k=>⟨ω,ω⟩),h.lo,i,a.bl.j (MR c a.bl.size (λg e=>by cases e;exact h.lo))⟩
theorem vq{d c:Nat}{e:Nat->Nat}(h:RH x w q e)(j:∀b,e b≠0->d<=b/\b<c):DepF w (λb=>d<=b/\b<c) (λW=>x.at W q) :=⟨h.at,λl a f=>(h.only (K:=λk=>k=0) ⟨a.os,a.tape,a.output,a.size,λb g i=>f b (j b i) g⟩ (λ_ k=>k)).at⟩
theorem zL(h:CwW w0 w B x q)(z:Operand)(a:o.op=.load 36 z)(b:A.eval z=.pointer (some ⟨B,0,none⟩)):(execOp A.eval o).run prog w=.ok (.value (LO x q)) w :=RK 36 z a B 0 b (OR x q) _ (Row.rangeMid (pre:=[]) (post:=[]) (by simpa using h.r)) underlying36 rfl LX
theorem ii(h:CwW w0 w B x q)(k:wpList prog ops Q rest (A.put o.dst (LO x q)) w){z:Operand}(a:o.guard=none:=by rfl)(b:o.op=.load 36 z:=by rfl)(c:A.eval z=.pointer (some ⟨B,0,none⟩):=by rfl):wpList prog ops Q (o::rest) A w:=UB a _ (zL h z b c) k
theorem iy(h:Row w B (OR x q))(k:wpList prog ops Q rest (A.put o.dst undef) (w.setCells B 0 (OR y q'))){z u:Operand}(a:o.guard=none:=by rfl)(b:o.op=.store 36 z u:=by rfl)(c:A.eval z=.pointer (some ⟨B,0,none⟩):=by rfl)(d:A.eval u=LO y q':=by rfl):wpList prog ops Q (o::rest) A w :=BI a 36 z u b B 0 (OR y q').toArray c d (Row.thereMid (pre:=[]) (cs:=OR x q) (post:=[]) (by simpa using h) rfl) LX κ k
theorem bp(v:Value)(k:wpList prog ops Q rest (A.put o.dst v) w)(a:o.guard=none:=by rfl)(b:(execOp A.eval o).run prog w=.ok (.value v) w:=by go_simp):wpList prog ops Q (o::rest) A w:=UB a v b k
theorem yU(h:CwW w0 w B x q)(j:MP x=true)(e:Ev)(c:Option Addr)(f:Nat)(n:Chs w c e.b)(p:e.fs=[])(z:e.le)(m:TypeId)(g:Value)(u:w.cell? ⟨1,0,none⟩=some (.iface m g))(s:w.cell? ⟨0,0,none⟩=some (.iface 263 (.agg #[.pointer (some ⟨3,125,none⟩)])))(t:1<w.heap.size):Calls prog 5 #[LO x q,NH e c f none 0] w λr a=>∃q',r=.returned (LO (x.doE e) q')/\CwW w0 a B x q/\CwW w0 (a.setCells B 0 (OR (x.doE e) q')) B (x.doE e) q'/\Below w.heap.size w a:=by
 refine(tb x q e c f none 0 w h.m.q h.cap ((du j).1.le) n (by rw[p];exact .inl rfl) z m g u s t).A ?_;rintro r a ⟨q',D,rfl,l,C,d,i⟩;have v:x.doR e=x.doE e:=by unfold Wo.doR;rw[AF j]
 rw[v]at l i⊢;exact⟨q',rfl,h.z d,h.put d (vq l (λb k=>C b k)) i,d⟩
structure CwG(w:World):Prop where
 np:∃ty gv,w.cell? ⟨1,0,none⟩=some (.iface ty gv)
 et:w.cell? ⟨0,0,none⟩=some (.iface 263 (.agg #[.pointer (some ⟨3,125,none⟩)]))
 ln:1<w.heap.size
 le:0<w.heap.size
theorem CwG.z(h:CwG w)(a:Below w.heap.size w w1):CwG w1:=by
 obtain⟨d,b,c⟩:=h.np;exact⟨⟨d,b,(CT (a:=⟨1,0,none⟩) (a.block _ h.ln)).j c⟩,(CT (a:=⟨0,0,none⟩) (a.block _ h.le)).j h.et,AD h.ln a.size,AD h.le a.size⟩
theorem rq(h:CwW w0 w B x q)(hv:CwG w0)(k:MP x=true)(e:Ev)(b:Option Addr)(c:Nat)(d:Chs w b e.b)(f:e.fs=[])(j:e.le):Calls prog 5 #[LO x q,NH e b c none 0] w λr a=>∃q',r=.returned (LO (x.doE e) q')/\CwW w0 a B x q/\CwW w0 (a.setCells B 0 (OR (x.doE e) q')) B (x.doE e) q'/\Below w.heap.size w a:=by
 have a:=hv.z h.bl;obtain⟨l,g,i⟩:=a.np;exact yU h k e b c d f j l g i a.et a.ln
theorem lz(k:wpList prog ops Q rest (A.put o.dst (.pointer (some ⟨w.heap.size,0,none⟩))) (w.alloc (.cells #[.int .i64 0,.slice none 0 0,.slice none 0 0,.bool false,.int .i64 0,.int .i64 0,.int .i64 0,.int .i64 0,.int .i64 0,.int .i64 0,.int .i64 0,.int .i64 0,.int .i64 0,.slice none 0 0,.slice none 0 0,.slice none 0 0] 36)))(a:o.guard=none:=by rfl)(b:(execOp A.eval o).run prog w=.ok (.value (.pointer (some ⟨w.heap.size,0,none⟩))) (w.alloc (.cells #[.int .i64 0,.slice none 0 0,.slice none 0 0,.bool false,.int .i64 0,.int .i64 0,.int .i64 0,.int .i64 0,.int .i64 0,.int .i64 0,.int .i64 0,.int .i64 0,.int .i64 0,.slice none 0 0,.slice none 0 0,.slice none 0 0] 36)):=by go_simp):wpList prog ops Q (o::rest) A w:=tw a _ _ b k
theorem Dl(a:Below w0.heap.size w0 w)(j:DepF w (λb=>w0.heap.size<=b/\b<w.heap.size) (λW=>x.at W q))(m:x.rs.length<=q.cs)(e:w.alloc (.cells #[.int .i64 0,.slice none 0 0,.slice none 0 0,.bool false,.int .i64 0,.int .i64 0,.int .i64 0,.int .i64 0,.int .i64 0,.int .i64 0,.int .i64 0,.int .i64 0,.int .i64 0,.slice none 0 0,.slice none 0 0,.slice none 0 0] 36)=w1):Row w1 w.heap.size [.int .i64 0,.slice none 0 0,.slice none 0 0,.bool false,.int .i64 0,.int .i64 0,.int .i64 0,.int .i64 0,.int .i64 0,.int .i64 0,.int .i64 0,.int .i64 0,.int .i64 0,.slice none 0 0,.slice none 0 0,.slice none 0 0]/\CwW w0 (w1.setCells w.heap.size 0 (OR x q)) w.heap.size x q:=by
 obtain⟨c,n,i⟩:=LF e;have h:=i.q;have f:=OQ w1 w.heap.size 0 (OR x q);have d:=a.j (c.A a.size);exact⟨h,h.sets (OR x q) rfl,((j.z c).I f (λg e k=>by cases e;omega)).A (λb l k=>⟨k.1,ω⟩),a.size,m,d.j (MR f d.size (λg e=>by cases e;exact a.size))⟩
theorem vn(h:Row w B [.int .i64 0,.slice none 0 0,.slice none 0 0,.bool false,.int .i64 0,.int .i64 0,.int .i64 0,.int .i64 0,.int .i64 0,.int .i64 0,.int .i64 0,.int .i64 0,.int .i64 0,.slice none 0 0,.slice none 0 0,.slice none 0 0])(k:wpList prog ops Q rest (A.put o.dst undef) (w.setCells B 0 (OR y q'))){z u:Operand}(a:o.guard=none:=by rfl)(b:o.op=.store 36 z u:=by rfl)(c:A.eval z=.pointer (some ⟨B,0,none⟩):=by rfl)(d:A.eval u=LO y q':=by rfl):wpList prog ops Q (o::rest) A w :=BI a 36 z u b B 0 (OR y q').toArray c d (h.there rfl) LX κ k
end
end
section
open Tryz
open Go.RowKit nw
theorem zJ{w d:World}{e:Ending}{n j:Int}(h:NwPost w d e j (newSS n) 1):∃q,e=.returned (LO (KV n j) q)/\DepF d (λb=>w.heap.size<=b/\b<d.heap.size) (λW=>(KV n j).at W q)/\Below w.heap.size w d:=by
 obtain⟨a,c,l,m,p,o,rfl,k,u,v,x,y⟩:=h
 have q:∀f:World,(∀b,(w.heap.size<=b/\b<d.heap.size)->b<d.heap.size->f.heap[b]?=d.heap[b]?)->d.heap.size<=f.heap.size->(KV n j).at f ⟨a,c,l,m,none,0,p,o,none,0⟩:=λf i s=>by
  have z:OwnS f a ((newSS n).map Value.string):=by
   rcases k with k|⟨g,rfl,r⟩
   ·exact .inl k
   by_cases b:newSS n=[]
   ·exact .inl (by rw[b];rfl)
   have:=(v g (MS g 0 _ (by simpa using b))).1
   exact .inr ⟨g,rfl,VQ r (i g ⟨this,r.lt⟩ r.lt) (AD r.lt s)⟩
  have A:Pst f p [[]]:=by
   obtain⟨g,rfl,r⟩:=u.resolve_left σ;have:=x g (MS g 0 1 ω);have t:=VQ r (i g ⟨this,r.lt⟩ r.lt) (AD r.lt s)
   exact .inr ⟨g,0,rfl,t.lt,λi b=>match i,b with|0,_=>⟨none,0,t.y 0,.inl rfl⟩|i+1,b=>absurd b σ⟩
  exact⟨z.strs,.inl rfl,.inl rfl,A,.inl rfl⟩
 exact⟨⟨a,c,l,m,none,0,p,o,none,0⟩,rfl,⟨q d (λ_ _ _=>rfl) (Y _),λf b g=>q f g b.size⟩,y⟩
def vX(w a:World)(r:Ending):Prop:=∃x q N,r=.returned (LO x q)/\x.good N/\(8<=N/\N<=40)/\(1<=x.w/\x.w<=8)/\Below w.heap.size w a
theorem wR(a:Option Addr)(n c:Nat)(w:World)(h:Bys w a n)(u:n<=1048576)(s:n<=c):Calls prog 9 #[.slice a n c] w λr b=>vX w b r:=by
 go_enter func9,ntmps9;go_upto_region 1 with fail;generalize b:w.alloc _=y;obtain⟨d,i,e⟩:=LF b;clear b;have j:=Z e.q;have b:=Z d;have l:=h.z d;clear e d h;go_wp2_with fail;refine(aq a n c y l u s).A ?_;rintro e A ⟨rfl,⟨m,p,o⟩,g⟩;have k:=Z (j.l.z g);have f:=Z (b.l.j (g.A b.l.size));have d:=Z o;clear j b o g l;rw[i];rw[i]at d;clear i;go_wp2_with fail;refine(zE _ a m p 0 _ d.l ω).A ?_;rintro r l ⟨⟨x,q,N,g,z,rfl,t,o,v,-⟩,-,i⟩;have j:=k.l.I i (λe=>by injection e with e;omega);have b:=f.l.j (MR i f.l.size (λg e=>by injection e with e;omega));clear k f d i;unfold LO
 try simp only[J]
 refine‹∀(a:Act) (w:World),wpList _ _ _ _ a w->_› _ _ ?_
 refine BI rfl 36 _ _ rfl w.heap.size 0 (OR x q).toArray rfl rfl (j.there rfl) LX κ ?_;have f:=j.sets (OR x q) rfl;have d:=b.j (MR (OQ l w.heap.size 0 (OR x q)) b.size (λg e=>by cases e;exact Y _));generalize i:l.setCells _ _ _=k at f d⊢;clear i j b
 try go_wp2
 exact VP 2 36 results9 _ rfl (OR x q) _ f underlying36 rfl LX rfl ⟨x,q,N,rfl,t,o,v,d⟩
def vQ(w a:World)(r:Ending):Prop:=∃(N n:Nat) (q:Wp),r=.returned (.tuple #[LO (KV (N:Int) (n:Int)) q,.bool true])/\(8<=N/\N<=40)/\(1<=n/\n<=8)/\DepF a (λb=>w.heap.size<=b/\b<a.heap.size) (λW=>(KV (N:Int) (n:Int)).at W q)/\Below w.heap.size w a
theorem xX(a:Option Addr)(n c:Nat)(w:World)(h:Bys w a n)(S:n<=1048576)(R:n<=c):Calls prog 4 #[.slice a n c] w λr A=>vQ w A r:=by
 go_enter func4,ntmps4;go_upto_region 1 with fail;generalize b:w.alloc _=T;obtain⟨d,m,e⟩:=LF b;clear b;have f:=Z e.q;have b:=Z d;have j:=h.z d;clear e d h;go_wp2_with fail;refine(wR a n c T j S R).A ?_;rintro r G ⟨x,q,N,rfl,k,hN,i,d⟩;have l:x.ss.length=N:=k.n;have g:=Z (f.l.z d);have e:=Z (b.l.j (d.A b.l.size));have l2:w.heap.size<G.heap.size:=g.l.lt;clear f b d j m k;obtain⟨d,b⟩:∃k:Nat,x.w=(k:Int):=⟨x.w.toNat,ω⟩;unfold LO;rw[l,b];rw[b]at i;generalize x.ws.length=L1,x.up=L2,x.W=L3,x.S=L4,x.L=L5,x.T=L6,x.H=L7,x.F=L8,x.R=L9,x.U=L10,x.O=L11,x.rs.length=L12,x.P.length=L13,x.ts.length=u;clear l b
 try simp only[J]
 refine‹∀(a:Act) (w:World),wpList _ _ _ _ a w->_› _ _ ?_
 refine lz ?_;generalize b:G.alloc _=O;obtain⟨j,s,m⟩:=LF b;clear b;have l:=m.q;obtain⟨X,o⟩:∃X,X=G.heap.size:=⟨_,rfl⟩;have f:=g.l.z j;have b:=e.l.j (j.A e.l.size);rw[<-o]at l⊢;have cH:w.heap.size<X:=ω
 clear m j g e
 try simp only[J]
 refine BI rfl 36 _ _ rfl X 0 #[.int .i64 (d:Int),.slice q.a N q.c,.slice q.a' L1 q.c',.bool L2,.int .i64 L3,.int .i64 L4,.int .i64 L5,.int .i64 L6,.int .i64 L7,.int .i64 L8,.int .i64 L9,.int .i64 L10,.int .i64 L11,.slice q.s L12 q.cs,.slice q.p L13 q.cp,.slice q.t u q.ct] rfl rfl (l.there rfl) LX κ ?_;have m:=l.sets [.int .i64 (d:Int),.slice q.a N q.c,.slice q.a' L1 q.c',.bool L2,.int .i64 L3,.int .i64 L4,.int .i64 L5,.int .i64 L6,.int .i64 L7,.int .i64 L8,.int .i64 L9,.int .i64 L10,.int .i64 L11,.slice q.s L12 q.cs,.slice q.p L13 q.cp,.slice q.t u q.ct] rfl;have j:=OQ O X 0 [.int .i64 (d:Int),.slice q.a N q.c,.slice q.a' L1 q.c',.bool L2,.int .i64 L3,.int .i64 L4,.int .i64 L5,.int .i64 L6,.int .i64 L7,.int .i64 L8,.int .i64 L9,.int .i64 L10,.int .i64 L11,.slice q.s L12 q.cs,.slice q.p L13 q.cp,.slice q.t u q.ct];generalize p:O.setCells _ _ _=U at m j⊢
 have f:=f.I j (λe=>by injection e with e;omega);have b:=b.j (MR j b.size (λg e=>by cases e;omega));clear p j l o s
 try simp only[J]
 have p:=m.y 0;have s:=m.y 1;have lX:=m.lt;have o:=Z f;have j:=Z b;have l:=Z m;clear f b m;go_wp2_with fail;refine(nw_i_yes (N:Int) (d:Int) U ω i).A ?_;intro r y m;obtain⟨f,rfl,L,b⟩:=zJ m;clear m p s;have t:(KV (N:Int) (d:Int)).ss.length=N:=by show(newSS (N:Int)).length=N;unfold newSS;rw[AF ω];simp
 have E:=Z (o.l.z b);have v:=Z (l.l.z b);have B:=j.l.j (b.A j.l.size);have l5:=v.l.lt;have s5:=j.l.size;clear o l j b
 try simp only[J]
 refine‹∀(a:Act) (w:World),wpList _ _ _ _ a w->_› _ _ ?_
 refine lz ?_;generalize b:y.alloc _=H;have D:Row H y.heap.size [.int .i64 0,.slice none 0 0,.slice none 0 0,.bool false,.int .i64 0,.int .i64 0,.int .i64 0,.int .i64 0,.int .i64 0,.int .i64 0,.int .i64 0,.int .i64 0,.int .i64 0,.slice none 0 0,.slice none 0 0,.slice none 0 0]:=(LF b).2.2.q;have p:=(LF b).1;clear b
 try simp only[J]
 refine vn D ?_;have o:=D.sets (OR (KV (N:Int) (d:Int)) f) rfl;have j:=OQ H y.heap.size 0 (OR (KV (N:Int) (d:Int)) f);obtain⟨s,I⟩:∃s,s=y.heap.size:=⟨_,rfl⟩;rw[<-I]at o j⊢;generalize P:H.setCells _ _ _=z at o j⊢;have M:=(E.l.z p).I j (λe=>by injection e with e;omega);have m:=(v.l.z p).I j (λe=>by injection e with e;omega);have C:=B.j (p.A B.size);have F:=C.j (MR j C.size (λg e=>by cases e;omega));have K:=((L.z p).I j (λg e k=>by cases e;omega)).A (G:=λb=>w.heap.size<=b/\b<s/\b≠w.heap.size) (λb l k=>⟨ω,ω,ω⟩);clear P j L E v p D B C;have W:X<s:=ω
 clear I;unfold OR wL at o;rw[t]at o;unfold LO;rw[t]
 try simp only[J]
 go_upto_region 3 with fail;have j:Below z.heap.size z z.drew:=(AC _ _).drew;have C:=m.z j;have D:=o.z j;have E:=M.z j;have v:=F.j (j.A F.size);have B:=K.z j;clear j m o M F K;refine AN (S:=λA=>Row A X [.int .i64 (d:Int),.slice q.a N q.c,.slice q.a' L1 q.c',.bool L2,.int .i64 L3,.int .i64 L4,.int .i64 L5,.int .i64 L6,.int .i64 L7,.int .i64 L8,.int .i64 L9,.int .i64 L10,.int .i64 L11,.slice q.s L12 q.cs,.slice q.p L13 q.cp,.slice q.t u q.ct]/\Row A s [.int .i64 (KV (N:Int) (d:Int)).w,.slice f.a N f.c,.slice f.a' (KV (N:Int) (d:Int)).ws.length f.c',.bool (KV (N:Int) (d:Int)).up,.int .i64 (KV (N:Int) (d:Int)).W,.int .i64 (KV (N:Int) (d:Int)).S,.int .i64 (KV (N:Int) (d:Int)).L,.int .i64 (KV (N:Int) (d:Int)).T,.int .i64 (KV (N:Int) (d:Int)).H,.int .i64 (KV (N:Int) (d:Int)).F,.int .i64 (KV (N:Int) (d:Int)).R,.int .i64 (KV (N:Int) (d:Int)).U,.int .i64 (KV (N:Int) (d:Int)).O,.slice f.s (KV (N:Int) (d:Int)).rs.length f.cs,.slice f.p (KV (N:Int) (d:Int)).P.length f.cp,.slice f.t (KV (N:Int) (d:Int)).ts.length f.ct]) κ (⟨C,D⟩) (λo=>?_)
 refine TK 0 (.agg #[.int .i64 (KV (N:Int) (d:Int)).w,.slice f.a N f.c,.slice f.a' (KV (N:Int) (d:Int)).ws.length f.c',.bool (KV (N:Int) (d:Int)).up,.int .i64 (KV (N:Int) (d:Int)).W,.int .i64 (KV (N:Int) (d:Int)).S,.int .i64 (KV (N:Int) (d:Int)).L,.int .i64 (KV (N:Int) (d:Int)).T,.int .i64 (KV (N:Int) (d:Int)).H,.int .i64 (KV (N:Int) (d:Int)).F,.int .i64 (KV (N:Int) (d:Int)).R,.int .i64 (KV (N:Int) (d:Int)).U,.int .i64 (KV (N:Int) (d:Int)).O,.slice f.s (KV (N:Int) (d:Int)).rs.length f.cs,.slice f.p (KV (N:Int) (d:Int)).P.length f.cp,.slice f.t (KV (N:Int) (d:Int)).ts.length f.ct]) rfl (BW ⟨ρ,λw i=>by obtain⟨p,m⟩:=i;exact RK 36 _ rfl s 0 rfl [.int .i64 (KV (N:Int) (d:Int)).w,.slice f.a N f.c,.slice f.a' (KV (N:Int) (d:Int)).ws.length f.c',.bool (KV (N:Int) (d:Int)).up,.int .i64 (KV (N:Int) (d:Int)).W,.int .i64 (KV (N:Int) (d:Int)).S,.int .i64 (KV (N:Int) (d:Int)).L,.int .i64 (KV (N:Int) (d:Int)).T,.int .i64 (KV (N:Int) (d:Int)).H,.int .i64 (KV (N:Int) (d:Int)).F,.int .i64 (KV (N:Int) (d:Int)).R,.int .i64 (KV (N:Int) (d:Int)).U,.int .i64 (KV (N:Int) (d:Int)).O,.slice f.s (KV (N:Int) (d:Int)).rs.length f.cs,.slice f.p (KV (N:Int) (d:Int)).P.length f.cp,.slice f.t (KV (N:Int) (d:Int)).ts.length f.ct] _ m.range underlying36 rfl LX⟩) o ?_;simp only[J];refine TK 1 (.pointer (some ⟨s,0,none⟩)) rfl (BW ⟨ρ,λw i=>by obtain⟨p,m⟩:=i;have l:=m.lt;go_simp⟩) o ?_;simp only[J];refine TK 2 (.int .i64 (d:Int)) rfl (BW ⟨ρ,λw i=>by obtain⟨p,m⟩:=i;have c:w.cell? ⟨s,0,none⟩=some (.int .i64 (d:Int)):=m.y 0;clear v B;go_simp⟩) o ?_;simp only[J];refine TK 3 (.pointer (some ⟨X,0,none⟩)) rfl (BW ⟨ρ,λw i=>by obtain⟨p,m⟩:=i;have l:=p.lt;go_simp⟩) o ?_;simp only[J];refine TK 4 (.int .i64 (d:Int)) rfl (BW ⟨ρ,λw i=>by obtain⟨p,m⟩:=i;have c:=p.y 0;go_simp⟩) o ?_;simp only[J];refine V 5 (.bool true) rfl o ?_;simp only[J];refine V 6 (.bool true) rfl o ?_;simp only[J];refine TK 7 (.pointer (some ⟨s,1,none⟩)) rfl (BW ⟨ρ,λw i=>by obtain⟨p,m⟩:=i;have l:=m.lt;go_simp⟩) o ?_;simp only[J];refine TK 8 (.pointer (some ⟨s,1,none⟩)) rfl (BW ⟨ρ,λw i=>by obtain⟨p,m⟩:=i;have l:=m.lt;go_simp⟩) o ?_;simp only[J];refine TK 9 (.slice f.a N f.c) rfl (BW ⟨ρ,λw i=>by obtain⟨p,m⟩:=i;have c:w.cell? ⟨s,1,none⟩=some (.slice f.a N f.c):=m.y 1;go_simp⟩) o ?_;simp only[J];refine V 10 (.int .i64 (N:Int)) rfl o ?_;simp only[J];refine TK 11 (.pointer (some ⟨X,1,none⟩)) rfl (BW ⟨ρ,λw i=>by obtain⟨p,m⟩:=i;have l:=p.lt;go_simp⟩) o ?_
 simp only[J];refine TK 12 (.pointer (some ⟨X,1,none⟩)) rfl (BW ⟨ρ,λw i=>by obtain⟨p,m⟩:=i;have l:=p.lt;go_simp⟩) o ?_;simp only[J];refine TK 13 (.slice q.a N q.c) rfl (BW ⟨ρ,λw i=>by obtain⟨p,m⟩:=i;have c:=p.y 1;go_simp⟩) o ?_;simp only[J];refine V 14 (.int .i64 (N:Int)) rfl o ?_;simp only[J];refine V 15 (.bool true) rfl o ?_;simp only[J];refine V 16 (.bool true) rfl o ?_;simp only[J];refine RD 17 rfl (λK A=>?_);refine SU ρ 36 _ _ ρ w.heap.size 0 #[.int .i64 (KV (N:Int) (d:Int)).w,.slice f.a N f.c,.slice f.a' (KV (N:Int) (d:Int)).ws.length f.c',.bool (KV (N:Int) (d:Int)).up,.int .i64 (KV (N:Int) (d:Int)).W,.int .i64 (KV (N:Int) (d:Int)).S,.int .i64 (KV (N:Int) (d:Int)).L,.int .i64 (KV (N:Int) (d:Int)).T,.int .i64 (KV (N:Int) (d:Int)).H,.int .i64 (KV (N:Int) (d:Int)).F,.int .i64 (KV (N:Int) (d:Int)).R,.int .i64 (KV (N:Int) (d:Int)).U,.int .i64 (KV (N:Int) (d:Int)).O,.slice f.s (KV (N:Int) (d:Int)).rs.length f.cs,.slice f.p (KV (N:Int) (d:Int)).P.length f.cp,.slice f.t (KV (N:Int) (d:Int)).ts.length f.ct] ρ ρ (E.there rfl) LX κ ?_
 have I:=E.sets [.int .i64 (KV (N:Int) (d:Int)).w,.slice f.a N f.c,.slice f.a' (KV (N:Int) (d:Int)).ws.length f.c',.bool (KV (N:Int) (d:Int)).up,.int .i64 (KV (N:Int) (d:Int)).W,.int .i64 (KV (N:Int) (d:Int)).S,.int .i64 (KV (N:Int) (d:Int)).L,.int .i64 (KV (N:Int) (d:Int)).T,.int .i64 (KV (N:Int) (d:Int)).H,.int .i64 (KV (N:Int) (d:Int)).F,.int .i64 (KV (N:Int) (d:Int)).R,.int .i64 (KV (N:Int) (d:Int)).U,.int .i64 (KV (N:Int) (d:Int)).O,.slice f.s (KV (N:Int) (d:Int)).rs.length f.cs,.slice f.p (KV (N:Int) (d:Int)).P.length f.cp,.slice f.t (KV (N:Int) (d:Int)).ts.length f.ct] rfl;have j:=OQ z.drew w.heap.size 0 [.int .i64 (KV (N:Int) (d:Int)).w,.slice f.a N f.c,.slice f.a' (KV (N:Int) (d:Int)).ws.length f.c',.bool (KV (N:Int) (d:Int)).up,.int .i64 (KV (N:Int) (d:Int)).W,.int .i64 (KV (N:Int) (d:Int)).S,.int .i64 (KV (N:Int) (d:Int)).L,.int .i64 (KV (N:Int) (d:Int)).T,.int .i64 (KV (N:Int) (d:Int)).H,.int .i64 (KV (N:Int) (d:Int)).F,.int .i64 (KV (N:Int) (d:Int)).R,.int .i64 (KV (N:Int) (d:Int)).U,.int .i64 (KV (N:Int) (d:Int)).O,.slice f.s (KV (N:Int) (d:Int)).rs.length f.cs,.slice f.p (KV (N:Int) (d:Int)).P.length f.cp,.slice f.t (KV (N:Int) (d:Int)).ts.length f.ct]
 generalize L:World.setCells _ _ _ _=v9 at I j⊢;have Q:=C.I j (λe=>by injection e with e;omega);have F:=D.I j (λe=>by injection e with e;omega);have M:=v.j (MR j v.size (λg e=>by cases e;exact Y _));have P:=B.I j (λg e k=>by cases e;omega);have cI:=F.lt;clear L j C D E v B;refine A.l _ _ (⟨Q,F⟩) (λg=>?_)
 try simp only[J]
 refine RD 18 rfl (λK A=>?_);go_simp;refine A.l _ _ g (λ_=>?_)
 try simp only[J]
 refine DN ?_;go_wp2
 exact ib 2 3 36 results4 _ rfl _ rfl [.int .i64 (KV (N:Int) (d:Int)).w,.slice f.a N f.c,.slice f.a' (KV (N:Int) (d:Int)).ws.length f.c',.bool (KV (N:Int) (d:Int)).up,.int .i64 (KV (N:Int) (d:Int)).W,.int .i64 (KV (N:Int) (d:Int)).S,.int .i64 (KV (N:Int) (d:Int)).L,.int .i64 (KV (N:Int) (d:Int)).T,.int .i64 (KV (N:Int) (d:Int)).H,.int .i64 (KV (N:Int) (d:Int)).F,.int .i64 (KV (N:Int) (d:Int)).R,.int .i64 (KV (N:Int) (d:Int)).U,.int .i64 (KV (N:Int) (d:Int)).O,.slice f.s (KV (N:Int) (d:Int)).rs.length f.cs,.slice f.p (KV (N:Int) (d:Int)).P.length f.cp,.slice f.t (KV (N:Int) (d:Int)).ts.length f.ct] _ I underlying36 rfl LX rfl ⟨N,d,f,by unfold LO;first|(rw[t];done)|(rw[t];rfl)|rw[<-t],ω,ω,P.A (λb l k=>⟨k.1,ω⟩),M⟩
end
section
open Tryz
open Go.RowKit nw
theorem pK{N n:Nat}(f:8<=N/\N<=40)(g:1<=n/\n<=8):MP (KV (N:Int) (n:Int))=true:=by
 have b:LG (newSS (N:Int)) []=true:=by
  unfold newSS;rw[AF ω];exact ai (by rw[CU];simp;omega) (λs a=>by rw[List.eq_of_mem_replicate a];decide) (λx c=>by cases c)
 have c:PT [[]]=true:=by unfold PT;simp[TQ]
 have a:PX (KV (N:Int) (n:Int))=true:=rfl;have d:QR []=true:=rfl;have e:1<=(KV (N:Int) (n:Int)).w/\(KV (N:Int) (n:Int)).w<=8:=by show 1<=(n:Int)/\(n:Int)<=8;omega
 unfold MP;simp only[BE,BC];exact⟨e,b,a,c,d⟩
def vS(w wr:World)(B N b c:Nat)(a:Value):Prop:=∃n j x q,a=.int .i64 ((n:Nat):Int)/\CrI x N b c n j/\CwW w wr B x q
def vR(w wr:World)(B N b c:Nat)(a:Value):Prop:=∃n j x q,a=.int .i64 ((n:Nat):Int)/\0<n/\CrI x N b c n j/\CwW w wr B x q
def vT(w wr:World)(B N b c n:Nat)(a:Value):Prop:=∃i x q,a=.int .i64 ((i:Nat):Int)/\i<=3/\CsI x N b c n i/\CwW w wr B x q
theorem nP:RE.le:=⟨⟨by simp[RE],λx a=>by cases a⟩,by simp[RE]⟩
theorem Io:SP.le:=⟨⟨by simp[SP],λx a=>by cases a⟩,by simp[SP]⟩
theorem Fc:UN.le:=⟨⟨by simp[UN],λx a=>by cases a⟩,by simp[UN]⟩
theorem Du:UR.le:=⟨⟨by simp[UR],λx a=>by cases a⟩,by simp[UR]⟩
theorem zr(n:Nat)(a:n<60):(bC n).length<=1048576/\∀x∈bC n,x.1.size<=1048576/\x.2.1.size<=1048576:=by
 have:=qp (nr a).1;exact⟨ω,this.2⟩
theorem CrI.commitU{x:Wo}{N b q n k:Nat}(h:CrI x N b q n k)(d:n<60)(c:(NR x.W x.S x.L x.T x.H x.F x.R x.U x.O x.rs (bC n)).C=0):(x.doE (SO (bC n))).U=x.U+1:=by
 obtain⟨l,e,m⟩:=h.lim;obtain⟨f,g,a,i,j⟩:=h.u.commit (bC n) c ω e;rw[xh (nr d).2 b h.u.n1]at a;exact a
theorem wE(w:World)(b:Nat)(m n:Int)(h:w.cell? ⟨b,0,none⟩=some (.int .u8 m))(a:w.cell? ⟨b,1,none⟩=some (.int .u8 n)):(convert 22 9 (.slice (some ⟨b,0,none⟩) 2 2)).run prog w=.ok (.string (strOfNums [m,n])) w :=ES (P:=prog) _ 22 5 underlying22 underlying5 b 0 2 2 [m,n] rfl (λi c=>by
  have:i=0\/i=1:=ω
  rcases this with rfl|rfl
  ·simpa using h
  ·simpa using a) 9 underlying9
theorem sS(C W S L T H F R U O:Int)(a b:Value)(w:World):Sem.run prog (Instr.field 48 (.agg #[.int .i64 C,.int .i64 W,.int .i64 S,.int .i64 L,.int .i64 T,.int .i64 H,.int .i64 F,.int .i64 R,.int .i64 U,.int .i64 O,a,b]) 0) w=.ok (.int .i64 C) w:=κ
section
variable {w0 w w1:World} {B:Nat} {x:Wo} {q:Wp} {ops:Array Oper} {rest:List Oper} {o:Oper} {A:Act} {Q:Exit->Act->World->Prop}
theorem nI(h:CwW w0 w B x q)(k:wpList prog ops Q rest (A.put o.dst (MM x.W x.S x.L x.T x.H x.F x.R x.U x.O q.s x.rs.length q.cs)) w){z:Operand}(a:o.guard=none:=by rfl)(b:o.op=.load 33 z:=by rfl)(c:A.eval z=.pointer (some ⟨B,4,none⟩):=by rfl):wpList prog ops Q (o::rest) A w :=UB a _ (RK 33 z b B 4 c (sJ x.W x.S x.L x.T x.H x.F x.R x.U x.O (.slice q.s x.rs.length q.cs)) _ (Row.rangeMid (pre:=[.int .i64 x.w,.slice q.a x.ss.length q.c,.slice q.a' x.ws.length q.c',.bool x.up]) (post:=[.slice q.p x.P.length q.cp,.slice q.t x.ts.length q.ct]) h.r) underlying33 rfl ZH) k
theorem CwW.aside(h:CwW w0 w B x q)(A:Array Value)(t:TypeId)(d:List Value):CwW w0 ((w.alloc (.cells A t)).setCells w.heap.size 0 d) B x q:=by
 have f:=LB w (.cells A t);have c:=OQ (w.alloc (.cells A t)) w.heap.size 0 d;have i:=h.r.lt;have a:=h.z f;refine⟨a.r.I c (λe=>by injection e with e;omega),((((h.m.A (G:=λb=>(w0.heap.size<=b/\b≠B)/\b<w.heap.size) (λb l k=>⟨k,l⟩)).z f).I c (λg e k=>by cases e;omega)).A (λb l k=>k.1)),h.lo,h.cap,a.bl.j (MR c a.bl.size (λg e=>by cases e;exact h.bl.size))⟩
theorem CwW.lay{y:Wo}{a:Wp}{c j:Nat}(h:CwW w0 w B x q)(f:DepF w (λb=>c<=b/\b<j) (λW=>y.at W a))(m:B<c)(n:w0.heap.size<=c)(i:y.rs.length<=a.cs):CwW w0 (w.setCells B 0 (OR y a)) B y a:=by
 have d:=OQ w B 0 (OR y a);exact⟨h.r.sets (OR y a) rfl,(f.I d (λg e k=>by cases e;omega)).A (λb l k=>⟨ω,ω⟩),h.lo,i,h.bl.j (MR d h.bl.size (λg e=>by cases e;exact h.lo))⟩
theorem uM(h:CwW w0 w B x q)(hv:CwG w0)(l:MP x=true)(e:Ev)(f:Option Addr)(g:Nat)(n:Chs w f e.b)(p:e.fs=[])(v:e.le):Calls prog 5 #[LO x q,NH e f g none 0] w λr c=>∃a,r=.returned (LO (x.doE e) a)/\CwW w0 c B x q/\DepF c (λb=>w.heap.size<=b/\b<c.heap.size) (λW=>(x.doE e).at W a)/\(x.doE e).rs.length<=a.cs/\Below w.heap.size w c:=by
 have d:=hv.z h.bl;obtain⟨z,t,u⟩:=d.np;refine(tb x q e f g none 0 w h.m.q h.cap ((du l).1.le) n (by rw[p];exact .inl rfl) v z t u d.et d.ln).A ?_;rintro r c ⟨a,C,rfl,m,y,i,j⟩;have s:x.doR e=x.doE e:=by unfold Wo.doR;rw[AF l]
 rw[s]at m j⊢;exact⟨a,rfl,h.z i,vq m (λb k=>y b k),j,i⟩
theorem Gj{y:Wo}{c:Wp}(h:CwW w0 w B x q)(hv:CwG w0)(D:y.at w c)(s:y.rs.length<=c.cs)(m:MP y=true)(e:Ev)(g:Option Addr)(j:Nat)(p:Chs w g e.b)(t:e.fs=[])(C:e.le):Calls prog 5 #[LO y c,NH e g j none 0] w λr d=>∃a,r=.returned (LO (y.doE e) a)/\CwW w0 d B x q/\CwW w0 (d.setCells B 0 (OR (y.doE e) a)) B (y.doE e) a/\Below w.heap.size w d:=by
 have f:=hv.z h.bl;obtain⟨F,v,z⟩:=f.np;refine(tb y c e g j none 0 w D s ((du m).1.le) p (by rw[t];exact .inl rfl) C F v z f.et f.ln).A ?_;rintro r d ⟨a,G,rfl,n,E,i,l⟩;have u:y.doR e=y.doE e:=by unfold Wo.doR;rw[AF m]
 rw[u]at n l⊢;exact⟨a,rfl,h.z i,h.put i (vq n (λb k=>E b k)) l,i⟩
end
theorem Ga(a:Option Addr)(n c:Nat)(w:World)(h:Bys w a n)(hc:n<=c)(hn:n<=1048576)(hv:CwG w):Calls prog 3 #[.slice a n c] w λe u=>e=.returned (.bool true)/\Below w.heap.size w u:=by
 have eQ:¬(1048576<(n:Int)):=ω
 have b:=Z (xX a n c w h hn hc);have z:=Z hv;clear h hv;go_enter func3,ntmps3;go_wp2_with fail;refine b.l.A ?_;rintro r v1 ⟨N,t,q0,rfl,j,k,l,i⟩;clear b
 try simp only[J]
 refine‹∀(a:Act) (w:World),wpList _ _ _ _ a w->_› _ _ ?_
 refine bp (.tuple #[LO (KV (N:Int) (t:Int)) q0,.bool true]) (bp (LO (KV (N:Int) (t:Int)) q0) (bp (.bool true) (lz ?_)));generalize f:v1.alloc _=v2;obtain⟨b,d⟩:=Dl i l (AO _) f;obtain⟨B,g⟩:∃B,B=v1.heap.size:=⟨_,rfl⟩;rw[<-g]at b d⊢;clear f g l i;simp only[J];refine vn b ?_;generalize f:v2.setCells _ _ _=v3 at d⊢;clear f b;obtain⟨x0,g⟩:∃x,Hid (x=KV (N:Int) (t:Int)):=⟨_,Z rfl⟩;rw[<-g.l]at d⊢;have f:=Z (show MP x0=true by rw[g.l];exact pK j k);obtain⟨P,b⟩:=Bb j k (pK j k);rw[<-g.l]at b;have i:=Z b;clear b g j k;simp only[J];go_upto_region 6 with fail;refine BG ?_;refine ii d ?_;simp only[J];go_wp2_with fail;refine(rq d z.l f.l RE none 0 (.inl rfl) rfl nP).A ?_;rintro r y3 ⟨q3,rfl,b,E,j⟩
 try simp only[J]
 refine‹∀(a:Act) (w:World),wpList _ _ _ _ a w->_› _ _ ?_
 refine iy b.r ?_;generalize g:y3.setCells _ _ _=z3 at E⊢;clear g b j d f;generalize x0.doE RE=x1 at E i⊢
 try simp only[J]
 go_upto_block 0 with fail;go_cut [5,6,7,8] from 23 to 70 (λb _ _ _ d=>vR w d B N t P b)
 case first =>
  go_wp2_with fail;go_loopw [5,6,7,8] (λb _ _ _ wr=>vS w wr B N t P b) (λb _ _ _ wr=>100*(60-(intOf b).toNat)+(intOf ((wr.cell? ⟨B,11,none⟩).getD undef)).toNat)
  case atStart=>exact⟨0,0,x1,q3,rfl,i.l,E⟩
  case round =>
   obtain⟨k,j,x,q,rfl,b,d⟩:=hrel;clear E i;have i:=Z b;clear b
   by_cases O:k<60
   rotate_left
   ·have dL:¬((k:Int)<60):=ω
    go_wp2_with fail;go_meet;exact⟨k,j,x,q,rfl,ω,i.l,d⟩
   have dL:(k:Int)<60:=ω
   have l:k / 10<=5/\k % 10<=9:=ω
   have Q:(k:Int).tdiv 10=((k / 10:Nat):Int):=by rw[Int.tdiv_eq_ediv_of_nonneg ω];omega
   have R:(k:Int).tmod 10=((k % 10:Nat):Int):=by rw[DW ω];omega
   have S:(k:Int) / 10=((k / 10:Nat):Int):=ω
   have U:(k:Int) % 10=((k % 10:Nat):Int):=ω
   obtain⟨o,f⟩:∃D:Int,D=((k / 10:Nat):Int):=⟨_,rfl⟩;obtain⟨p,g⟩:∃D:Int,D=((k % 10:Nat):Int):=⟨_,rfl⟩;rw[<-f]at Q S;rw[<-g]at R U;have W:IntKind.i64.wrap o=o:=KT _ ω ω;have X:IntKind.i64.wrap p=p:=KT _ ω ω;have e3:IntKind.i64.wrap (48+o)=48+o:=KT _ ω ω;have e4:IntKind.i64.wrap (48+p)=48+p:=KT _ ω ω;have e5:IntKind.u8.wrap (48+o)=48+o:=by simp[IntKind.wrap,IntKind.bits,IntKind.signed];omega
   have e6:IntKind.u8.wrap (48+p)=48+p:=by simp[IntKind.wrap,IntKind.bits,IntKind.signed];omega
   obtain⟨T,b⟩:∃T,T=strOfNums [48+o,48+p]:=⟨_,rfl⟩;have s:=wE (wr.alloc (.cells #[.int .u8 (48+o),.int .u8 (48+p)] 5)) wr.heap.size (48+o) (48+p) σ σ;rw[<-b]at s;have v:T.size=2:=by rw[b,BU];rfl
   have A:¬(9223372036854775807<3+T.size):=ω
   have m:=Z (show⟨#[107,101,121]⟩++T=XO k by unfold XO;rw[b,f,g]);have K:=Z d;have bY:=Z (d.r.y 11);clear b f g l d;go_upto_region 10 with fail;rw[m.l];generalize b:wr.alloc _=v5;obtain⟨l,I,-⟩:=LF b;generalize f:v5.alloc _=v6;obtain⟨M,z6,d⟩:=LF f;have y:=d.q;rw[I]at y;clear b f d m s v A;obtain⟨G,L⟩:∃G,G=wr.heap.size+1:=⟨_,rfl⟩;rw[<-L]at y⊢;have H:Chs v6 (some ⟨G,0,none⟩) (bC k):=Row.chs (rs:=bC k) y;have b:=K.l.z (l.j (M.A l.size));have A:=b.r.lt;have s:=(du i.l.ok).1.le;have m:=zr k O;have g:=Z (λu d f=>vj x.W x.S x.L x.T x.H x.F x.R x.U x.O q.s x.rs q.cs (some ⟨G,0,none⟩) (bC k) 1 u d s.l3 s.s3 f m.1 m.2);have C:=Z (λu d f=>vH x.W x.S x.L x.T x.H x.F x.R x.U x.O q.s x.rs q.cs (some ⟨G,0,none⟩) (bC k) 1 u d b.cap s.l3 s.s3 f m.1 m.2);have v:Hid (k=0->(NR x.W x.S x.L x.T x.H x.F x.R x.U x.O x.rs (bC k)).C=0):=Z (λe=>by have h:=i.l;subst e;exact h.first)
   have D:Hid ((NR x.W x.S x.L x.T x.H x.F x.R x.U x.O x.rs (bC k)).C=0->CrI (x.doE (SO (bC k))) N t P (k+1) j):=Z (λe=>i.l.commit O e);obtain⟨f,cO⟩:∃d,Hid (d=NR x.W x.S x.L x.T x.H x.F x.R x.U x.O x.rs (bC k)):=⟨_,Z rfl⟩;have F:Hid ((NR x.W x.S x.L x.T x.H x.F x.R x.U x.O x.rs (bC k)).C=0->(x.doE (SO (bC k))).U=x.U+1):=Z (λe=>i.l.commitU O e);rw[<-cO.l]at g C v D F;clear K l M I z6 L y s m Q R S U W X e3 e4 e5 e6;refine BG ?_;refine bp (.pointer (some ⟨B,4,none⟩)) (nI b ?_);simp only[J];go_wp2_with fail;refine(g.l v6 b.m.q.h3 H).A ?_;rintro r v7 ⟨a7,L,b7,f7,rfl,-,-,-,-,m⟩;have l:=b.z m;have u:=H.z m;have y:=l.r.lt;clear b H m g A;unfold MV
   try simp only[J]
   refine‹∀(a:Act) (w:World),wpList _ _ _ _ a w->_› _ _ ?_
   have b:=sS f.C f.W f.S f.L f.T f.H f.F f.R f.U f.O (.slice a7 f.rs.length L) (.slice b7 f.ops.length f7) v7;refine bp (.int .i64 f.C) ?_;clear b;simp only[J];go_upto_region 11 with fail;refine BG ?_;refine bp (.pointer (some ⟨B,4,none⟩)) (nI l ?_);simp only[J];go_wp2_with fail;refine(C.l v7 l.m.q.h3 u).A ?_;rintro r X ⟨⟨a8,c8,b8,f8,rfl,-,-,-,-,s⟩,-⟩;have d:=l.z s;have aM:=u.z s;have dU:=d.r.lt;clear l u s C y;unfold MV
   try simp only[J]
   refine‹∀(a:Act) (w:World),wpList _ _ _ _ a w->_› _ _ ?_
   have b:=sS f.C f.W f.S f.L f.T f.H f.F f.R f.U f.O (.slice a8 f.rs.length c8) (.slice b8 f.ops.length f8) X;refine bp (.int .i64 f.C) ?_;clear b;simp only[J]
   by_cases U:f.C=4
   ·have K:0<k:=by
     rcases FL k with e|e
     ·have:=v.l e;omega
     exact e
    rw[U];clear v D U;go_upto_region 14 with fail;refine BG ?_;refine ii d ?_;simp only[J];go_wp2_with fail;refine(uM d z.l i.l.ok SP none 0 (.inl rfl) rfl Io).A ?_;rintro r Q ⟨u,rfl,s,D9,S,A⟩
    try simp only[J]
    refine‹∀(a:Act) (w:World),wpList _ _ _ _ a w->_› _ _ ?_
    refine lz ?_;simp only[J];have m:=s.aside #[.int .i64 0,.slice none 0 0,.slice none 0 0,.bool false,.int .i64 0,.int .i64 0,.int .i64 0,.int .i64 0,.int .i64 0,.int .i64 0,.int .i64 0,.int .i64 0,.int .i64 0,.slice none 0 0,.slice none 0 0,.slice none 0 0] 36 (OR (x.doE SP) u);have dV:=s.r.lt;generalize H:Q.alloc _=R at m⊢;obtain⟨aH,eK,bZ⟩:=LF H;have bH:=D9.z aH;have l9:=s.bl.size;obtain⟨M,cF⟩:∃M,M=Q.heap.size:=⟨_,rfl⟩;have y:=bZ.q;rw[<-cF]at y m⊢;refine vn y ?_;have C:=y.sets (OR (x.doE SP) u) rfl;have W:=OQ R M 0 (OR (x.doE SP) u);have I:=(bH.I W (λg e k=>by cases e;omega)).A (G:=λb=>X.heap.size<=b/\b<M) (λb l k=>ω);generalize b:R.setCells _ _ _=eJ at m C W I⊢;have cT:B<M:=ω
    have l8:w.heap.size<=X.heap.size:=d.bl.size;clear H b cF bZ aH eK bH D9 s y W l9 dV A;have s:=Z (λh=>i.l.compact h);obtain⟨y,b⟩:∃y,Hid (y=x.doE SP):=⟨_,Z rfl⟩;rw[<-b.l]at C I S s⊢;clear b;simp only[J];have H:=C.y 11;have cB:=m.r.y 11;have W:=C.lt;have A:=m.r.lt
    by_cases hu:x.U<=y.U
    ·go_wp2_with fail
     go_meet;exact⟨k,j,x,q,rfl,K,i.l,m⟩
    go_upto_region 16 with fail
    refine BG ?_;refine AS rfl 36 _ rfl M 0 rfl _ _ C.range underlying36 rfl LX ?_;simp only[J];refine iy (y:=y) (q':=u) m.r ?_;have g:=m.lay I ω l8 S;generalize b:eJ.setCells _ _ _=eT at g⊢;clear b;have l:=g.r.y 11;have b:=Z g;clear m C I H W A cT l8 S;simp only[J];go_wp2_with fail;exact⟨⟨k,j+1,y,u,rfl,s.l ω,b.l⟩,by have m:=i.l.u1;rw[l,bY.l];simp only[intOf,GF];omega⟩
   by_cases b:f.C=0
   rotate_left
   ·have K:0<k:=by
     rcases FL k with e|e
     ·exact absurd (v.l e) b
     exact e
    clear v D F;go_wp2_with fail;go_meet;exact⟨k,j,x,q,rfl,K,i.l,d⟩
   have g:=Z (D.l b);have C:=Z (F.l b);rw[b];clear D F v U b;have v:(SO (bC k)).le:=⟨zr k O,by simp[SO]⟩;go_upto_region 18 with fail;refine BG ?_;refine ii d ?_;simp only[J];go_wp2_with fail;refine(rq d z.l i.l.ok (SO (bC k)) (some ⟨G,0,none⟩) 1 aM rfl v).A ?_;rintro r Q ⟨u,rfl,s,m,A⟩
   try simp only[J]
   refine‹∀(a:Act) (w:World),wpList _ _ _ _ a w->_› _ _ ?_
   refine iy s.r ?_;obtain⟨y,b⟩:∃y,Hid (y=x.doE (SO (bC k))):=⟨_,Z rfl⟩;rw[<-b.l]at m g C⊢;generalize H:Q.setCells _ _ _=R at m⊢;clear H b s A aM d dU;have l:=m.r.y 11;have b:=Z m;clear m;have d:IntKind.i64.wrap ((k:Int)+1)=(k:Int)+1:=KT _ ω ω;simp only[J];go_wp2_with fail;exact⟨⟨k+1,j,y,u,σ,g.l,b.l⟩,by have m:=C.l;have s:=i.l.u1;rw[l,bY.l];simp only[intOf,GF];omega⟩
 case rest =>
  obtain⟨k,j,x,q,rfl,K,b,d⟩:=hcut;have eM:=b.n1;have M:x.rs.length=k:=by rw[b.rs,mX]
  have f:=Z b.ok;have g:=Z b.safe;clear b E i;have o:=d.r.y 13;rw[M]at o;have A:=d.r.lt;have eN:¬((k:Int)=0):=ω
  have eO:((k:Int) == 0)=false:=τ
  go_upto_region 22 with fail;refine BG ?_;refine ii d ?_;simp only[J];go_wp2_with fail;refine(rq d z.l f.l UN none 0 (.inl rfl) rfl Fc).A ?_;rintro r y1 ⟨S,rfl,i,p,l⟩
  try simp only[J]
  refine‹∀(a:Act) (w:World),wpList _ _ _ _ a w->_› _ _ ?_
  refine iy i.r ?_;obtain⟨x5,m⟩:∃y,Hid (y=x.doE UN):=⟨_,Z rfl⟩;rw[<-m.l]at p g⊢;generalize b:y1.setCells _ _ _=I at p⊢;clear b i l d f o A m;simp only[J];go_wp2;go_loopw [9] (λb wr=>vT w wr B N t P k b) (λb _=>3-(intOf b).toNat)
  case atStart=>exact⟨0,x5,S,rfl,ω,g.l,p⟩
  case round =>
   obtain⟨i,xi,qi,rfl,hi,d,b⟩:=hrel
   by_cases H:i<3
   rotate_left
   ·have G:¬((i:Int)<3):=ω
    have f:=Z b.bl;go_wp2;go_ret;exact⟨rfl,f.l⟩
   have G:(i:Int)<3:=ω
   have eL:IntKind.i64.wrap ((i:Int)+1)=(i:Int)+1:=KT _ ω ω;have f:=Z (d.again H);have A:=Z d.ok;have C:=Z (ZZ d.ok UR);clear d;go_upto_region 26 with fail;refine BG ?_;refine ii b ?_;simp only[J];go_wp2_with fail;refine(uM b z.l A.l UR none 0 (.inl rfl) rfl Du).A ?_;rintro r y7 ⟨q7,rfl,u,l,L,m⟩
   try simp only[J]
   refine‹∀(a:Act) (w:World),wpList _ _ _ _ a w->_› _ _ ?_
   try simp only[J]
   go_wp2_with fail;refine(Gj u z.l l.q L C.l RE none 0 (.inl rfl) rfl nP).A ?_;rintro r y8 ⟨E,rfl,v,d,s⟩
   try simp only[J]
   refine‹∀(a:Act) (w:World),wpList _ _ _ _ a w->_› _ _ ?_
   refine iy v.r ?_;obtain⟨o,D⟩:∃y,Hid (y=(xi.doE UR).doE RE):=⟨_,Z rfl⟩;rw[<-D.l]at d f⊢;generalize F:y8.setCells _ _ _=z8 at d⊢;clear F v s D u l L m A C b;simp only[J];have v:o.rs.length=k:=by rw[f.l.rs,mX]
   have u:o.up=true:=by obtain⟨c,_,h⟩:=f.l.u;exact h.up
   have m:=f.l.ok;have b:=Z (WU o E z8 d.m.q ((du m).1.le));rw[m]at b;have s:=Z d;have l:=d.r;unfold OR wL at l;unfold LO at b;rw[v,u]at l b;obtain⟨T,U,W,X,t4,t5,t6,t7,t8,t9,C,D,F,L,O,Q,R⟩:=c16 l;clear l d m u;go_wp2_with fail;refine b.l.A ?_;rintro r l ⟨rfl,A⟩;have d:=Z (s.l.z A);clear b A s T U W X t4 t5 t6 t7 t8 t9 C D F L O Q R;go_wp2_with fail;exact⟨⟨i+1,o,E,σ,ω,f.l,d.l⟩,by simp[intOf];omega⟩
