import Derived.Test.YtmlejnbjclkdjaaGreatDoorPrWiE
set_option maxHeartbeats 16000000
set_option maxRecDepth 8000
set_option linter.all false
namespace Go.Proofs.YtmlejnbjclkdjaaGreatDoor
open _root_.ByteArray(empty)
section
open Tryz
open Go.RowKit Go.MuLone
theorem Fv(i:Nat)(x y:Wo)(q:Wp)(e:Ev)(a:M6)(c:Nat)(f:M6)(d g:Nat)(o:Nat->Nat)(w:Nb)(l:Row w g (ST 0 x q))(C:o g=0)(I:∀b v,Sem.run prog (callFunc i b) v=.ok (.enter i b) v)
  (m:∀b,Row b g (ST 1 x q)->w.grownBy b (some g)->Calls prog i #[Mv g 0,OD e a c f d] b (λr k=>r=M3 (.tuple #[])/\∃j h,HpPost b k g 1 o y j h)):Calls prog 32 #[Mv g 0,.func (.func i) #[] #[],OD e a c f d] w λr b=>r=M3 (.tuple #[])/\∃j h,HpPost w b g 0 o y j h:=by
 have D:=l.lt;have h:=YA (M:=λ_=>True) l (LQ (λ_=>trivial));have j:=Z m;clear l m;unfold OD at j⊢;go_enter_defers func32,ntmps32;go_upto_region 1 with fail;generalize b:w.alloc _=K;obtain⟨n,p,k⟩:=LY b;clear b;replace h:=(h.I n).add (LZ k.q ω);clear k p;have p:=h.r.y 0;have s:=h.r.A 0;have t:=h.r.lt;have J:=n.size;go_wp2_with (go_at_call 70;refine(lock_free tS ⟨g,0,none⟩ _ p s).z ?_;rintro r F ⟨rfl,k⟩;have b:=h.set 0 σ (.int .i32 1);rw[<-k]at b;have u:=b.m.q.2.y 0;have v:=b.m.q.2.y 1;have z:=b.m.q.2.y 2;have A:=b.m.q.2.y 3;have B:=b.m.q.2.lt;clear k h p s t);clear u v z A B;refine(j.l F b.r b.e).z ?_;rintro r z ⟨rfl,v,u,k⟩;have h:=Z k;have p:=Z b.e;clear k b j;go_wp2;refine leaves_cons (f:=71) (args:=#[Mv g 0]) σ (by simp[go_sem]) ?_
 refine(unlock_deferred tS ⟨g,0,none⟩ .returning _ (h.l.r.y 0) (h.l.r.A 0)).z ?_;rintro r A B ⟨rfl,rfl,rfl⟩;refine⟨_,JZ rfl _ _ _,rfl,v,u,?_⟩;have H:=h.l;have E:=p.l;have G:=QC (BY z (some g)) 0 (.int .i32 0);exact⟨H.r.set 0 σ (.int .i32 0),H.h.J G ((H.ag g (AD D E.size)).j C),λb t=>H.ag b (AD t E.size),G.os.j (H.os.j E.os),G.tape.j (H.tape.j E.tape),G.output.j (H.output.j E.output),AK E.size (AK H.size G.size),λb j k s=>(G.block b (AD j (AK E.size H.size)) (λe=>k (by injection e))).j ((H.block b (AD j E.size) k s).j (E.block b j (λe=>k (by injection e)))),H.cap⟩
end
section
open Tryz
open Go.RowKit
structure PcI(B:Nat)(w:Nb)(o:Nat->Nat)(v:Nc)(P:List (List Pr))(j:Nat)(news:List Nc):Prop where
 own:w.ownsRow B 31 1 v j news
 lab:∀g,v.ownBlock=some g->o g=5
 low:∀b,o b≠0->B<=b
 ech:∀i,i<j->∃p c,news[i]?=some (.slice p (P.getD i []).length c)/\OwL w o (7+i) p (MC (P.getD i []))
theorem PcI.I{B:Nat}{w d:Nb}{o:Nat->Nat}{v:Nc}{P:List (List Pr)}{j:Nat}{a:List Nc}(h:PcI B w o v P j a)(b:Below w.heap.size w d):PcI B d o v P j a :=⟨NC h.own b,h.lab,h.low,λi g=>by obtain⟨p,c,e,f⟩:=h.ech i g;exact⟨p,c,e,f.only (K:=λ_=>False) (sm b) id⟩⟩
theorem PcI.push{B g cap:Nat}{w W l:Nb}{o:Nat->Nat}{v:Nc}{P:List (List Pr)}{j:Nat}{d:List Nc}{a:M6}{c:Nat}(h:PcI B w o v P j d)(C:B<=w.heap.size)(f:Below w.heap.size w W)(q:OwnS W a (MC (P.getD j [])))(p:∀g,blk a (P.getD j []).length=some g->w.heap.size<=g)
  (own:l.ownsRow B 31 1 (.slice (Mw g 0) (j+1) cap) (j+1) (d++[.slice a (P.getD j []).length c]))(r:W.grownBy l v.ownBlock)(s:v.ownBlock=some g\/g=W.heap.size):∃b,PcI B l b (.slice (Mw g 0) (j+1) cap) P (j+1) (d++[.slice a (P.getD j []).length c]):=by
 have E:=f.size
 have t:=λb k=>VL (g:=b) q an k
 have hv:∀b,v.ownBlock=some b->b<w.heap.size:=λb k=>(h.own.lt b k).2
 refine⟨λb=>if b<w.heap.size then o b else if blk a (P.getD j []).length=some b then 7+j else if b=W.heap.size then 5 else 0,own,λx e=>?_,λb=>?_,λi D=>?_⟩
 ·cases e
  rcases s with k|k
  ·exact(AE (hv g k)).j (h.lab g k)
  show(if g<w.heap.size then o g else if blk a (P.getD j []).length=some g then 7+j else if g=W.heap.size then 5 else 0)=5
  rw[AG ω,AG (λe=>by have:=t g e;omega),AE k]
 ·show(if b<w.heap.size then o b else if blk a (P.getD j []).length=some b then 7+j else if b=W.heap.size then 5 else 0)≠0->B<=b
  by_cases m:b<w.heap.size
  ·rw[AE m];exact h.low b
  exactλ_=>ω
 have m:∀b,b<w.heap.size->(λb=>if b<w.heap.size then o b else if blk a (P.getD j []).length=some b then 7+j else if b=W.heap.size then 5 else 0) b=o b:=λb f=>AE f
 have n:Only (λb=>if b<w.heap.size then o b else if blk a (P.getD j []).length=some b then 7+j else if b=W.heap.size then 5 else 0) (λk=>k=5) W l:=io r (λx e=>(m x (hv x e)).j (h.lab x e));have e:d.length=j:=by rw[h.own.1,KM]
 by_cases b:i<j
 ·obtain⟨A,u,y,z⟩:=h.ech i b
  exact⟨A,u,by rw[BC ω];exact y,((z.lab m).only (K:=λ_=>False) (sm f) id).only n ω⟩
 obtain rfl:i=j:=ω
 refine⟨a,c,by rw[DG ω,e];simp,(TW q SM p (λx k=>?_)).only n ω⟩;show(if x<w.heap.size then o x else if blk a (P.getD i []).length=some x then 7+i else if x=W.heap.size then 5 else 0)=7+i;rw[AG (by have:=p x k;omega),AE k]
theorem PcI.pso{B:Nat}{w:Nb}{o f:Nat->Nat}{p:M6}{c:Nat}{P:List (List Pr)}{a:List Nc}(h:PcI B w o (.slice p P.length c) P P.length a)(d:∀b,B<=b->b<w.heap.size->f b=o b):XJ w f p P:=by
 by_cases s:P.length=0
 ·exact .inl s
 obtain⟨g,l,e,j,b⟩:=h.own.form ω
 injection e with m _ q;subst m q;refine .inr ⟨g,rfl,b,(d g j b).j (h.lab g rfl),λi t=>?_⟩;obtain⟨y,k,u,v⟩:=h.ech i t;exact⟨y,k,(TE h.own).cell i _ u,v.imp_right λ⟨x,e,r,n⟩=>⟨x,e,r,(d x (h.low x ω) r.lt).j n⟩⟩
def zW(w c:Nb)(r:Ending)(x:Wo):Prop:=∃q o a,r=M3 (MB x q)/\RE x c q o/\x.rs.length<=q.cs/\c.ownsRow w.heap.size 31 1 (.slice q.p x.P.length q.cp) x.P.length a/\(∀b,b<w.heap.size->o b=0)/\Below w.heap.size w c
def yE(V w:Nb)(c b:Nc)(P:List (List Pr)):Prop:=∃(j:Nat) (o:Nat->Nat) (a:List Nc),j<=P.length/\b=.int .i64 (j:Int)/\PcI V.heap.size w o c P j a/\Below V.heap.size V w
theorem Hw(x:Wo)(q:Wp)(w:Nb)(h:x.at w q)(cN:LE x.ss x.ws=true)(A:x.ok):Calls prog 26 #[MB x q] w λr a=>zW w a r x:=by
 obtain⟨⟨l,cJ,cL⟩,i,g⟩:=LK cN;have o:=A.le;have dR:=A.p.1;have dZ:=A.t.1;have dU:=(VC A.s).1;have cQ:Hid (∀j,j<x.P.length->(x.P.getD j []).length<=1048576):=Z (λj hj=>by have:=(VC (A.p.2 (x.P.getD j []) (by simp[List.getD,hj]))).1;omega);have k:=Z (λa n d=>fy q.a x.ss q.c q.a' x.ws q.c' a n d cJ cL (λs c=>by have:=i s c;omega) (λy b=>by have:=AV (g y b);omega));unfold LF at k;have S:=Z (RA (ws:=x.ws) λy b=>by have:=AV (g y b);omega);have m:DepF w (λb=>b≠w.heap.size) (λW=>x.at W q):=(RG h (λa c=>h.I c)).z (λb c _=>ω);obtain⟨i0,a,d,e,f⟩:=XF dw;have D:=Z (AH a (AH d (AH e f)));clear a d e f;obtain⟨i1,a,d,e,f⟩:=XF mg;have HJ:=Z (AH a (AH d (AH e f)));clear a d e f;unfold MB;clear h cN l i g o A;go_enter func26,ntmps26
 go_upto_region 1 with fail;generalize a:w.alloc _=v1;obtain⟨d,g,l⟩:=LY a;clear a;generalize a:v1.alloc _=v2;obtain⟨e,i,f⟩:=LY a;clear a;rw[g]at f i;have c:=d.j (e.z d.size);have a:Sc w v2 w.heap.size (wL x q) _:=⟨⟨c.os,c.tape,c.output,c.size,λb M _=>c.block b M⟩,(l.I e).q,((m.I d).I e).and (LZ f.q ω)⟩;clear c d e l f g i m;have c:=a.r.y 1;have e:=a.r.y 2;have i:=a.r.lt;go_wp2_with fail;clear c e i;refine(k.l _ a.m.q.1.h1 a.m.q.1.h2).z ?_;rintro r v3 ⟨g,v,rfl,p,own,B,c⟩;replace a:=a.I c;have l3:=c.size;obtain⟨a2,e,rfl⟩:=ij own;have t:=(pK own).1.hld S.l;clear k c;go_wp2_with fail;have i:=mp (Mw g 0) (x.ss.map LI) x.ss.length x.ss.length a2 (ME x.ws) x.ws.length e σ (RL _) v3 p.plt t cJ cL p.len S.l;rw[mY,pA]at i;unfold LF at i;refine i.z ?_
 rintro r F ⟨f,n,m,s,rfl,d,u,z,c⟩;have lw:=a.e.size;have l4:w.heap.size+1<F.heap.size:=(a.I c).m.q.2.lt
 have gA:∀g,blk f x.ss.length=some g->w.heap.size+1<g:=λg k=>by have:=u g k;have:=a.m.q.2.lt;omega
 have gB:∀g,blk m x.ws.length=some g->w.heap.size+1<g:=λg k=>by have:=z g k;have:=a.m.q.2.lt;omega
 have uA:=λg k=>VL (g:=g) d.s (λl o=>l (uE o)) k
 have uB:=λg k=>VL (g:=g) d.p (λl o=>l (zj o)) k
 have dL:=d.ne;replace a:=(a.I c).add ((VD d.s VE (λg k=>LA (gA g k)) (SB:=w.heap.size) ω).and (VD d.p ac (λg k=>LA (gB g k)) (SB:=w.heap.size) ω));clear i c d own p t B u z;have c:=a.r.y 1;have e:=a.r.y 2;have d:=a.r.A 1;have l:=a.r.A 2;have i:=a.r.lt;go_upto_region 2 with fail;clear c d e l i;replace a:=(a.set 1 σ (.slice f x.ss.length n)).set 2 σ (.slice m x.ws.length s);have z5:((F.setCell ⟨w.heap.size,1,none⟩ (.slice f x.ss.length n)).setCell ⟨w.heap.size,2,none⟩ (.slice m x.ws.length s)).heap.size=F.heap.size:=by rw[BH,BH]
 generalize c:World.setCell (World.setCell _ _ _) _ _=v5 at a z5⊢;clear c;have o:=Z (ZF q.s x.rs q.cs v5 a.m.q.1.1.h3 ω);unfold MH at o;have c:=a.r.y 13;have d:=a.r.A 13;have i:=a.r.lt;go_wp2_with fail;clear c d i;refine o.l.z ?_;rintro r v6 ⟨l,t,rfl,cU,d,e,c⟩;unfold MH;have eC:=c.size
 have L:∀g,blk l x.rs.length=some g->F.heap.size<=g:=λg k=>by have:=e g k;omega
 have uC:=λg k=>VL (g:=g) d an k
 replace a:=(a.I c).add (VD d SM e (SB:=w.heap.size) (by have:=a.r.lt;omega));clear o c d e;have c:=a.r.y 13;have B:=a.r.y 14;have d:=a.r.A 13;have E:=a.r.A 14;have i:=a.r.lt;go_wp2_with fail;clear c d B E i;have eG:=a.e.size;replace a:=a.set 13 σ (.slice l x.rs.length t);have z7:(v6.setCell ⟨w.heap.size,13,none⟩ (.slice l x.rs.length t)).heap.size=v6.heap.size:=BH _ _ _;generalize c:World.setCell _ _ _=V at a z7⊢;clear c;go_loopw [3,20] (λd c wr=>yE V wr d c x.P) (λ_ c _=>x.P.length-(intOf c).toNat)
 case atStart=>exact⟨0,λ_=>0,[],AM _,rfl,⟨DA _ _ _ _,λg e=>by(cases e),λb e=>absurd rfl e,λi c=>ω⟩,AB _ _⟩
 case round =>
  rename Nc=>d
  obtain⟨j,oj,C,hj,rfl,z,B⟩:=hrel;have d:=a.I B;have J:=B.size
  by_cases cI:j<x.P.length
  ·have cW:(j:Int)<(x.P.length:Int):=ω
   have dQ:(0:Int)<=(j:Int):=ω
   have eB:IntKind.i64.wrap ((j:Int)+1)=((j+1:Nat):Int):=by rw[jn _ ω ω];omega
   obtain⟨b,ob,p,K,c,dP,O,u⟩:=d.m.q.1.1.1.h4.at cI;rw[c];clear c a d;have cB:=cQ.l j cI;obtain⟨c,U⟩:∃y,Hid (y=x.P.getD j []):=⟨_,Z rfl⟩;have I:=Z z;have cP:=Z B;rw[<-U.l]at O u cB;clear z B;have o:=Z (ZF p c K (wr.alloc (.cells #[.slice p c.length K] 31)) (u.l.I (LO _ _)) cB);unfold MH at o;go_wp2_with fail;refine o.l.z ?_;rintro r G ⟨H,X,rfl,cV,Q,T,P⟩;unfold MH;have E:=Z ((LO wr (.cells #[.slice p c.length K] 31)).j (P.z σ));have N:=Z Q;have R:Hid (∀g,blk H c.length=some g->wr.heap.size<=g):=Z (λg k=>by have:=T g k;simp at this;omega);have dN:=E.l.size;clear o cV Q T P O u;go_wp2_with (at_builtin;refine QY _ rfl _ _ 34 rfl V.heap.size underlying34 HJ.l rfl ω _ j _ rfl ((NC I.l.own E.l).alloc _) ⟨G.heap.size,0,none⟩ 1 1 [.slice H c.length X] rfl rfl (World.news_of_block (AU G _)) (by intro u hu;simp at hu;subst hu;rfl) τ (G.heap.size+1) σ ?_;intro g9 cS w9 P O Q cZ;have T:=Z P;have o:=Z O;have cO:=Z Q;clear P O Q)
   rw[U.l]at T N R o;have O:=E.l.j ((LO G (.cells #[.slice H (x.P.getD j []).length X] 31)).z dN);obtain⟨Q,P⟩:=I.l.push J O (N.l.alloc' _) R.l T.l o.l (cO.l.imp_right (λe=>by rw[e];simp));exact⟨⟨j+1,Q,_,ω,ν,P,UC (cP.l.j (O.z J)) ((NC I.l.own E.l).alloc _) o.l τ⟩,by simp[intOf];omega⟩
  obtain rfl:j=x.P.length:=ω
  obtain⟨o,pc,rfl⟩:=ij z.own;have U:=d.m.q.1.1.2.lt;obtain⟨u,p⟩:∃y,Hid (y=λb=>if V.heap.size<=b then (if b<wr.heap.size then oj b else 4) else if blk f x.ss.length=some b then 1 else if blk m x.ws.length=some b then 2 else if blk l x.rs.length=some b then 3 else 0):=⟨_,Z rfl⟩;have T:w.heap.size+1<V.heap.size:=a.m.q.1.1.2.lt
  have hF:∀b,b<=w.heap.size+1->u b=0:=λb c=>by rw[p.l];simp only[];rw[AG ω,AG (λe=>by have:=gA b e;omega),AG (λe=>by have:=gB b e;omega),AG (λe=>by have:=L b e;omega)]
  have E:XJ wr u o x.P:=z.pso (λb M y=>by rw[p.l];simp only[];rw[AE M,AE y]);have y:DepF wr (λb=>b≠w.heap.size) (λW=>WoG (x.ss.map Value.string) (NP x.ws) (MC x.rs) x.P.length (λi=>x.P.getD i []) [] W ⟨f,n,m,s,l,t,o,pc,none,0⟩ u):=WoG.depF ⟨TW d.m.q.1.2.1 VE (lo:=0) (λ_ _=>AM _) (λg k=>?_),TW d.m.q.1.2.2 ac (lo:=0) (λ_ _=>AM _) (λg k=>?_),TW d.m.q.2 SM (lo:=0) (λ_ _=>AM _) (λg k=>?_),E,.inl rfl⟩ (hF _ ω)
  rotate_left
  ·rw[p.l];simp only[];rw[AG (by have:=uA g k;omega),AE k]
  ·rw[p.l];simp only[];rw[AG (by have:=uB g k;omega),AG (λe=>by rcases dL with h|h|h;rw[h]at e;cases e;rw[h]at k;cases k;exact h (e.j k.symm)),AE k]
  ·rw[p.l];simp only[];rw[AG (by have:=uC g k;omega),AG (λe=>by have:=uA g e;have:=L g k;omega),AG (λe=>by have:=uB g e;have:=L g k;omega),AE k]
  replace d:=(d.add y).add (sq z.own (λb k e=>by have:=(z.own.lt b k).1;omega));clear a y E B;have a:=d.set 14 σ (.slice o x.P.length pc);have R:=a.m.q.1.1.1.1.2.lt;have I:=Z (fh (P:=prog) a.m.q.1.1.1.1.1.h5 _ _ underlying23 q.ct);have B:=d.r.y 14;have N:=d.r.y 15;have E:=d.r.A 14;have G:=d.r.A 15;have i:=d.r.lt;have M:=Z a;have K:(wr.setCell ⟨w.heap.size,14,none⟩ (.slice o x.P.length pc)).heap.size=wr.heap.size:=BH _ _ _;clear d a;go_upto_region 11 with (at_builtin;refine xc rfl _ _ 23 rfl 9 i0 _ 1 16 underlying23 D.l.1 D.l.2.1 D.l.2.2.1 D.l.2.2.2 none rfl (.inl rfl) _ rfl x.ts.length _ I.l ω ω ?_;intro d k P Q y O;have a:=M.l.I O;have H:=Z y;have N:=a.r.y 15;have G:=a.r.A 15;have i:=a.r.lt;clear y O)
  clear B E N G i I;replace a:=a.set 15 σ (.slice d x.ts.length k);have E:Hid (x.ts.length=0\/(d=Mw wr.heap.size 0/\Row (P.setCell ⟨w.heap.size,15,none⟩ (.slice d x.ts.length k)) wr.heap.size (x.ts.map Value.string))):=Z (H.l.imp_right (λ⟨e,r⟩=>⟨by rw[e,K],by rw[<-K];exact r.other _ (by show w.heap.size≠_;rw[K];omega) _⟩));generalize i:World.setCell P _ _=I at a E⊢;clear i H M;have M:RE x I ⟨f,n,m,s,l,t,o,pc,d,k⟩ u:=⟨a.m.q.1.2.h1,a.m.q.1.2.h2,a.m.q.1.2.h3,a.m.q.1.2.h4,?_⟩
  rotate_left
  ·rcases E.l with h|⟨rfl,r⟩
   ·exact .inl (by rw[AC h];rfl)
   exact .inr ⟨_,rfl,r,by rw[p.l];simp only[];rw[AE J,AG ω]⟩
  refine BE ?_;refine AS rfl 36 _ rfl w.heap.size 0 rfl _ _ a.r.range underlying36 rfl MO ?_;simp only[PS];refine BI rfl 36 _ _ rfl (w.heap.size+1) 0 #[.int .i64 x.w,.slice f x.ss.length n,.slice m x.ws.length s,M0 x.up,.int .i64 x.W,.int .i64 x.S,.int .i64 x.L,.int .i64 x.T,.int .i64 x.H,.int .i64 x.F,.int .i64 x.R,.int .i64 x.U,.int .i64 x.O,.slice l x.rs.length t,.slice o x.P.length pc,.slice d x.ts.length k] rfl rfl (a.m.q.1.1.1.1.2.there rfl) MO κ ?_
  try simp only[PS]
  have i:=LG I (w.heap.size+1) 0 [.int .i64 x.w,.slice f x.ss.length n,.slice m x.ws.length s,M0 x.up,.int .i64 x.W,.int .i64 x.S,.int .i64 x.L,.int .i64 x.T,.int .i64 x.H,.int .i64 x.F,.int .i64 x.R,.int .i64 x.U,.int .i64 x.O,.slice l x.rs.length t,.slice o x.P.length pc,.slice d x.ts.length k];have N:=a.m.q.1.1.1.1.2.sets [.int .i64 x.w,.slice f x.ss.length n,.slice m x.ws.length s,M0 x.up,.int .i64 x.W,.int .i64 x.S,.int .i64 x.L,.int .i64 x.T,.int .i64 x.H,.int .i64 x.F,.int .i64 x.R,.int .i64 x.U,.int .i64 x.O,.slice l x.rs.length t,.slice o x.P.length pc,.slice d x.ts.length k] rfl;have G:=M.J i (hF _ ω);have H:=a.m.q.2.kept i (.inr (λe=>by have:=(a.m.q.2.lt _ e).1;omega));have y:Below w.heap.size w (I.setCells (w.heap.size+1) 0 [.int .i64 x.w,.slice f x.ss.length n,.slice m x.ws.length s,M0 x.up,.int .i64 x.W,.int .i64 x.S,.int .i64 x.L,.int .i64 x.T,.int .i64 x.H,.int .i64 x.F,.int .i64 x.R,.int .i64 x.U,.int .i64 x.O,.slice l x.rs.length t,.slice o x.P.length pc,.slice d x.ts.length k]):=⟨i.os.j a.e.os,i.tape.j a.e.tape,i.output.j a.e.output,AK a.e.size i.size,λb c=>(i.block b (by have:=a.e.size;omega) (λe=>by injection e;omega)).j (a.e.block b c (λe=>by injection e;omega))⟩
  generalize World.setCells _ _ _ _=O at N G H y⊢;have B:=Z (AH G (AH H y));clear a M G H y i E
  try go_wp2
  exact LV 2 36 results26 _ rfl [.int .i64 x.w,.slice f x.ss.length n,.slice m x.ws.length s,M0 x.up,.int .i64 x.W,.int .i64 x.S,.int .i64 x.L,.int .i64 x.T,.int .i64 x.H,.int .i64 x.F,.int .i64 x.R,.int .i64 x.U,.int .i64 x.O,.slice l x.rs.length t,.slice o x.P.length pc,.slice d x.ts.length k] _ N underlying36 rfl MO rfl ⟨⟨f,n,m,s,l,t,o,pc,d,k⟩,u,C,rfl,B.l.1,cU,B.l.2.1.z ω,λb c=>hF b ω,B.l.2.2⟩
theorem Ab:(prog.info? 79).map (·.size)=some 6:=κ
def yq:Wo:=⟨0,[],[],false,0,0,0,0,0,0,0,0,0,[],[],[]⟩
def Wo.doR(x:Wo)(e:Ev):Wo:=if NI x=true then x.doE e else yq
theorem Jc{v y f:Nb}{c:Nat}{l:Int}{o e:Nat->Nat}{x:Wo}{q:Wp}(a:Below v.heap.size v y)(H:HpPost y f c l o x q e):HpPost v f c l o x q e :=⟨H.r,H.h,λb h=>H.ag b (AD h a.size),H.os.j a.os,H.tape.j a.tape,H.output.j a.output,AK a.size H.size,λb d g i=>(H.block b (AD d a.size) g i).j (a.block b d),H.cap⟩
theorem dk{x:Wo}(h:NI x=true):x.ok/\LE x.ss x.ws=true/\0<x.P.length:=by
 unfold NI at h;simp only[AX]at h;obtain⟨_,d,a,b,c⟩:=h;unfold QR at b;unfold RV at c;simp only[AX,AT,EH]at b c;refine⟨⟨.inl d,?_,⟨b.1.2,b.2⟩,c.1,λs e=>by have:=c.2 s e;omega⟩,d,ω⟩;unfold QU at a
 by_cases e:x.up=true
 ·rw[AE e]at a
  unfold OB at a;simp only[AX]at a;exact a.1.1.2
 rw[AG e]at a
 have:=AV (by unfold QZ at a;exact a);rw[AC this.2.2.2.2.2.2];exact UG
def pi(w a:Nb)(r:Ending)(y:Wo):Prop:=∃q o,r=M3 (MB y q)/\RE y a q o/\(∀b,o b≠0->w.heap.size<=b/\b<a.heap.size)/\Below w.heap.size w a
def DoK(w a:Nb)(r:Ending)(y:Wo):Prop:=∃q o,r=M3 (MB y q)/\RE y a q o/\(∀b,o b≠0->w.heap.size<=b/\b<a.heap.size)/\Below w.heap.size w a/\y.rs.length<=q.cs
theorem DoK.i{w a:Nb}{r:Ending}{y:Wo}(h:DoK w a r y):pi w a r y:=by
 obtain⟨q,o,b,c,d,e,_⟩:=h;exact⟨q,o,b,c,d,e⟩
theorem Cn(x:Wo)(q:Wp)(e:Ev)(a:M6)(c:Nat)(f:M6)(d:Nat)(w:Nb)(h:x.at w q)(hc:x.rs.length<=q.cs)(F:x.le 1048576)(bH:Chs w a e.b)(hi:Ints w f e.fs)(he:e.le)(ty:TypeId)(gv:Nc)(bJ:w.cell? ⟨1,0,none⟩=some (.iface ty gv))(bI:w.cell? ⟨0,0,none⟩=some (.iface 200 (.agg #[Mv 3 91])))(b7:1<w.heap.size):Calls prog 7 #[MB x q,OD e a c f d] w λr i=>DoK w i r (x.doR e):=by
 have m:=Z (λi k=>xy x q i k hc F);have p:=Z (λi k (k2:LE x.ss x.ws=true) k3=>Hw x q i k k2 k3);unfold MB at m p⊢;unfold OD;have HH:=Z h;have C:=Z bH;have E:=Z hi;have V:=Z he;have v:=Z (AH bJ bI);clear h bH hi he bJ bI hc F;obtain⟨u,n⟩:∃y,Hid (y=x.doR e):=⟨_,Z rfl⟩;rw[<-n.l];go_enter func7,ntmps7;go_upto_region 1 with fail;generalize b:w.alloc _=v1;obtain⟨t,j,b0⟩:=LY b;clear b;generalize g:v1.alloc _=v2;obtain⟨b,H,A⟩:=LY g;clear g;generalize l:v2.alloc _=v3;obtain⟨g,z2,B⟩:=LY l;clear l;rw[j]at A H;rw[H]at B z2;have o:=t.j ((b.j (g.z b.size)).z t.size);have l:=((b0.I b).I g).q;have z:=(A.I g).q;have s:=B.q;clear t b g b0 A B j H;refine BE ?_;refine AS rfl 36 _ rfl w.heap.size 0 rfl _ _ l.range underlying36 rfl MO ?_;simp only[PS];go_wp2_with fail
 refine(m.l _ (HH.l.I o)).z ?_;rintro r U ⟨rfl,j⟩;replace o:=o.j (j.z o.size);replace l:=l.I j;replace z:=z.I j;replace s:=s.I j;clear j m;obtain⟨ok,j⟩:∃y,Hid (y=NI x):=⟨_,Z rfl⟩;rw[<-j.l]
 cases ok with
 | false =>
  have g:u=yq:=by rw[n.l];unfold Wo.doR;rw[<-j.l,AG σ]
  have N:=Z g;clear g p n;go_upto_region 2 with fail;refine BE ?_;refine LU rfl (.agg #[.int .i64 0,.slice none 0 0,.slice none 0 0,M0 false,.int .i64 0,.int .i64 0,.int .i64 0,.int .i64 0,.int .i64 0,.int .i64 0,.int .i64 0,.int .i64 0,.int .i64 0,.slice none 0 0,.slice none 0 0,.slice none 0 0]) γ ?_;simp only[PS];refine BI rfl 36 _ _ rfl (w.heap.size+1+1) 0 #[.int .i64 0,.slice none 0 0,.slice none 0 0,M0 false,.int .i64 0,.int .i64 0,.int .i64 0,.int .i64 0,.int .i64 0,.int .i64 0,.int .i64 0,.int .i64 0,.int .i64 0,.slice none 0 0,.slice none 0 0,.slice none 0 0] rfl rfl (s.there rfl) MO κ ?_
  try simp only[PS]
  have m:=LG U (w.heap.size+1+1) 0 [.int .i64 0,.slice none 0 0,.slice none 0 0,M0 false,.int .i64 0,.int .i64 0,.int .i64 0,.int .i64 0,.int .i64 0,.int .i64 0,.int .i64 0,.int .i64 0,.int .i64 0,.slice none 0 0,.slice none 0 0,.slice none 0 0];have L:=s.sets [.int .i64 0,.slice none 0 0,.slice none 0 0,M0 false,.int .i64 0,.int .i64 0,.int .i64 0,.int .i64 0,.int .i64 0,.int .i64 0,.int .i64 0,.int .i64 0,.int .i64 0,.slice none 0 0,.slice none 0 0,.slice none 0 0] rfl;have H:=o.j (NR m o.size (λx e=>by have e:=CE e;omega));generalize World.setCells _ _ _ _=O at L H m⊢;clear m l z s o
  try go_wp2
  exact LV 4 36 results7 _ rfl [.int .i64 0,.slice none 0 0,.slice none 0 0,M0 false,.int .i64 0,.int .i64 0,.int .i64 0,.int .i64 0,.int .i64 0,.int .i64 0,.int .i64 0,.int .i64 0,.int .i64 0,.slice none 0 0,.slice none 0 0,.slice none 0 0] _ L underlying36 rfl MO rfl ⟨⟨none,0,none,0,none,0,none,0,none,0⟩,λ_=>0,by rw[N.l];rfl,by rw[N.l];exact⟨.inl rfl,.inl rfl,.inl rfl,.inl rfl,.inl rfl⟩,λb k=>absurd rfl k,H,by rw[N.l];exact AA _⟩
 | true =>
  obtain⟨R,bZ,cA⟩:=dk j.l.symm;have g:u=x.doE e:=by rw[n.l];unfold Wo.doR;rw[<-j.l,AE rfl]
  have N:=Z g;clear g n j;go_upto_region 3 with fail;refine BE ?_;refine AS rfl 36 _ rfl w.heap.size 0 rfl _ _ l.range underlying36 rfl MO ?_;simp only[PS];go_wp2_with fail;refine(p.l _ (HH.l.I o) bZ R).z ?_;rintro r v5 ⟨G,o5,news,rfl,O,X,K,z5,j⟩;have l5:=j.size;have lR:=s.lt;replace o:=o.j (j.z o.size);replace l:=l.I j;replace z:=z.I j;replace s:=s.I j;clear j p;unfold MB;go_upto_region 4 with fail;generalize g:v5.alloc _=B;obtain⟨j,I,S⟩:=LY g;have Q:=Z I;clear g I
  iterate 6(generalize Value.agg _=A9)
  refine BE ?_;refine LU rfl (.agg #[.nilFunc,.func (.func 27) #[] #[],.func (.func 28) #[] #[],.func (.func 29) #[] #[],.func (.func 30) #[] #[],.func (.func 31) #[] #[]]) γ ?_;simp only[PS];refine OM rfl (Mv B.heap.size 0) (B.alloc (.cells #[.nilFunc,.nilFunc,.nilFunc,.nilFunc,.nilFunc,.nilFunc] 79)) γ ?_;simp only[PS];refine BI rfl 79 _ _ rfl B.heap.size 0 #[.nilFunc,.func (.func 27) #[] #[],.func (.func 28) #[] #[],.func (.func 29) #[] #[],.func (.func 30) #[] #[],.func (.func 31) #[] #[]] rfl rfl ((MT B #[.nilFunc,.nilFunc,.nilFunc,.nilFunc,.nilFunc,.nilFunc] 79).there rfl) Ab κ ?_
  try simp only[PS]
  have L:=(MT B #[.nilFunc,.nilFunc,.nilFunc,.nilFunc,.nilFunc,.nilFunc] 79).sets [.nilFunc,.func (.func 27) #[] #[],.func (.func 28) #[] #[],.func (.func 29) #[] #[],.func (.func 30) #[] #[],.func (.func 31) #[] #[]] rfl;have m:Below B.heap.size B ((B.alloc (.cells #[.nilFunc,.nilFunc,.nilFunc,.nilFunc,.nilFunc,.nilFunc] 79)).setCells B.heap.size 0 [.nilFunc,.func (.func 27) #[] #[],.func (.func 28) #[] #[],.func (.func 29) #[] #[],.func (.func 30) #[] #[],.func (.func 31) #[] #[]]):=(LO B _).j (NR (LG _ _ _ _) σ (λg e=>by cases e;exact AA _));generalize World.setCells _ _ _ _=A at L m⊢;obtain⟨n,J⟩:∃y,y=v5.heap.size:=⟨_,rfl⟩;obtain⟨D,H⟩:∃y,y=B.heap.size:=⟨_,rfl⟩;have cB:=Q.l;obtain⟨t,p⟩:∃y,Hid (y=λb=>if b<v5.heap.size then o5 b else 0):=⟨_,Z rfl⟩;have l4:w.heap.size+1+1<U.heap.size:=lR
  have I:∀b,b<U.heap.size->t b=0:=λb j=>by rw[p.l];simp only[];rw[AE ω];exact z5 b j
  have M:t n=0:=by rw[p.l];simp only[];rw[AG ω]
  have dW:=((((O.lab (o':=t) (λb j=>by rw[p.l];exact AE j)).depF M).and (sq K (λb k e=>by have:=(K.lt b k).2;omega))).I j).I m;have P:DepF w (λb=>b<w.heap.size) (λW=>Ints W f e.fs/\Chs W a e.b/\W.cell? ⟨1,0,none⟩=some (.iface ty gv)/\W.cell? ⟨0,0,none⟩=some (.iface 200 (.agg #[Mv 3 91]))):=RG ⟨E.l,C.l,v.l⟩ (λi j=>⟨E.l.I j,C.l.I j,(j.cell (p:=⟨1,0,none⟩) b7).j v.l.1,(j.cell (p:=⟨0,0,none⟩) (by show 0<_;omega)).j v.l.2⟩);replace o:=o.j ((j.j (m.z j.size)).z o.size);replace P:=(P.step (o.z (AM _)) (λb k _=>o.block b k)).z (G:=λb=>b≠n/\t b=0) (λb _ k=>⟨ω,I b ω⟩);have zK:t D=0:=by rw[p.l];simp only[];rw[AG ω]
  have T:=(S.I m).q;rw[<-J]at T;replace z:=(z.I j).I m;replace s:=(s.I j).I m;rw[<-H]at L;have cF:n<A.heap.size:=T.lt;have nS:w.heap.size+1+1<n/\n<D/\U.heap.size<=n:=ω
  rw[<-J,<-H];clear m j S O K z5 p E C v l cB Q J H l5 z2
  have CH:Hid (1<=e.K->e.K<=5->∃y,([.nilFunc,.func (.func 27) #[] #[],.func (.func 28) #[] #[],.func (.func 29) #[] #[],.func (.func 30) #[] #[],.func (.func 31) #[] #[]]:List Nc)[e.K.toNat]?=some (.func (.func y) #[] #[])/\(∀j v,Sem.run prog (callFunc y j) v=.ok (.enter y j) v)/\∀i,Row i n (ST 1 x G)->A.grownBy i (some n)->Calls prog y #[Mv n 0,OD e a c f d] i (λr J=>r=M3 (.tuple #[])/\∃m l,HpPost i J n 1 t u m l)):=Z (λK Q=>by
   rw[N.l];have p:e.K=1\/e.K=2\/e.K=3\/e.K=4\/e.K=5:=ω
   have S:=λi (E:A.grownBy i (some n))=>dW.J E (λg e k=>by cases e;exact k rfl)
   have kI:=λi (E:A.grownBy i (some n))=>P.J E (λg e k=>by cases e;exact k.1 rfl)
   have kJ:=λi E=>((kI i E).z (G:=λb=>b≠n) (λb _ k=>k.1)).map (λW k=>k.1)
   rcases p with p|p|p|p|p
   ·refine⟨27,by rw[p];rfl,λj v=>κ,λi C E=>?_⟩
    refine(Bo x G e a c f d n 1 t i C (S i E).q.1 M X (kJ i E) R V.l p ty gv (kI i E).q.2.2.1 (kI i E).q.2.2.2 (by have:=E.size;omega)).z (λr J k=>⟨k.1,fi k.2⟩)
   ·refine⟨28,by rw[p];rfl,λj v=>κ,λi C E=>?_⟩
    exact Ai x G e a c f d n 1 t i C (S i E).q.1 M X U.heap.size news (S i E).q.2 cA (by have:=E.size;omega) ((kI i E).map (λW k=>k.1)) (kI i E).q.2.1 R V.l p
   ·refine⟨29,by rw[p];rfl,λj v=>κ,λi C E=>?_⟩
    refine(yQ x G e a c f d n 1 t i C (S i E).q.1 M X (kJ i E) R V.l p).z (λr J k=>⟨k.1,fi k.2⟩)
   ·refine⟨30,by rw[p];rfl,λj v=>κ,λi C E=>?_⟩
    refine(Dz x G e a c f d n 1 t i C (S i E).q.1 M X (kJ i E) R V.l p).z (λr J k=>⟨k.1,fi k.2⟩)
   ·refine⟨31,by rw[p];rfl,λj v=>κ,λi C E=>?_⟩
    refine(Kk x G e a c f d n 1 t i C (S i E).q.1 M (kJ i E) R V.l p).z (λr J k=>⟨k.1,fi k.2⟩))
  have kN:Hid (¬(1<=e.K/\e.K<=5)->u=x):=Z (λg=>by rw[N.l];exact YR (D:=LX 0) (u:=false) ω (by unfold Wo.call;rw[AG ω,AG ω,AG ω,AG ω]) (.inl rfl));go_upto_region 5 with fail;go_cut [23] from 16 to 22 (λj g=>j=M0 (decide (1<=e.K/\e.K<=5))/\g=A)
  case first =>
   have j:=z.y 0;have v:=z.lt;clear CH dW P
   by_cases K:1<=e.K
   ·by_cases Q:e.K<=5
    ·go_wp2_with fail
     go_meet;exact⟨by rw[AL ⟨K,Q⟩],rfl⟩
    go_wp2_with fail
    go_meet;exact⟨by rw[AI (λk=>ω)],rfl⟩
   go_wp2_with fail
   go_meet;exact⟨by rw[AI (λk=>ω)],rfl⟩
  case rest =>
  obtain⟨rfl,j⟩:=hcut;rw[j];clear j;go_upto_if 23 with fail;go_cut [] from 23 to 30 (λg=>∃m l,HpPost A g n 0 t u m l)
  case first =>
   by_cases hk:1<=e.K/\e.K<=5
   ·rw[AL hk]
    obtain⟨K,Q⟩:=hk;obtain⟨y,g,l,j⟩:=CH.l K Q;obtain⟨m,F⟩:∃m:Nat,e.K=(m:Int):=⟨e.K.toNat,ω⟩;have cC:m<6:=ω
    rw[F,BM]at g;have cK:=L.cell m _ g;have HM:=Z F;have bT:=Z l;have bR:=Z j;clear g F l j;go_upto_region 6 with fail;refine AN (S:=λi=>Row i (w.heap.size+1) [.int .i64 e.K,.slice a e.b.length c,.int .i64 e.cut,.slice f e.fs.length d]/\i.cell? ⟨D,m,none⟩=some (.func (.func y) #[] #[])) κ (⟨z.I (AB _ _).drew,OK (AB A.heap.size A).drew cK (by show D<_;exact L.lt)⟩) (λO=>?_);refine TY 0 (Mv n 0) rfl O (TK 1 (Mv (w.heap.size+1) 0) rfl (BO ⟨ρ,λw g=>by obtain⟨j,H⟩:=g;have l:=j.lt;go_simp⟩) O (TK 2 (.int .i64 e.K) rfl (BO ⟨ρ,λw g=>by obtain⟨j,H⟩:=g;have c0:=j.y 0;go_simp⟩) O (TK 3 (Mv D m) rfl (BO ⟨ρ,λw g=>by obtain⟨j,H⟩:=g;have F:=HM.l;have l:=DM _ _ H;have hq:¬(6:Int)<=(m:Int):=ω;rw[F];go_simp⟩) O (TY 4 (.func (.func y) #[] #[]) rfl O (TK 5 (.agg #[.int .i64 e.K,.slice a e.b.length c,.int .i64 e.cut,.slice f e.fs.length d]) rfl (BO ⟨ρ,λw g=>by obtain⟨j,H⟩:=g;exact LJ 45 _ rfl _ 0 rfl _ _ j.range underlying45 rfl ZQ⟩) O ?_)))))
    simp only[PS];refine RD 6 rfl (λKq bY=>?_);have i:Below A.heap.size A A.drew:=(AB _ _).drew;have aZ:=T.I i;have W:=z.I i;have aV:=OK i cK (by show D<_;exact L.lt);generalize A.drew=y9 at i aZ W aV⊢;have lh:=i.size;have CO:=Fv y x u G e a c f d n t y9 aZ M bT.l (λJ k2 k3=>bR.l J k2 ⟨k3.os.j i.os,k3.tape.j i.tape,k3.output.j i.output,AK i.size k3.size,λb K Q=>(k3.block b (AD K i.size) Q).j (i.block b K)⟩);unfold OD at CO;refine LW ρ 32 #[Mv n 0,.func (.func y) #[] #[],.agg #[.int .i64 e.K,.slice a e.b.length c,.int .i64 e.cut,.slice f e.fs.length d]] γ CO ?_;rintro r v8 ⟨rfl,v,J,g⟩;refine⟨_,rfl,?_⟩;have bQ:=MG W (g.block _ W.lt ω (I _ ω)) (AD W.lt g.size);have bC:=(DH (a:=⟨D,m,none⟩) (g.block D (AD L.lt lh) ω zK)).j aV
    refine bY.l _ _ (⟨bQ,bC⟩) (λbW=>?_)
    try simp only[PS]
    refine DN ?_;have bV:=Z g;have HD:=Z i;clear g i CO aZ W aV bQ bC;go_wp2_with fail;go_meet;exact⟨v,J,Jc HD.l bV.l⟩
   rw[AI hk]
   have g:=kN.l hk;have i:=Z (AH T dW.q.1);clear T dW P CH hk;go_wp2_with fail;go_meet;rw[g];exact⟨G,t,i.l.1,i.l.2,λ_ _=>rfl,rfl,rfl,rfl,AA _,λ_ _ _ _=>rfl,X⟩
  case rest =>
  obtain⟨v,J,g⟩:=hcut;have lv:=g.size;have cE:=s.lt;have aY:=MG s (g.block _ s.lt ω (I _ l4)) (AD s.lt g.size);have W:Below w.heap.size w wc:=⟨g.os.j o.os,g.tape.j o.tape,g.output.j o.output,AK o.size g.size,λb j=>(g.block b (by have:=o.size;omega) ω (I b ω)).j (o.block b j)⟩
  have zR:∀b,b<U.heap.size->J b=0:=λb j=>(g.ag b ω).j (I b j)
  clear dW P T z s L CH kN o;go_upto_region 7 with fail;refine BE ?_;refine LU rfl (Mv n 0) γ ?_;simp only[PS];refine LU rfl (Mv n 0) γ ?_;simp only[PS];refine MS rfl _ _ _ rfl (Mv n 2) (by have l:=g.r.lt;go_simp) ?_;simp only[PS];refine AS rfl 36 _ rfl n 2 rfl (wL u v) _ (Row.rangeMid (pre:=[.int .i32 0,.int .u32 0]) (cs:=(wL u v)) (post:=[]) g.r) underlying36 rfl MO ?_;simp only[PS];refine BI rfl 36 _ _ rfl (w.heap.size+1+1) 0 (wA u v) rfl rfl (aY.there rfl) MO κ ?_
  try simp only[PS]
  have m:=LG wc (w.heap.size+1+1) 0 (wL u v);have L:=aY.sets (wL u v) rfl;have i:=g.h.J m (zR _ l4);have H:=W.j (NR m W.size (λx e=>by have e:=CE e;omega));generalize World.setCells _ _ _ _=O at L i H m⊢;have o:=Z i;have s:=Z g.cap;clear i m g W aY
  try go_wp2
  refine LV 4 36 results7 _ rfl (wL u v) _ L underlying36 rfl MO rfl ⟨v,λb=>if w.heap.size<=b/\b<O.heap.size then J b else 0,rfl,o.l.lab (λb j=>?_),λb k=>?_,H,s.l⟩
  ·show(if w.heap.size<=b/\b<O.heap.size then J b else 0)=J b
   by_cases h:w.heap.size<=b
   ·rw[AE ⟨h,j⟩]
   rw[AG (λk=>h k.1),zR b ω]
  by_cases h:w.heap.size<=b/\b<O.heap.size
  ·exact h
  exact absurd (AG h) k
theorem ke{W S L T H F R U O:Int}{a:List Pr}(b:1<=W/\W<=8)(c:8<=S/\S<=200)(d:1<=L/\L<=60000)(e:0<=T/\T<=1000000000)(f:0<=R/\R<=60000)(g:0<=H/\H<=1)(h:1<=F/\F<=999999000)(i:0<=U/\U<=hv S)(j:0<=O/\O<=U)(k:MU a=true)(l:MJ (MD a) W<=hv S-1):OB W S L T H F R U O a=true:=by
 unfold OB SW;simp only[AX,AT];exact⟨⟨⟨⟨⟨⟨⟨b,c⟩,d⟩,⟨⟨e,f⟩,g⟩,h⟩,i⟩,j⟩,k⟩,l⟩
theorem vK{W S L T H F R U O:Int}{a:List Pr}(h:OB W S L T H F R U O a=true):(0<=R/\R<=60000)/\MJ (MD a) W<=hv S-1:=by
 unfold OB SW at h;simp only[AX,AT]at h;exact⟨h.1.1.1.1.2.1.1.2,h.2⟩
def ch(n N:Int)(D:Dd):Prop:=OB D.W D.S D.L D.T D.H D.F D.R D.U D.O D.rs=true/\D.W=n/\D.S=N/\∀s∈ND D.ops,s.size=64
theorem zx{k l m:Int}{p:Y}{n:Int}(h:NQ k l m p n=true):(MM k l m p n).size=64:=by
 unfold MM;rw[AE h];have a:=AV (by unfold NQ at h;exact h);exact ZN _ _ _ _ _ ω
theorem tN{l m n:Int}(a:1<=l/\l<=60000)(b:1<=m/\m<=1000000000)(c:1<=n/\n<=8):(MM 3 l m empty n).size=64:=zx (by unfold NQ;exact AL τ)
theorem lU{s:Y}{l f:Int}{n m:Nat}(d:1<=n/\n<=8)(c:n+m=56):∀p∈PG s l f n m,p.size=64:=by
 intro p a
 by_cases h:1<=l/\l<=60000/\1<=f/\f+(OG s.size m:Int)<=1000000001
 ·rw[XZ rfl h]at a
  unfold QH at a;obtain⟨k,b,rfl⟩:=DS.1 a;exact xi d c h (GP.1 b)
 rw[ZB rfl h]at a;cases a
theorem Mt{L F:Int}{n m:Nat}(g:1<=n/\n<=8)(f:n+m=56)(e:1<=L/\L<=60000)(hF:1<=F/\F<=1000000000):∀(k:Nat) (c:List (List Ch)),c.length=k->∀p∈NM L F n m c,p.size=64:=by
 intro k
 induction k with
 | zero =>
  intro c d p a;rw[AC d,ZX]at a;rw[BL.1 a];exact tN e hF ω
 | succ k i =>
  intro c d p a
  obtain⟨l,b,rfl⟩:∃l b,c=l++[b]:=by
   rcases ET c with h|⟨l,b,h⟩
   ·rw[h]at d;cases d
   exact⟨l,b,by simpa using h⟩
  rw[ex]at a;rcases BJ.1 a with a|a
  ·exact i l (by simpa using d) p a
  exact lU g f p a
theorem oE(a:Int)(l:List Y):ND (MP a l)=l:=by
 unfold ND MP;rw[List.mapIdx_eq_zipIdx_map,List.filterMap_map]
 have:((λo:OpT=>if o.1=true then none else some o.2.2) ∘ λx:Y×Nat=>(false,a+(x.2:Int),x.1))=λx:Y×Nat=>some x.1:=by funext x;simp
 rw[this,List.filterMap_eq_map',List.zipIdx_map_fst]
theorem Gr(a b:List OpT):ND (a++b)=ND a++ND b:=List.filterMap_append
theorem vT{W S L T H F:Int}{b:List Pr}(h:XI W S L T H F b)(a:MU b=true)(d:(PM W S L T H F b).C=0):ch W S (PM W S L T H F b):=by
 obtain⟨i,f,g,k,l,m,j⟩:=h;unfold PM at d⊢
 split at d
 ·rename_i c
  rw[AE c];have c:=AV (by unfold WG at c;exact c);have o:=QM f;obtain⟨n,rfl⟩:∃n:Nat,W=(n:Int):=⟨W.toNat,ω⟩;have p:=da L (F+hv S) n (56-n) ω ω ω (MD b);refine⟨ke (S:=S) i f g (T:=T+1) (R:=L) (H:=1-H) (F:=F+hv S) (U:=((NM L (F+hv S) n (56-n) (MD b)).length:Int)) (O:=0) ω ω ω ω ω ω a j,rfl,rfl,?_⟩
  intro s a
  simp only[XD,BM,Gr,oE]at a;rcases BJ.1 a with a|a
  ·exact Mt ω ω g ω _ _ rfl s a
  have e:ND [(true,0,empty),(false,(T+1) % 2,MZ (T+1) (1-H) (F+hv S) L (n:Int)),(true,0,empty)]=[MZ (T+1) (1-H) (F+hv S) L (n:Int)]:=by simp[ND]
  rw[e,BL]at a;rw[a];unfold MZ;rw[AE (by unfold UL;omega)];refine zx ?_;unfold NQ;refine AL ?_;have q:(SU (1-H) (F+hv S)).size=5:=by unfold SU;simp[CJ,PV]
  omega
 exact absurd d (by simp[LX])
theorem Ca:∀s∈ND [((true,0,empty):OpT)],s.size=64:=by intro s h;simp[ND]at h
theorem m7{x:Wo}{e:Ev}(A:NI x=true)(b:(x.call e).2=true)(a:(x.call e).1.C=0):ch x.w x.ss.length (x.call e).1:=by
 unfold NI at A;simp only[AX,AT]at A;obtain⟨n,D,d,Q,R⟩:=A;unfold QU at d;unfold Wo.call at b a⊢
 by_cases j:e.K=1
 ·rw[AE j]at b a⊢
  replace a:(OP x.ss x.ws x.w).C=0:=a;show ch x.w x.ss.length (OP x.ss x.ws x.w);have p:LE x.ss x.ws=true/\1<=x.w/\x.w<=8:=⟨D,n⟩;obtain⟨S,T,U,V⟩:=mh p;have f:=br p;obtain⟨⟨L,M,N⟩,_⟩:=LK D;have z:(8:Int)<=(x.ss.length:Int)/\(x.ss.length:Int)<=200:=ω
  have O:=QM z;unfold OP at a⊢;rw[AE p]at a⊢
  split at a
  ·exact absurd a (by simp[LX])
  rename_i K l
  have l:=dx _ _ UG _ l
  by_cases j:60000<(PB x.ss x.ws x.w).2.2+1
  ·rw[AE j]at a;exact absurd a (by simp[LX])
  rw[AG j]at a⊢
  by_cases k:hv x.ss.length-1<MJ (MD K) x.w
  ·rw[AE k]at a;exact absurd a (by simp[LX])
  rw[AG k]at a⊢
  by_cases k3:hv x.ss.length<=(PB x.ss x.ws x.w).2.1
  ·rw[AE k3]at a⊢
   exact vT ⟨n,z,ω,f.1,f.2.1,f.2.2.1,ω⟩ l a
  rw[AG k3]
  refine⟨ke n z (by simp only;omega) f.1 f.2.2.2 f.2.1 f.2.2.1 (by simp only;omega) (by simp only;omega) l (by simp only;omega),rfl,rfl,?_⟩;intro s d;have e:ND [(false,2+(NJ x.ss x.ws x.w).2.1*hv x.ss.length+(PB x.ss x.ws x.w).2.1,MM 3 ((PB x.ss x.ws x.w).2.2+1) ((NJ x.ss x.ws x.w).2.2.1+(PB x.ss x.ws x.w).2.1) empty x.w),(true,0,empty)]=[MM 3 ((PB x.ss x.ws x.w).2.2+1) ((NJ x.ss x.ws x.w).2.2.1+(PB x.ss x.ws x.w).2.1) empty x.w]:=by simp[ND]
  simp only[e]at d;rw[BL.1 d];have:=f.2.2.1;exact tN ω ω n
 rw[AG j]at b a⊢
 have q:x.up=true->OB x.W x.S x.L x.T x.H x.F x.R x.U x.O x.rs=true/\x.W=x.w/\x.S=(x.ss.length:Int):=by
  intro J;rw[AE J,AX,AT]at d;exact d
 by_cases k:e.K=2
 ·rw[AE k]at b a⊢
  replace a:(QE x.W x.S x.L x.T x.H x.F x.R x.U x.O x.rs e.b).C=0:=a;show ch x.w x.ss.length (QE x.W x.S x.L x.T x.H x.F x.R x.U x.O x.rs e.b);obtain⟨c,h,g⟩:=q b;obtain⟨i,r,t,u,v,w,C,H,m⟩:=UD c;obtain⟨y,_⟩:=vK c;unfold QE at a⊢
  split at a
  ·rename_i F
   rw[AE F]
   split at a
   ·rename_i o
    rw[AE o]
    split at a
    ·rename_i B
     rw[AE B]
     split at a
     ·rename_i G
      rw[AE G];have P:=jh (LT e.b).size x.W i.1 i.2;refine⟨ke i r t u y v w (by simp only;omega) (by simp only;omega) (by unfold PQ;rw[AE o];exact ZW o) B,h,g,?_⟩;intro s d;simp only[oE]at d;exact lU ω ω s d
     exact absurd a (by simp[LX])
    exact absurd a (by simp[LX])
   exact absurd a (by simp[LX])
  exact absurd a (by simp[LX])
 rw[AG k]at b a⊢
 by_cases k3:e.K=3
 ·rw[AE k3]at b a⊢
  replace a:(RQ x.W x.S x.L x.T x.H x.F x.R x.U x.O x.rs).C=0:=a;show ch x.w x.ss.length (RQ x.W x.S x.L x.T x.H x.F x.R x.U x.O x.rs);obtain⟨c,h,g⟩:=q b;obtain⟨i,r,t,u,v,w,C,H,m⟩:=UD c;obtain⟨y,I⟩:=vK c;unfold RQ;rw[AE c];exact⟨ke (O:=0) (U:=x.U) i r t u y v w C ω m I,h,g,Ca⟩
 rw[AG k3]at b a⊢
 by_cases E:e.K=4
 ·rw[AE E]at b a⊢
  replace a:(QX x.W x.S x.L x.T x.H x.F x.R x.U x.O x.rs).C=0:=a;show ch x.w x.ss.length (QX x.W x.S x.L x.T x.H x.F x.R x.U x.O x.rs);obtain⟨c,h,g⟩:=q b;have m:=(UD c).2.2.2.2.2.2.2.2;unfold QX at a⊢;rw[AE c]at a⊢;have:=vT (mq c) m a;rw[<-h,<-g];exact this
 rw[AG E]at b
 exact absurd b σ
theorem qS{x:Wo}(e:1<=x.w/\x.w<=8)(b:LE x.ss x.ws=true)(c:QR x.P=true)(d:RV x.ts=true)(a:List Int):NI (x.pow a)=true:=by
 unfold NI;simp only[AX,AT];refine⟨e,(gk b a).1,?_,c,d⟩;unfold QU QZ;simp[Wo.pow]
theorem I8{x:Wo}{e:Ev}(d:NI x=true)(j:(x.call e).2=true)(k:(x.call e).1.C=0)(p:¬(2000<(PW x e (x.call e).1).length\/200<(NW x e (x.call e).1).length)):LE (x.ran e (x.call e).1).ss (x.ran e (x.call e).1).ws=true/\(x.ran e (x.call e).1).ss.length=x.ss.length/\QR (x.ran e (x.call e).1).P=true/\RV (x.ran e (x.call e).1).ts=true:=by
 obtain⟨m,q,t,i⟩:=m7 d j k;unfold NI at d;simp only[AX,AT]at d;obtain⟨u,l,b,c,f⟩:=d;obtain⟨g,h⟩:=tH l (x.call e).1.ops (evN e (x.call e).1);refine⟨g,h,?_,?_⟩
 ·unfold QR at c⊢
  simp only[AX,AT,EH]at c⊢;show(1<=(NW x e (x.call e).1).length/\(NW x e (x.call e).1).length<=200)/\∀r∈NW x e (x.call e).1,MU r=true;refine⟨⟨?_,ω⟩,?_⟩
  ·unfold NW;split
   ·rw[AF];omega
   omega
  intro r a
  unfold NW at a
  split at a
  ·rcases BJ.1 a with a|a
   ·exact c.2 r a
   rw[BL.1 a];exact(UD m).2.2.2.2.2.2.2.2
  exact c.2 r a
 unfold RV at f⊢
 simp only[AX,AT,EH]at f⊢;show(PW x e (x.call e).1).length<=2000/\∀s∈PW x e (x.call e).1,s.size=64;refine⟨ω,λs b=>?_⟩;unfold PW at b;rcases BJ.1 b with b|b
 ·exact f.2 s b
 refine i s ?_
 unfold ND at b⊢;obtain⟨o,n,a⟩:=List.mem_filterMap.1 b;exact List.mem_filterMap.2 ⟨o,DE n,a⟩
theorem nI{x:Wo}(c:NI x=true)(e:Ev):NI (x.doE e)=true:=by
 have a:=c;unfold NI at c;simp only[AX,AT]at c;obtain⟨b,q,w,r,s⟩:=c;unfold Wo.doE
 split
 ·exact qS b q r s _
 split
 ·exact a
 rename_i m
 have j:(x.call e).2=true:=by cases h:(x.call e).2 with
  | true=>rfl
  | false=>exact absurd (.inl h) m
 have l:(x.call e).1.C=0:=Decidable.not_not.1 (λk=>m (.inr k))
 split
 ·exact a
 rename_i t;obtain⟨d,u,n,f⟩:=I8 a j l t;obtain⟨i,o,p,v⟩:=m7 a j l
 split
 ·exact qS (x:=x.ran e (x.call e).1) b d n f _
 have g:∀P,QU { (x.ran e (x.call e).1).upS (x.call e).1 with P:=P }=true:=by
  intro P;show(if true=true then OB (x.call e).1.W (x.call e).1.S (x.call e).1.L (x.call e).1.T (x.call e).1.H (x.call e).1.F (x.call e).1.R (x.call e).1.U (x.call e).1.O (x.call e).1.rs && decide ((x.call e).1.W=x.w/\(x.call e).1.S=((x.ran e (x.call e).1).ss.length:Int)) else _)=true;rw[AE rfl,AX,AT,u];exact⟨i,o,p⟩
 split
 ·unfold NI
  simp only[AX,AT];exact⟨b,d,g _,n,f⟩
 unfold NI
 simp only[AX,AT];refine⟨b,d,g _,?_,f⟩;unfold QR;simp[(UD i).2.2.2.2.2.2.2.2]
end
section
open Tryz
open Go.RowKit nw
@[reducible] def OS(x:Wo)(q:Wp):List Nc:=[.int .i64 x.w,.slice q.a x.ss.length q.c,.slice q.a' x.ws.length q.c',M0 x.up,.int .i64 x.W,.int .i64 x.S,.int .i64 x.L,.int .i64 x.T,.int .i64 x.H,.int .i64 x.F,.int .i64 x.R,.int .i64 x.U,.int .i64 x.O,.slice q.s x.rs.length q.cs,.slice q.p x.P.length q.cp,.slice q.t x.ts.length q.ct]
structure CwW(w0 w:Nb)(B:Nat)(x:Wo)(q:Wp):Prop where
 r:Row w B (OS x q)
 m:DepF w (λb=>w0.heap.size<=b/\b≠B) (λW=>x.at W q)
 lo:w0.heap.size<=B
 cap:x.rs.length<=q.cs
 bl:Below w0.heap.size w0 w
section
variable {w0 w w1 w2:Nb} {B:Nat} {x y:Wo} {q q':Wp} {ops:Array Oper} {rest:List Oper} {o:Oper} {A:Act} {Q:Exit->Act->Nb->Prop}
theorem CwW.I(h:CwW w0 w B x q)(a:Below w.heap.size w w1):CwW w0 w1 B x q :=⟨h.r.I a,h.m.I a,h.lo,h.cap,h.bl.j (a.z h.bl.size)⟩
theorem CwW.put(h:CwW w0 w B x q)(f:Below w.heap.size w w1)(d:DepF w1 (λb=>w.heap.size<=b/\b<w1.heap.size) (λW=>y.at W q'))(i:y.rs.length<=q'.cs):CwW w0 (w1.setCells B 0 (OS y q')) B y q':=by
 have a:=h.I f;have j:=h.r.lt;have c:=LG w1 B 0 (OS y q');have:=h.bl.size;refine⟨a.r.sets (OS y q') rfl,(d.J c (λg e k=>by cases e;omega)).z (λb l k=>⟨ω,ω⟩),h.lo,i,a.bl.j (NR c a.bl.size (λg e=>by cases e;exact h.lo))⟩
theorem sQ{d c:Nat}{e:Nat->Nat}(h:RE x w q e)(j:∀b,e b≠0->d<=b/\b<c):DepF w (λb=>d<=b/\b<c) (λW=>x.at W q) :=⟨h.at,λl a f=>(h.only (K:=λk=>k=0) ⟨a.os,a.tape,a.output,a.size,λb g i=>f b (j b i) g⟩ (λ_ k=>k)).at⟩
theorem VR(v:Nc)(k:wpList prog ops Q rest (A.put o.dst v) w)(a:o.guard=none:=by rfl)(b:(execOp A.eval o).run prog w=.ok (.value v) w:=by go_simp):wpList prog ops Q (o::rest) A w:=LU a v b k
structure CwG(w:Nb):Prop where
 np:∃ty gv,w.cell? ⟨1,0,none⟩=some (.iface ty gv)
 et:w.cell? ⟨0,0,none⟩=some (.iface 200 (.agg #[Mv 3 91]))
 ln:1<w.heap.size
 le:0<w.heap.size
theorem CwG.I(h:CwG w)(a:Below w.heap.size w w1):CwG w1:=by
 obtain⟨d,b,c⟩:=h.np;exact⟨⟨d,b,(DH (a:=⟨1,0,none⟩) (a.block _ h.ln)).j c⟩,(DH (a:=⟨0,0,none⟩) (a.block _ h.le)).j h.et,AD h.ln a.size,AD h.le a.size⟩
theorem ks(k:wpList prog ops Q rest (A.put o.dst (Mv w.heap.size 0)) (w.alloc (.cells #[.int .i64 0,.slice none 0 0,.slice none 0 0,M0 false,.int .i64 0,.int .i64 0,.int .i64 0,.int .i64 0,.int .i64 0,.int .i64 0,.int .i64 0,.int .i64 0,.int .i64 0,.slice none 0 0,.slice none 0 0,.slice none 0 0] 36)))(a:o.guard=none:=by rfl)(b:(execOp A.eval o).run prog w=.ok (.value (Mv w.heap.size 0)) (w.alloc (.cells #[.int .i64 0,.slice none 0 0,.slice none 0 0,M0 false,.int .i64 0,.int .i64 0,.int .i64 0,.int .i64 0,.int .i64 0,.int .i64 0,.int .i64 0,.int .i64 0,.int .i64 0,.slice none 0 0,.slice none 0 0,.slice none 0 0] 36)):=by go_simp):wpList prog ops Q (o::rest) A w:=OM a _ _ b k
theorem Fj(a:Below w0.heap.size w0 w)(j:DepF w (λb=>w0.heap.size<=b/\b<w.heap.size) (λW=>x.at W q))(m:x.rs.length<=q.cs)(e:w.alloc (.cells #[.int .i64 0,.slice none 0 0,.slice none 0 0,M0 false,.int .i64 0,.int .i64 0,.int .i64 0,.int .i64 0,.int .i64 0,.int .i64 0,.int .i64 0,.int .i64 0,.int .i64 0,.slice none 0 0,.slice none 0 0,.slice none 0 0] 36)=w1):Row w1 w.heap.size [.int .i64 0,.slice none 0 0,.slice none 0 0,M0 false,.int .i64 0,.int .i64 0,.int .i64 0,.int .i64 0,.int .i64 0,.int .i64 0,.int .i64 0,.int .i64 0,.int .i64 0,.slice none 0 0,.slice none 0 0,.slice none 0 0]/\CwW w0 (w1.setCells w.heap.size 0 (OS x q)) w.heap.size x q:=by
 obtain⟨c,n,i⟩:=LY e;have h:=i.q;have f:=LG w1 w.heap.size 0 (OS x q);have d:=a.j (c.z a.size);exact⟨h,h.sets (OS x q) rfl,((j.I c).J f (λg e k=>by cases e;omega)).z (λb l k=>⟨k.1,ω⟩),a.size,m,d.j (NR f d.size (λg e=>by cases e;exact a.size))⟩
theorem vf(h:Row w B [.int .i64 0,.slice none 0 0,.slice none 0 0,M0 false,.int .i64 0,.int .i64 0,.int .i64 0,.int .i64 0,.int .i64 0,.int .i64 0,.int .i64 0,.int .i64 0,.int .i64 0,.slice none 0 0,.slice none 0 0,.slice none 0 0])(k:wpList prog ops Q rest (A.put o.dst undef) (w.setCells B 0 (OS y q'))){z u:Operand}(a:o.guard=none:=by rfl)(b:o.op=.store 36 z u:=by rfl)(c:A.eval z=Mv B 0:=by rfl)(d:A.eval u=MB y q':=by rfl):wpList prog ops Q (o::rest) A w :=BI a 36 z u b B 0 (OS y q').toArray c d (h.there rfl) MO κ k
end
end
section
open Tryz
open Go.RowKit
section
theorem nJ:(prog.info? 45).map (λi=>(i.zero,i.size,i.bytes))=some (some (.agg #[.int .i64 0,.slice none 0 0,.int .i64 0,.slice none 0 0]),4,64):=κ
theorem tT:(prog.info? 45).map (·.size)=some 4:=κ
section
variable {w:Nb} {ops:Array Oper} {rest:List Oper} {o:Oper} {A:Act} {Q:Exit->Act->Nb->Prop}
theorem C6(k:wpList prog ops Q rest (A.put o.dst (Mv w.heap.size 0)) (w.alloc (.cells #[.int .i64 0,.slice none 0 0,.int .i64 0,.slice none 0 0] 45)))(a:o.guard=none:=by rfl)(b:(execOp A.eval o).run prog w=.ok (.value (Mv w.heap.size 0)) (w.alloc (.cells #[.int .i64 0,.slice none 0 0,.int .i64 0,.slice none 0 0] 45)):=by go_simp):wpList prog ops Q (o::rest) A w:=OM a _ _ b k
theorem pB(a:List Nc)(m:Nat)(k:wpList prog ops Q rest (A.put o.dst (.slice (Mw w.heap.size 0) m m)) (w.alloc (.cells a.toArray 45)))(b:o.guard=none:=by rfl)(c:(execOp A.eval o).run prog w=.ok (.value (.slice (Mw w.heap.size 0) m m)) (w.alloc (.cells a.toArray 45)):=by go_simp):wpList prog ops Q (o::rest) A w:=OM b _ _ c k
end
structure EvY where
 e:Ev
 ba:M6
 bc:Nat
 fa:M6
 fc:Nat
def EvY.cs(y:EvY):List Nc:=[.int .i64 y.e.K,.slice y.ba y.e.b.length y.bc,.int .i64 y.e.cut,.slice y.fa y.e.fs.length y.fc]
def EvY.v(y:EvY):Nc:=OD y.e y.ba y.bc y.fa y.fc
def SG(a:List EvY):List Nc:=a.flatMap EvY.cs
theorem Gq(a b:List EvY):SG (a++b)=SG a++SG b:=by unfold SG;rw[List.flatMap_append]
theorem yw(y:EvY):∀u∈y.cs,u.oneCell'=true:=by intro u a;unfold EvY.cs at a;simp at a;rcases a with rfl|rfl|rfl|rfl<;>rfl
structure EvO(base:Nat)(w:Nb)(g cap:Nat)(ys:List EvY):Prop where
 own:w.ownsRow base 45 4 (.slice (Mw g 0) ys.length cap) ys.length (SG ys)
 dp:∀y∈ys,y.e.le/\DepF w (λb=>base<=b/\b≠g) (λW=>Chs W y.ba y.e.b/\Ints W y.fa y.e.fs)
section
variable {base base' R:Nat} {w w':Nb} {g cap:Nat} {ys zs:List EvY}
theorem EvO.I(h:EvO base w g cap ys)(a:Below w.heap.size w w'):EvO base w' g cap ys:=⟨NC h.own a,λy b=>⟨(h.dp y b).1,(h.dp y b).2.I a⟩⟩
theorem EvO.pick(h:EvO base w g cap ys)(a:w.grownBy w' (some R))(d:R<base):EvO base w' g cap ys:=by
 have c:=h.own.lt g rfl;exact⟨h.own.kept a (.inr (λe=>by have e:=Option.some.inj e;(try dsimp only at e);omega)),λy b=>⟨(h.dp y b).1,(h.dp y b).2.J a (λk e z=>by cases e;omega)⟩⟩
theorem EvO.push(h:EvO base w g cap ys){a c:Nat}(j:∀y∈zs,y.e.le/\DepF w (λb=>base<=b/\b≠g) (λW=>Chs W y.ba y.e.b/\Ints W y.fa y.e.fs))(d:w'.ownsRow base 45 4 (.slice (Mw a 0) (ys.length+zs.length) c) (ys.length+zs.length) (SG ys++SG zs))(f:w.grownBy w' (some g))(m:g=a\/a=w.heap.size):EvO base w' a c (ys++zs):=by
 refine⟨by rw[Gq,AF];exact d,λy i=>?_⟩
 have k:y.e.le/\DepF w (λb=>base<=b/\b≠g) (λW=>Chs W y.ba y.e.b/\Ints W y.fa y.e.fs):=by
  rcases BJ.1 i with z|z
  ·exact h.dp y z
  exact j y z
 exact⟨k.1,((k.2.z (G:=λb=>base<=b/\b≠g/\b≠a) (λb l z=>⟨z.1,z.2,ω⟩)).J f (λx e z=>by cases e;exact z.2.1 rfl)).z (λb _ z=>⟨z.1,z.2.2⟩)⟩
theorem EvO.low(h:EvO base w g cap ys)(c:base'<=base):EvO base' w g cap ys:=⟨h.own.z c,λy a=>⟨(h.dp y a).1,(h.dp y a).2.z (λb _ z=>⟨ω,z.2⟩)⟩⟩
end
structure DeD(V wx:Nb)(R:Nat)(a:M6)(n c:Nat)(p:Int)(g cap:Nat)(ys:List EvY):Prop where
 rd:Rdr wx R a n c p
 gr:V.grownBy wx (some R)
 lR:R<V.heap.size
 ga:∀g o,a=Mw g o->0<n->g<V.heap.size
 ev:EvO V.heap.size wx g cap ys
section
variable {V wx wy:Nb} {R:Nat} {a:M6} {n c:Nat} {p p':Int} {g cap:Nat} {ys zs:List EvY}
theorem DeD.I(h:DeD V wx R a n c p g cap ys)(b:Below wx.heap.size wx wy):DeD V wy R a n c p g cap ys :=⟨h.rd.I b,QG h.gr (UA _ b),h.lR,h.ga,h.ev.I b⟩
theorem DeD.pick(h:DeD V wx R a n c p g cap ys)(d:Rdr wy R a n c p')(b:wx.grownBy wy (some R)):DeD V wy R a n c p' g cap ys :=⟨d,QG h.gr b,h.lR,h.ga,h.ev.pick b h.lR⟩
theorem DeD.push(h:DeD V wx R a n c p g cap ys){d f:Nat}(q:∀y∈zs,y.e.le/\DepF wx (λb=>V.heap.size<=b/\b≠g) (λW=>Chs W y.ba y.e.b/\Ints W y.fa y.e.fs))(l:wy.ownsRow V.heap.size 45 4 (.slice (Mw d 0) (ys.length+zs.length) f) (ys.length+zs.length) (SG ys++SG zs))(j:wx.grownBy wy (some g))(m:g=d\/d=wx.heap.size):DeD V wy R a n c p d f (ys++zs):=by
 have r:=h.ev.own.lt g rfl;have b:Below V.heap.size wx wy:=NR j h.gr.size (λx e=>by have e:=CE e;omega);exact⟨h.rd.keep (N:=V.heap.size) h.lR h.ga b,⟨b.os.j h.gr.os,b.tape.j h.gr.tape,b.output.j h.gr.output,AK h.gr.size b.size,λi k o=>(b.block i k).j (h.gr.block i k o)⟩,h.lR,h.ga,h.ev.push q l j m⟩
end
def wV(V:Nb)(R:Nat)(a:M6)(n c m:Nat)(f h i:Nc)(wr:Nb):Prop:=∃(k:Nat) (d:Int) (g b:Nat) (e:List EvY) (u:Bool),f=.int .i64 (k:Int)/\h=.slice (Mw g 0) e.length b/\i=M0 u/\k<=m/\e.length=k/\(1<=d/\d<=1+700*k)/\DeD V wr R a n c d g b e
def Aj(w c:Nb)(r:Ending):Prop:=∃(b:List EvY) (g a:Nat),r=M3 (.slice (Mw g 0) b.length a)/\b.length<=35/\EvO w.heap.size c g a b/\Below w.heap.size w c
theorem Gp(a:M6)(n c:Nat)(w:Nb)(h:Bys w a n)(hn:n<=1048576)(J:n<=c):Calls prog 6 #[.slice a n c] w λr b=>Aj w b r:=by
 obtain⟨i0,b,d,l,e⟩:=nr nJ;have HI:=Z (AH b (AH d (AH l e)));clear b d l e;go_enter func6,ntmps6;go_wp2_with fail;refine(sE a n c w h hn J).z ?_;rintro e V ⟨rfl,⟨m,x,f⟩,d⟩;obtain⟨R,b⟩:∃R,R=w.heap.size:=⟨_,rfl⟩;have E:=Z d;rw[<-b]at f⊢;have eR:=Z b;clear d h b;go_upto_region 3 with fail;have i:(V.alloc (.cells #[] 45)).ownsRow V.heap.size 45 4 (.slice (Mw V.heap.size 0) 0 0) 0 []:=DT _ #[] 0 ω σ σ;have g:=RZ V (.cells #[] 45)
 have b:DeD V (V.alloc (.cells #[] 45)) R a m x 0 V.heap.size 0 []:=⟨f.I g,UA _ g,f.lts.1,f.lts.2,⟨i,λy d=>by cases d⟩⟩
 clear i g f;generalize i:V.alloc _=y1 at b⊢;obtain⟨g0,f⟩:∃g,g=V.heap.size:=⟨_,rfl⟩;rw[<-f]at b⊢;clear i f;go_wp2_with fail;refine(PZ R a m x 0 30 _ b.rd ω).z ?_;rintro e y2 ⟨⟨t,rfl,j,k⟩,i,f⟩;have l:=b.pick i f;clear b i f;obtain⟨M,b⟩:∃M:Nat,6+t=(M:Int):=⟨(6+t).toNat,ω⟩;have hw:IntKind.i64.wrap (6+t)=(M:Int):=by rw[QQ _ ω ω,b]
 have bJ:M<=35:=ω
 clear b j k;go_wp2_with fail;go_loopw [7,4,6,8] (λb f i _ wr=>wV V R a m x M b f i wr) (λb _ _ _ _=>M-(intOf b).toNat)
 case atStart=>exact⟨0,0+1,g0,0,[],false,rfl,rfl,rfl,AM _,rfl,ω,l⟩
 case round =>
  obtain⟨k,pp,g,p,o,u,rfl,rfl,rfl,hk,d,hp,j⟩:=hrel;clear l
  by_cases bT:k<M
  ·have bG:(k:Int)<(M:Int):=ω
   go_wp2_with fail;refine(oy R a m x pp u _ j.rd ω).z ?_;rintro r D ⟨⟨e,Q,S,U,X,rfl,K,q,s⟩,⟨C,bU,bV,i⟩,f⟩;have lg:=(j.ev.own.lt g rfl);have A:=(NE (F:=λb=>V.heap.size<=b/\b≠g) q (λb l _=>⟨by have:=j.gr.size;omega,ω⟩)).and (NE (F:=λb=>V.heap.size<=b/\b≠g) s (λb l _=>⟨by have:=j.gr.size;omega,ω⟩));have z:=j.pick i f;clear j i f q s;unfold OD
   try simp only[PS]
   refine‹∀(a:Act) (w:Nb),wpList _ _ _ _ a w->_› _ _ ?_
   refine C6 ?_;generalize f:D.alloc _=y4;obtain⟨F,z4,i⟩:=LY f;have v:=i.q;obtain⟨B,I⟩:∃B,B=D.heap.size:=⟨_,rfl⟩;rw[<-I]at v⊢;clear f i;obtain⟨y,s⟩:∃y:EvY,y=⟨e,Q,S,U,X⟩:=⟨_,rfl⟩;have i:OD e Q S U X=.agg y.cs.toArray:=by rw[s];rfl
   unfold OD at i
   try simp only[PS]
   refine BI rfl 45 _ _ rfl B 0 y.cs.toArray rfl i (v.there rfl) tT κ ?_;rw[i];have q:=v.sets y.cs rfl;have H:=LG y4 B 0 y.cs;generalize N:y4.setCells _ _ _=f at q H⊢;have G:Below D.heap.size D f:=F.j (NR H F.size (λg e=>by cases e;omega));have l:y.e.le/\DepF f (λb=>V.heap.size<=b/\b≠g) (λW=>Chs W y.ba y.e.b/\Ints W y.fa y.e.fs):=by rw[s];exact⟨K,A.I G⟩
   have L:=z.I G;have gB:g≠B:=by have:=z.ev.own.lt g rfl;omega
   have bH:y.e.K=e.K/\y.e.cut=e.cut:=by rw[s];exact⟨rfl,rfl⟩
   have lB:=q.lt;clear N H G F z A v I i s K;have F:=Z l;have i:=Z L;clear l
   try simp only[PS]
   go_upto_region 9 with fail;refine BE ?_;refine VR (.slice (Mw g 0) k p) ?_;simp only[PS];refine AS rfl 45 _ rfl B 0 rfl y.cs _ q.range underlying45 rfl tT ?_;simp only[PS];refine pB y.cs 1 ?_ rfl (by unfold EvY.cs;go_simp);simp only[PS];have v:=RZ f (.cells y.cs.toArray 45);have G:=i.l.I v;have K:(f.alloc (.cells y.cs.toArray 45)).heap.size=f.heap.size+1:=σ
   have s5:=i.l.gr.size;refine QY _ rfl _ _ 40 rfl V.heap.size underlying40 HI.l rfl ω _ o.length _ (by rw[d];rfl) G.ev.own ⟨f.heap.size,0,none⟩ 1 1 y.cs rfl rfl (World.news_of_block (AU f _)) (yw y) ω (f.heap.size+1) K ?_;intro l s y7 H I P W;have T:SG [y]=y.cs:=DZ _;rw[<-T]at H
   have O:g=l\/l=(f.alloc (.cells y.cs.toArray 45)).heap.size:=by
    rcases P with e|e
    ·exact .inl (CE e)
    exact .inr (by rw[K];exact e)
   have N:=G.push (zs:=[y]) (λz A=>by rw[BL.1 A];exact⟨F.l.1,F.l.2.I v⟩) H I O;have z:=(q.I v).J I (λe=>gB (CE e).symm);have b:(o++[y]).length=k+1:=by rw[AF,d];rfl
   clear G v H I P O W i F K L q T s5 lB;simp only[PS];have F:=z.y 0;have G:=z.y 2;have L:=z.lt;generalize y.e.K=v at F;generalize y.e.cut=q at G;clear z bH;have i:=Z N;clear N;have K:IntKind.i64.wrap ((k:Int)+1)=(k:Int)+1:=QQ _ ω ω;go_upto_region 10 with fail
   by_cases z:v=5
   ·subst z
    go_wp2;go_roundw
    case rel=>exact⟨k+1,C,l,s,o++[y],_,ν,by first|(rw[b];done)|rw[b,d],rfl,ω,b,ω,i.l⟩
    case measure=>simp[intOf];omega
   have H:(v == 5)=false:=by simpa using z
   by_cases J:q<0
   ·cases u with
    | true =>
     go_wp2;go_roundw
     case rel=>exact⟨k+1,C,l,s,o++[y],_,ν,by first|(rw[b];done)|rw[b,d],rfl,ω,b,ω,i.l⟩
     case measure=>simp[intOf];omega
    | false =>
     go_wp2;go_roundw
     case rel=>exact⟨k+1,C,l,s,o++[y],_,ν,by first|(rw[b];done)|rw[b,d],rfl,ω,b,ω,i.l⟩
     case measure=>simp[intOf];omega
   have I:decide (q<0)=false:=AI J
   go_wp2;go_roundw
   case rel=>exact⟨k+1,C,l,s,o++[y],_,ν,by first|(rw[b];done)|rw[b,d],rfl,ω,b,ω,i.l⟩
   case measure=>simp[intOf];omega
  have bG:¬(k:Int)<(M:Int):=ω
  go_wp2;go_ret;exact⟨o,g,p,by rw[d];rfl,ω,j.ev.low (by have:=E.l.size;omega),E.l.j (NR j.gr E.l.size (λg e=>by have:=eR.l;cases e;omega))⟩
end
section
section
variable {S S' E:Nat->Y} {frm:Nat} {F n:Int}
theorem Bm{k d:Int}(h:k≠1)(g:d≠1)(f i:Nat)(c:Int)(e:Y)(b:Scd):ML S frm F n f i k c e b=ML S frm F n f i d c e b:=by
 cases f with
 | zero=>rfl
 | succ f =>
  rw[ML,ML]
  have:∀a l,PD k c a l=PD d c a l:=λa l=>by unfold PD;simp[h,g]
  simp only[this]
theorem jo:∀(f i:Nat) (wk wl:Int) (op:Y) (out:Scd),out.2.1<=(i:Int)->ML S frm F n f i wk wl op out=out\/∃g,g<=f/\(ML S frm F n f i wk wl op out).2.1=((i+g:Nat):Int)/\ML S frm F n g i wk wl op out=ML S frm F n f i wk wl op out
 | 0,_,_,_,_,_,_=>.inl rfl
 | f+1,i,wk,wl,op,out,h=>by
  cases hr:MA (S (frm+i)) n with
  | none=>exact .inl (dy hr)
  | some x =>
   obtain⟨k,l,m,p⟩:=x
   by_cases hc:IntKind.i64.wrap (m-(i:Int))=F/\PD wk wl k l=true
   rotate_left
   ·exact .inl (ZT hr hc)
   by_cases hk:k=1
   ·subst hk
    rw[XL hr hc.1 hc.2];rcases jo f (i+1) 1 l (op++p) out ω with e|⟨g,h1,h2,h3⟩
    ·exact .inl e
    exact .inr ⟨g+1,ω,by rw[h2];congr 1;omega,by rw[XL hr hc.1 hc.2,h3]⟩
   rw[WC hr hc.1 hc.2 hk]
   right
   rcases jo f (i+1) k l empty (if k=2 then out.1++[op++p] else out.1,(i:Int)+1,l) (by show(i:Int)+1<=_;omega) with e|⟨g,h1,h2,h3⟩
   ·exact⟨1,ω,by rw[e];rfl,by rw[WC hr hc.1 hc.2 hk,e];rfl⟩
   exact⟨g+1,ω,by rw[h2];congr 1;omega,by rw[WC hr hc.1 hc.2 hk,h3]⟩
theorem Hg{q:Nat}{R L u:Int}{b:List Y}(h:ML S frm F n q 0 0 R empty ([],0,R)=(b,u,L)):∃U:Nat,u=(U:Int)/\U<=q/\Log S frm F n U R L b:=by
 rcases jo (S:=S) (frm:=frm) (F:=F) (n:=n) q 0 0 R empty ([],0,R) σ with e|⟨g,d,a,c⟩
 ·rw[h]at e
  simp only[BV]at e;obtain⟨rfl,rfl,rfl⟩:=e;exact⟨0,rfl,ω,rfl⟩
 rw[h]at a c
 simp only[BG]at a;subst a;exact⟨g,rfl,d,c⟩
theorem Cv:∀(f i:Nat) (c d:Int) (b:Y) (a:Scd),a.2.1<=(i:Int)->a.2.1<=(ML S frm F n f i c d b a).2.1:=λf i c d b a h=>by
 rcases jo (S:=S) (frm:=frm) (F:=F) (n:=n) f i c d b a h with e|⟨g,k,j,l⟩
 ·rw[e];exact Int.le_refl _
 rw[j];omega
theorem Eh{b a k l:Int}(h:PD b a k l=true):k≠4/\a<=l:=by
 unfold PD at h;rw[AX,AT]at h;refine⟨λe=>?_,h.1⟩;subst e;simp at h
theorem Iz{m:Int}{i:Nat}(b:1<=m/\m<=1000000000)(a:i<=1000)(h:IntKind.i64.wrap (m-(i:Int))=F):m=F+(i:Int):=by
 have:IntKind.i64.wrap (m-(i:Int))=m-(i:Int):=by
  have:=xd (m-(i:Int)) ω i 0;simpa using this
 omega
theorem tK{L:Int}{A V q:Nat}(hq:q<=1000)(hn:∀i,A<=i->i<q->∀k l m p,MA (S (frm+i)) n=some (k,l,m,p)->k≠4->m=F+(i:Int)->L<=l->i<V/\S (frm+i)=E (frm+i)):∀(f i:Nat) (wk wl:Int) (op:Y) (out:Scd),A<=i->i<=V->i+f=q->L<=wl->∃g,i+g<=V/\(∀j,i<=j->j<i+g->S (frm+j)=E (frm+j))/\ML S frm F n f i wk wl op out=ML E frm F n g i wk wl op out
 | 0,i,wk,wl,op,out,hA,hV,hf,hL=>⟨0,hV,λj _ _=>ω,rfl⟩
 | f+1,i,wk,wl,op,out,hA,hV,hf,hL=>by
  cases hr:MA (S (frm+i)) n with
  | none=>exact⟨0,hV,λj _ _=>ω,dy hr⟩
  | some x =>
   obtain⟨k,l,m,p⟩:=x
   by_cases hc:IntKind.i64.wrap (m-(i:Int))=F/\PD wk wl k l=true
   rotate_left
   ·exact⟨0,hV,λj _ _=>ω,ZT hr hc⟩
   obtain⟨g1,g2⟩:=Eh hc.2;have hs:=SA hr;obtain⟨e1,e2⟩:=hn i hA ω k l m p hr g1 (Iz ⟨hs.2.2.1,hs.2.2.2.1⟩ ω hc.1) ω;have hr':=hr;rw[e2]at hr'
   have key:∀aB op' aA,∃g,i+1+g<=V/\(∀j,i+1<=j->j<i+1+g->S (frm+j)=E (frm+j))/\ML S frm F n f (i+1) aB l op' aA=ML E frm F n g (i+1) aB l op' aA:=λaB op' aA=>tK hq hn f (i+1) aB l op' aA ω ω ω ω
   by_cases hk:k=1
   ·subst hk
    obtain⟨g,h1,h2,h3⟩:=key 1 (op++p) out;refine⟨g+1,ω,λj a b=>?_,by rw[XL hr hc.1 hc.2,XL hr' hc.1 hc.2,h3]⟩
    by_cases hj:j=i
    ·rw[hj];exact e2
    exact h2 j ω ω
   obtain⟨g,h1,h2,h3⟩:=key k empty (if k=2 then out.1++[op++p] else out.1,(i:Int)+1,l)
   refine⟨g+1,ω,λj a b=>?_,by rw[WC hr hc.1 hc.2 hk,WC hr' hc.1 hc.2 hk,h3]⟩
   by_cases hj:j=i
   ·rw[hj];exact e2
   exact h2 j ω ω
end
structure LgI(ts:List Y)(P:List (List Pr))(n q:Nat)(L H F R:Int)(A V:Nat)(E:Nat->Y):Prop where
 hA:A<=V
 hV:V<=q
 l0:∃es,Log E (bsN H q) F (n:Int) A R L es
 pk:∀j,A<=j->j<=V->∃es u rs,ML E (bsN H q) F (n:Int) j 0 0 R empty ([],0,R)=(es,u,L)/\NX es []=some rs/\rs∈P
 uq:∀s∈ts,∀k m p,MA s (n:Int)=some (k,L,m,p)->k≠4->∀i:Nat,A<=i->i<q->m=F+(i:Int)->i<V/\s=E (bsN H q+i)
def RX(a:List Y)(n q:Nat)(D:Nat->Y):Prop:=∀j,j<2+2*q->∀y,MA (D j) (n:Int)=some y->D j∈a
section
variable {ts ts':List Y} {P P':List (List Pr)} {n q:Nat} {L H F R:Int} {A V:Nat} {E D:Nat->Y}
theorem LgI.sub(h:LgI ts P n q L H F R A V E)(g:∀s∈ts',s∈ts)(e:∀r∈P,r∈P'):LgI ts' P' n q L H F R A V E :=⟨h.hA,h.hV,h.l0,λj a b=>by obtain⟨d,u,c,x,y,z⟩:=h.pk j a b;exact⟨d,u,c,x,y,e c z⟩,λs f=>h.uq s (g s f)⟩
theorem LgI.crash(h:LgI ts P n q L H F R A V E)(hq:q<=99)(x:∀i,i<A->D (bsN H q+i)=E (bsN H q+i))(Q:∀i,A<=i->i<q->∀k l m p,MA (D (bsN H q+i)) (n:Int)=some (k,l,m,p)->k≠4->m=F+(i:Int)->L<=l->D (bsN H q+i)∈ts/\l=L):∃(c:List Y) (U:Nat) (r:List Pr),A<=U/\ML D (bsN H q) F (n:Int) q 0 0 R empty ([],0,R)=(c,(U:Int),L)/\Log D (bsN H q) F (n:Int) U R L c/\NX c []=some r/\r∈P/\LgI ts P n q L H F R U V E/\∀i,i<U->D (bsN H q+i)=E (bsN H q+i):=by
 have N:=h.hA;have O:=h.hV;obtain⟨v,e⟩:=h.l0;have G:=e.congr (S':=D) (λj t=>(x j t).symm);obtain⟨T,B,r1⟩:=G.reach;obtain⟨W,C,y⟩:=e.reach
 obtain⟨g,J,K,M⟩:=tK (S:=D) (E:=E) (frm:=bsN H q) (F:=F) (n:=(n:Int)) (L:=L) (A:=A) (V:=V) (q:=q) ω (λi a b k l m p o d f e=>by
  obtain⟨t1,t2⟩:=Q i a b k l m p o d f e;subst t2
  exact h.uq _ t1 k m p o d i a b f) (q-A) A T L empty (v,(A:Int),L) (AA _) N ω (Int.le_refl _)
 have I:ML D (bsN H q) F (n:Int) q 0 0 R empty ([],0,R)=ML E (bsN H q) F (n:Int) (A+g) 0 0 R empty ([],0,R):=by
  have:=r1 (q-A);rw[show A+(q-A)=q by omega]at this;rw[this,M,y g];exact Bm B C _ _ _ _ _
 obtain⟨c,u,r,l,X,p3⟩:=h.pk (A+g) ω J;obtain⟨U,rfl,u1,u2⟩:=Hg l
 have z:A<=U:=by
  have:=Cv (S:=E) (frm:=bsN H q) (F:=F) (n:=(n:Int)) g A W L empty (v,(A:Int),L) (Int.le_refl _);rw[<-y g,l]at this;have:(A:Int)<=(U:Int):=this;omega
 have w:∀i,i<U->D (bsN H q+i)=E (bsN H q+i):=λi s=>by
  by_cases s:i<A
  ·exact x i s
  exact K i ω ω
 refine⟨c,U,r,z,by rw[I,l],u2.congr (λj t=>(w j t).symm),X,p3,⟨ω,O,⟨c,u2⟩,λj a b=>h.pk j ω b,λs S k m p o d i a b f=>h.uq s S k m p o d i ω b f⟩,w⟩
theorem LgI.mk1{U:Nat}{c:List Y}{d:List Pr}(h:U<=q)(e:Log E (bsN H q) F (n:Int) U R L c)(l:NX c []=some d)(r:d∈P)(o:∀s∈ts,∀k m p,MA s (n:Int)=some (k,L,m,p)->k≠4->m<F+(U:Int)):LgI ts P n q L H F R U U E :=⟨AA _,h,⟨c,e⟩,λj a b=>by rw[show j=U by omega];exact⟨c,_,d,e,l,r⟩,λs t k m p f g i a b u=>by have:=o s t k m p f g;omega⟩
end
end
section
theorem bm{s:Y}{a n:Int}{r:RtT}(h:MV s a n=some r):r.1 % 2=a/\1<=r.1/\∃l m p,MA s n=some (4,l,m,p):=by
 unfold MV at h
 cases hr:MA s n with
 | none=>rw[hr]at h;cases h
 | some x =>
  obtain⟨k,l,m,p⟩:=x;rw[hr]at h;simp only at h
  split at h
  rotate_left
  ·cases h
  rename_i b
  cases h
  have c:=SA hr;have d:=Fh (t:=m) (h:=RU p) (f:=RK p) (l:=l) (n:=n) (by rw[b.2.1,c.1];omega);have:=d.res;rw[b.2.1,hr]at this;simp only[BP,BV]at this;exact⟨b.2.2,c.2.2.1,l,m,p,by rw[this.1]⟩
theorem xq{s:Y}{n k l m:Int}{p:Y}(h:MA s n=some (k,l,m,p))(c:k≠4)(a:Int):MV s a n=none:=by
 cases hr:MV s a n with
 | none=>rfl
 | some r =>
  obtain⟨_,_,d,e,f,b⟩:=bm hr;rw[h]at b;simp only[BP,BV]at b;exact absurd b.1 c
def RoW(b:List Y)(n q:Nat)(T H F M:Int):Prop:=∀s∈b,∀a r,MV s a (n:Int)=some r->r.1<=T+1/\(r.1=T+1->r.2.1=1-H/\r.2.2.1=F+(q:Int)/\r.2.2.2<=M)
theorem wT{D D':Nat->Y}{n q:Nat}{T H F R M:Int}(h:OC (D 0) (D 1) (n:Int)=(T,H,F,R))(v:0<=T)(f:D' (T % 2).toNat=D (T % 2).toNat)(o:∀j a r,j<2->MV (D' j) a (n:Int)=some r->r.1<=T+1/\(r.1=T+1->r.2.1=1-H/\r.2.2.1=F+(q:Int)/\r.2.2.2<=M)):OC (D' 0) (D' 1) (n:Int)=(T,H,F,R)\/∃l,l<=M/\OC (D' 0) (D' 1) (n:Int)=(T+1,1-H,F+(q:Int),l):=by
 have t:=wO h
 have m:∀r:RtT,r.1=T+1->(r.1=T+1->r.2.1=1-H/\r.2.2.1=F+(q:Int)/\r.2.2.2<=M)->∃l,l<=M/\r=(T+1,1-H,F+(q:Int),l):=λr e k=>by
  obtain⟨a,b,c,d⟩:=r;obtain⟨g,i,k3⟩:=k e;simp only at e g i k3;exact⟨d,k3,by rw[e,g,i]⟩
 rcases VQ T with e|e
 ·rw[e]at f
  simp only[Int.toNat_zero]at f
  have d:QB (0,0,1,0) (MV (D 0) 0 (n:Int))=(T,H,F,R):=by
   unfold OC at h
   cases h1:MV (D 1) 1 (n:Int) with
   | none=>rw[h1]at h;exact h
   | some r =>
    rw[h1]at h;have b:=(bm h1).1;have h:(if (QB (0,0,1,0) (MV (D 0) 0 (n:Int))).1<r.1 then r else QB (0,0,1,0) (MV (D 0) 0 (n:Int)))=(T,H,F,R):=h
    split at h
    ·rw[h]at b
     simp only at b;omega
    exact h
  unfold OC;rw[f,d]
  cases h1:MV (D' 1) 1 (n:Int) with
  | none=>exact .inl rfl
  | some r =>
   obtain⟨s,k⟩:=o 1 1 r ω h1
   by_cases c:r.1=T+1
   ·right
    obtain⟨l,i,j⟩:=m r c k;exact⟨l,i,by rw[du (show(T,H,F,R).1<r.1 by show T<_;omega),j]⟩
   left
   have b:=(bm h1).1
   exact sn λy g=>by cases g;show r.1<=T;omega
 rw[e]at f
 have f:D' 1=D 1:=f
 have d:MV (D 1) 1 (n:Int)=some (T,H,F,R):=by
  unfold OC at h
  have c:(QB (0,0,1,0) (MV (D 0) 0 (n:Int))).1 % 2=0:=by
   cases h1:MV (D 0) 0 (n:Int) with
   | none=>rfl
   | some r =>
    have b:=(bm h1).1;unfold QB;simp only
    split
    ·exact b
    rfl
  cases h1:MV (D 1) 1 (n:Int) with
  | none =>
   rw[h1]at h;have h:QB (0,0,1,0) (MV (D 0) 0 (n:Int))=(T,H,F,R):=h;rw[h]at c;simp only at c;omega
  | some r =>
   rw[h1]at h;have h:(if (QB (0,0,1,0) (MV (D 0) 0 (n:Int))).1<r.1 then r else QB (0,0,1,0) (MV (D 0) 0 (n:Int)))=(T,H,F,R):=h
   split at h
   ·rw[h]
   rw[h]at c
   simp only at c;omega
 unfold OC;rw[f,d]
 cases h1:MV (D' 0) 0 (n:Int) with
 | none =>
  left
  exact du (show(0:Int)<T by omega)
 | some r =>
  obtain⟨s,k⟩:=o 0 0 r ω h1;have b:=(bm h1).1;have u:=(bm h1).2.1;have p:QB (0,0,1,0) (some r)=r:=du (show(0:Int)<r.1 by omega);rw[p]
  by_cases c:r.1=T+1
  ·right
   obtain⟨l,i,j⟩:=m r c k;exact⟨l,i,by rw[sn (λy g=>by cases g;show T<=r.1;omega),j]⟩
  left
  exact du (show r.1<T by omega)
structure TC(ts:List Y)(P:List (List Pr))(n q:Nat)(L T H F R:Int)(A V:Nat)(E:Nat->Y):Prop where
 hH:H=0\/H=1
 lg:LgI ts P n q L H F R A V E
 ro:RoW ts n q T H F L
 la:∀s∈ts,∀k l m p,MA s (n:Int)=some (k,l,m,p)->k≠4->l<=L
structure TD(ts:List Y)(P:List (List Pr))(n q:Nat)(L T H F R:Int)(U V:Nat)(E D:Nat->Y)(rs:List Pr):Prop where
 hH:H=0\/H=1
 rt:OC (D 0) (D 1) (n:Int)=(T,H,F,R)
 lg:LgI ts P n q L H F R U V E
 ag:∀i,i<U->D (bsN H q+i)=E (bsN H q+i)
 sc:∃es,ML D (bsN H q) F (n:Int) q 0 0 R empty ([],0,R)=(es,(U:Int),L)/\Log D (bsN H q) F (n:Int) U R L es/\NX es []=some rs
 rp:rs∈P
 ro:RoW ts n q T H F (L+1)
 la:∀s∈ts,∀k l m p,MA s (n:Int)=some (k,l,m,p)->k≠4->l<=L+1
 nx:∀s∈ts,∀k m p,MA s (n:Int)=some (k,L+1,m,p)->k≠4->F+(U:Int)<=m->(U<q/\m=F+(U:Int)/\s=MM 3 (L+1) (F+(U:Int)) empty (n:Int))\/(U=q/\m<F+(q:Int)+(1+MJ (MD rs) (n:Int)))
section
variable {ts ts':List Y} {P P':List (List Pr)} {n q:Nat} {L T H F R M:Int} {A U V:Nat} {E D D':Nat->Y} {rs:List Pr}
theorem RoW.z(h:RoW ts n q T H F M){b:Int}(i:M<=b):RoW ts n q T H F b:=λs f a r e=>by
 obtain⟨c,d⟩:=h s f a r e;exact⟨c,λe=>by obtain⟨a,f,g⟩:=d e;exact⟨a,f,ω⟩⟩
theorem RoW.next(h:RoW ts n q T H F M)(d c b:Int):RoW ts n q (T+1) c b d:=λs f a r e=>by
 obtain⟨g,i⟩:=h s f a r e;exact⟨ω,λe=>ω⟩
theorem TC.sub(h:TC ts P n q L T H F R A V E)(b:∀s∈ts',s∈ts)(c:∀r∈P,r∈P'):TC ts' P' n q L T H F R A V E :=⟨h.hH,h.lg.sub b c,λs a=>h.ro s (b s a),λs a=>h.la s (b s a)⟩
theorem TC.down(h:TC ts P n q L T H F R A V E)(w:q<=99)(rt:OC (D 0) (D 1) (n:Int)=(T,H,F,R))(e:∀i,i<A->D (bsN H q+i)=E (bsN H q+i))(x:RX ts n q D):∃U rs,A<=U/\TD ts P n q L T H F R U V E D rs:=by
 obtain⟨f,U,rs,g,j,o,r,t,u,v⟩:=h.lg.crash (D:=D) w e (λi a b k l m p c s z y=>by
  have d:=x _ (jd h.hH b).2 _ c;have:=h.la _ d k l m p c s
  exact⟨d,ω⟩)
 exact⟨U,rs,g,h.hH,rt,u,v,⟨f,j,o,r⟩,t,h.ro.z ω,λs c k l m p a b=>by have:=h.la s c k l m p a b;omega,λs c k m p a b _=>by have:=h.la s c k (L+1) m p a b;omega⟩
theorem uY{d:List Y}(t:q<=99)(o:H=0\/H=1)(r:U<=q)(rt:OC (D 0) (D 1) (n:Int)=(T,H,F,R))(j:Log D (bsN H q) F (n:Int) U R L d)(i:NX d []=some rs)(u:rs∈P)(x:RoW ts n q T H F L)(v:∀s∈ts,∀k l m p,MA s (n:Int)=some (k,l,m,p)->k≠4->l<=L)
  (w:∀s∈ts,∀k m p,MA s (n:Int)=some (k,L,m,p)->k≠4->m<F+(U:Int))(l:RX ts n q D):TC ts P n q L T H F R U U D/\TD ts P n q L T H F R U U D D rs:=by
 have h:TC ts P n q L T H F R U U D:=⟨o,LgI.mk1 r j i u w,x,v⟩;obtain⟨c,m,s,e⟩:=h.down t rt (λ_ _=>rfl) l;have:=e.lg.hA;obtain rfl:c=U:=ω
 obtain⟨f,p,k,g⟩:=e.sc
 have:f=d:=by
  have a:ML D (bsN H q) F (n:Int) c 0 0 R empty ([],0,R)=(f,(c:Int),L):=k;have b:ML D (bsN H q) F (n:Int) c 0 0 R empty ([],0,R)=(d,(c:Int),L):=j;rw[a]at b;exact(IR b).1
 subst this;rw[i]at g
 cases g
 exact⟨h,e⟩
theorem TD.life(h:TD ts P n q L T H F R U V E D rs)(O:q<=99)(N:1<=n/\n<=8)(hL:0<=L/\L+1<=60000)(hF:1<=F/\F<=999999000)(I:U<q)(v:∀s∈ts',s∈ts\/s=MM 3 (L+1) (F+(U:Int)) empty (n:Int))(t:∀j,j≠bsN H q+U->D' j=D j)(Q:RX ts' n q D'):(D' (bsN H q+U)≠MM 3 (L+1) (F+(U:Int)) empty (n:Int)/\∃w o,TD ts' P n q L T H F R o V E D' w)\/TD ts' P n q (L+1) T H F R (U+1) (U+1) D' D' rs/\RoW ts' n q T H F (L+1)/\(∀s∈ts',∀k l m p,MA s (n:Int)=some (k,l,m,p)->k≠4->l<=L+1)/\(∀s∈ts',∀k m p,MA s (n:Int)=some (k,L+1,m,p)->k≠4->m<F+((U+1:Nat):Int)):=by
 have u:=kw n N (L+1) (F+(U:Int)) ω ω;have hb:=jd h.hH I
 have C:RoW ts' n q T H F (L+1):=λs d a r f=>by
  rcases v s d with k|k
  ·exact h.ro s k a r f
  rw[k,xq u δ]at f;cases f
 have r:∀s∈ts',∀k l m p,MA s (n:Int)=some (k,l,m,p)->k≠4->l<=L+1:=λs d k l m p a b=>by
  rcases v s d with x|x
  ·exact h.la s x k l m p a b
  rw[x,u]at a
  simp only[BP,BV]at a;omega
 have B:∀s∈ts',∀k m p,MA s (n:Int)=some (k,L+1,m,p)->k≠4->F+(U:Int)<=m->m=F+(U:Int)/\s=MM 3 (L+1) (F+(U:Int)) empty (n:Int):=λs d k m p a b c=>by
  rcases v s d with x|x
  ·rcases h.nx s x k m p a b c with y|y
   ·exact⟨y.2.1,y.2.2⟩
   omega
  rw[x,u]at a
  simp only[BP,BV]at a;exact⟨a.2.2.1.symm,x⟩
 have rt:OC (D' 0) (D' 1) (n:Int)=(T,H,F,R):=by rw[t 0 ω,t 1 ω];exact h.rt
 have lg:LgI ts' P n q L H F R U V E:=⟨h.lg.hA,h.lg.hV,h.lg.l0,h.lg.pk,λs d k m p a b=>by
  rcases v s d with x|x
  ·exact h.lg.uq s x k m p a b
  rw[x,u]at a
  simp only[BP,BV]at a
  omega⟩
 by_cases z:D' (bsN H q+U)=MM 3 (L+1) (F+(U:Int)) empty (n:Int)
 ·right
  obtain⟨G,y,g,i⟩:=h.sc;have J:=(g.congr (S':=D') (λj e=>(t _ ω).symm)).life N (L':=L+1) ω ω ω z
  have e:∀s∈ts',∀k m p,MA s (n:Int)=some (k,L+1,m,p)->k≠4->m<F+((U+1:Nat):Int):=λs d k m p a b=>by
   by_cases K:F+(U:Int)<=m
   ·have:=(B s d k m p a b K).1;omega
   omega
  exact⟨(uY O h.hH ω rt J i h.rp C r e Q).2,C,r,e⟩
 left
 obtain⟨G,o,w,h1,S,W,X,h5,h6,h7⟩:=lg.crash (D:=D') O (λi g=>by rw[t _ ω];exact h.ag i g) (λi a b k l m p f j K J=>by
  have g:=Q _ (jd h.hH b).2 _ f;have:=r _ g k l m p f j;refine⟨g,?_⟩
  by_cases e:l=L+1
  ·subst e
   obtain⟨x,y⟩:=B _ g k m p f j ω;obtain rfl:i=U:=ω
   exact absurd y z
  ·omega)
 refine⟨z,w,o,h.hH,rt,h6,h7,⟨G,S,W,X⟩,h5,C,r,λs d k m p a b c=>?_⟩;obtain⟨x,y⟩:=B s d k m p a b ω;obtain rfl:o=U:=ω
 exact .inl ⟨I,x,y⟩
def ZI(n q:Nat)(M T H F K:Int)(s:Y):Prop:=(∃k m p,MA s (n:Int)=some (k,M,m,p)/\k≠4/\F+(q:Int)<=m/\m<F+(q:Int)+K)\/s=MZ (T+1) (1-H) (F+(q:Int)) M (n:Int)
theorem RoW.move{K:Int}(h:RoW ts n q T H F M)(g:RoOk (T+1) (1-H) (F+(q:Int)) M (n:Int))(f:∀s∈ts',s∈ts\/ZI n q M T H F K s):RoW ts' n q T H F M:=λs e a r b=>by
 rcases f s e with k|⟨k,m,p,c,d,_⟩|k
 ·exact h s k a r b
 ·rw[xq c d]at b;cases b
 rw[k,g.root a]at b
 split at b
 ·cases b;exact⟨Int.le_refl _,λ_=>⟨rfl,rfl,Int.le_refl _⟩⟩
 cases b
theorem uj{K:Int}(g:∀s∈ts,∀k l m p,MA s (n:Int)=some (k,l,m,p)->k≠4->l<=M)(f:RoOk (T+1) (1-H) (F+(q:Int)) M (n:Int))(e:∀s∈ts',s∈ts\/ZI n q M T H F K s):∀s∈ts',∀k l m p,MA s (n:Int)=some (k,l,m,p)->k≠4->l<=M:=λs d k l m p a b=>by
 rcases e s d with x|⟨i,j,o,c,h,_⟩|x
 ·exact g s x k l m p a b
 ·rw[c]at a
  simp only[BP,BV]at a;omega
 rw[x,f.res]at a
 simp only[BP,BV]at a;omega
theorem rv{m:Nat}{l:Int}(r:q<=99)(y:H=0\/H=1)(i:1<=n/\n<=8)(h:n+m=56)(f:1<=M/\M<=60000)(hF:1<=F/\F<=999990000)(c:MU rs=true)(z:1+MJ (MD rs) (n:Int)<=(q:Int))(g:l<=M)(rt:OC (D 0) (D 1) (n:Int)=(T+1,1-H,F+(q:Int),l))
  (o:∀j,j<(NM M (F+(q:Int)) n m (MD rs)).length->D (bsN (1-H) q+j)=(NM M (F+(q:Int)) n m (MD rs)).getD j empty)(x:rs∈P)(w:RoW ts n q T H F M)(t:∀s∈ts,∀k l m p,MA s (n:Int)=some (k,l,m,p)->k≠4->l<=M)
  (v:∀s∈ts,∀k m p,MA s (n:Int)=some (k,M,m,p)->k≠4->m<F+(q:Int)+(1+MJ (MD rs) (n:Int)))(u:RX ts n q D):∃U:Nat,U<=q/\(U:Int)=1+MJ (MD rs) (n:Int)/\TC ts P n q M (T+1) (1-H) (F+(q:Int)) l U U D/\TD ts P n q M (T+1) (1-H) (F+(q:Int)) l U U D D rs/\Log D (bsN (1-H) q) (F+(q:Int)) (n:Int) U l M ((MD rs).map LT):=by
 obtain⟨d,e⟩:=su (S:=D) (frm:=bsN (1-H) q) (R:=l) h i f g (show 1<=F+(q:Int) by omega) (MD rs).length (MD rs) rfl ω o;obtain⟨a,b⟩:=uY (ts:=ts) (P:=P) (T:=T+1) r (show 1-H=0\/1-H=1 by omega) ω rt d (nR c) x (w.next _ _ _) t (λs c k m p a b=>by have:=v s c k m p a b;omega) u;exact⟨_,ω,e,a,b,d⟩
end
end
section
theorem uL(zs:List Int)(j:Nat):∀(hs:List (Int×List Int)) (i:Nat) (ps:List (List Int)),(∀x∈hs,x.1.toNat≠j)->(OH zs i hs ps)[j]?=ps[j]?
 | [],_,_,_=>rfl
 | x::r,i,ps,h=>by rw[OH,uL zs j r _ _ (λy hy=>h y (DO _ hy)),FR (h x EE)]
theorem YC{a:List Y}{b:List (Int×Y)}(e:LE a b=true)(c:List Int)(j:Nat)(h:∀x∈b,x.1.toNat≠j):sec (MN c a b) j=sec a j:=by
 unfold MN sec;rw[AE e];unfold OI
 rw[List.getD,List.getD,JI,uL c j _ _ _ (λx d=>by
  unfold ME at d;obtain⟨y,f,rfl⟩:=DS.1 d
  exact h y f),JI]
 cases a[j]? with
 | none=>rfl
 | some s=>simp[TM]
theorem WH(j:Nat):∀(ws:List (Int×Y)) (ss:List Y),(∀x∈ws,x.1.toNat≠j)->sec (xhE ws ss) j=sec ss j
 | [],_,_=>rfl
 | x::r,ss,h=>by
  rw[xhE,WH j r _ (λy hy=>h y (DO _ hy))];unfold sec;rw[List.getD,List.getD,FR (h x EE)]
theorem yd{b:Nat}{a:List Y}{x:Int×Y}(h:x∈QN b a):∃i,i<a.length/\x.1=((b+i:Nat):Int):=by
 unfold QN at h;obtain⟨i,c,rfl⟩:=List.mem_mapIdx.1 h;exact⟨i,c,rfl⟩
theorem uO(S:Nat->Y)(frm:Nat)(F:Int)(n m:Nat)(e:Y)(L:Int)(N i:Nat)(hm:n+m=56)(hn:1<=n/\n<=8)(hl:1<=L/\L<=60000)(hf:1<=F+(i:Int)/\F+(i:Int)+(N:Int)<=1000000001)(hS:∀k,k<N->S (frm+(i+k))=RY e L (F+(i:Int)) n m N k)(out:Scd):∀(f k:Nat) (wk wl:Int) (op:Y),k+f<N->ML S frm F (n:Int) f (i+k) wk wl op out=out
 | 0,_,_,_,_,_=>rfl
 | f+1,k,wk,wl,op,h=>by
  have hr:=me e L (F+(i:Int)) n m N k hm hn hl ω;rw[<-hS k ω,AG ω]at hr
  by_cases hc:IntKind.i64.wrap (F+(i:Int)+(k:Int)-((i+k:Nat):Int))=F/\PD wk wl 1 L=true
  ·rw[XL hr hc.1 hc.2]
   exact uO S frm F n m e L N i hm hn hl hf hS out f (k+1) 1 L _ ω
  exact ZT hr hc
structure TU(ts:List Y)(P:List (List Pr))(n q:Nat)(ss:List Y)(ws:List (Int×Y))(L T H F R:Int)(A U:Nat)(rs:List Pr):Prop where
 tc:TC ts P n q L T H F R A U (sec (xhE ws ss))
 rt:OC (sec ss 0) (sec ss 1) (n:Int)=(T,H,F,R)
 fu:∃es,Log (sec (xhE ws ss)) (bsN H q) F (n:Int) U R L es/\NX es []=some rs
 nx:∀s∈ts,∀k m p,MA s (n:Int)=some (k,L,m,p)->k≠4->m<F+(U:Int)
 wp:∀x∈ws,∃i,A<=i/\i<U/\x.1=((bsN H q+i:Nat):Int)
 wl:ws.length+A<=U
 pl:P.getLast?=some rs
theorem VY{H:Int}(h:H=0\/H=1)(q:Nat):2<=bsN H q/\bsN H q+q<=2+2*q:=by rcases h with e|e<;>subst e<;>first|(rw[gx];omega)|(rw[ip];omega)
theorem vE{H:Int}(h:H=0\/H=1)(q:Nat):bsN H q+q<=bsN (1-H) q\/bsN (1-H) q+q<=bsN H q:=by
 rcases h with e|e<;>subst e
 ·rw[gx,show(1-0:Int)=1 by omega,ip];omega
 rw[ip,show(1-1:Int)=0 by omega,gx];omega
section
variable {ts ts':List Y} {P P':List (List Pr)} {n q:Nat} {ss:List Y} {ws:List (Int×Y)} {L T H F R:Int} {A U:Nat} {rs:List Pr} {D:Nat->Y}
theorem TU.l(h:TU ts P n q ss ws L T H F R A U rs){j:Nat}(c:∀i,A<=i->i<U->j≠bsN H q+i):∀x∈ws,x.1.toNat≠j:=λx d=>by
 obtain⟨i,a,b,e⟩:=h.wp x d;have:=c i a b;rw[e,BM]
 exactλk=>this k.symm
theorem TU.low(h:TU ts P n q ss ws L T H F R A U rs){j:Nat}(a:j<2):∀x∈ws,x.1.toNat≠j:=h.l (λi _ _=>by have:=VY h.tc.hH q;omega)
theorem TU.safe(h:TU ts P n q ss ws L T H F R A U rs){i:Nat}(a:i<A):∀x∈ws,x.1.toNat≠bsN H q+i:=h.l (λj _ _=>ω)
theorem TU.commit(h:TU ts P n q ss ws L T H F R A U rs)(hq:q<=99)(K:1<=n/\n<=8)(m:Nat)(J:n+m=56)(I:1<=L/\L<=60000)(hF:1<=F/\F<=999999000)(hD:2+2*q<=ss.length)(b:List Ch)(hb:PA b=true)(hc:PO rs b=0)(N:Nat)(hN:N=OG (LT b).size m)(hU:U+N<=q)(z:∀s∈ts',s∈ts\/∃k,k<N/\s=RY (LT b) L (F+(U:Int)) n m N k):TU ts' (P++[NB rs b]) n q ss (ws++QN (bsN H q+U) (QH (LT b) L (F+(U:Int)) n m N N)) L T H F R A (U+N) (NB rs b):=by
 have aO:=VY h.tc.hH q;have aN:=h.tc.lg.hA;have d:=mo (bsN H q+U) (xhE ws ss) N (QH (LT b) L (F+(U:Int)) n m N N) (WW _ _ _ _ _ _ _) (by rw[VT];omega);rw[<-de]at d
 have a:∀f,(∀j,sec (xhE (ws++QN (bsN H q+U) (QH (LT b) L (F+(U:Int)) n m N N)) ss) j=f j)->sec (xhE (ws++QN (bsN H q+U) (QH (LT b) L (F+(U:Int)) n m N N)) ss)=f:=λf k=>funext k
 obtain⟨f,B⟩:∃f,sec (xhE (ws++QN (bsN H q+U) (QH (LT b) L (F+(U:Int)) n m N N)) ss)=f:=⟨_,rfl⟩;rw[B]at d;obtain⟨E,aM⟩:∃E,sec (xhE ws ss)=E:=⟨_,rfl⟩;have u:=h.tc;have S:=h.fu;rw[aM]at d u S;clear a
 have v:∀j,¬(bsN H q+U<=j/\j<bsN H q+U+N)->f j=E j:=λj a=>by rw[d j,AG a]
 have C:∀k,k<N->f (bsN H q+(U+k))=RY (LT b) L (F+(U:Int)) n m N k:=λk o=>by
  rw[d,AE ω,show bsN H q+(U+k)-(bsN H q+U)=k by omega,xh _ _ _ _ _ _ _ o]
 have w:=λk (o:k<N)=>me (LT b) L (F+(U:Int)) n m N k J K I ω
 obtain⟨G,f1,V⟩:=S;have Q:=f1.congr (S':=f) (λj a=>(v _ ω).symm);have O:=Q.entry (LT b) N J K I (Int.le_refl _) ω hN C;have M:=tf G [] rs (LT b) b V (nW hb) hc;have X:rs∈P:=List.mem_of_getLast? h.pl
 have W:∀k:Nat,(if k+1=N then (2:Int) else 1)≠4:=λk=>by split<;>decide
 refine⟨?_,h.rt,?_,?_,?_,?_,σ⟩
 ·rw[B]
  refine⟨u.hH,⟨ω,hU,?_,?_,?_⟩,?_,?_⟩
  ·obtain⟨c,e⟩:=u.lg.l0
   exact⟨c,e.congr (λj a=>(v _ ω).symm)⟩
  ·intro j g x
   by_cases e:j<=U
   ·obtain⟨c,u1,l,p,r,t⟩:=u.lg.pk j g e
    refine⟨c,u1,l,?_,r,List.mem_append_left _ t⟩;rw[<-p];exact(ky j 0 0 R empty ([],0,R) (λi _ a=>(v _ ω).symm)).symm
   by_cases a:j=U+N
   ·subst a
    exact⟨_,_,_,O,M,List.mem_append_right _ (BL.2 rfl)⟩
   obtain⟨k,o,c⟩:=Q.reach
   refine⟨G,(U:Int),rs,?_,V,List.mem_append_left _ X⟩;have:=c (j-U);rw[show U+(j-U)=j by omega]at this;rw[this];have:=uO f (bsN H q) F n m (LT b) L N U J K I ω C (G,(U:Int),L) (j-U) 0 k L empty ω;rw[FX]at this;exact this
  ·intro s d k a p c o i l r e
   rcases z s d with x|⟨g,t,rfl⟩
   ·obtain⟨y1,y⟩:=u.lg.uq s x k a p c o i l r e
    exact⟨ω,by rw[v _ ω];exact y⟩
   have:=w g t
   rw[this]at c;simp only[BP,BV]at c;obtain rfl:i=U+g:=ω
   exact⟨ω,(C g t).symm⟩
  ·intro s d a r c
   rcases z s d with x|⟨g,t,rfl⟩
   ·exact u.ro s x a r c
   rw[xq (w g t) (W g)]at c;cases c
  intro s d k l a p c o
  rcases z s d with x|⟨g,t,rfl⟩
  ·exact u.la s x k l a p c o
  have:=w g t
  rw[this]at c;simp only[BP,BV]at c;omega
 ·rw[B]
  exact⟨_,O,M⟩
 ·intro s d k a p c o
  rcases z s d with x|⟨g,t,rfl⟩
  ·have:=h.nx s x k a p c o;omega
  have:=w g t
  rw[this]at c;simp only[BP,BV]at c;omega
 ·intro x c
  rcases BJ.1 c with y|y
  ·obtain⟨i,a,b,e⟩:=h.wp x y
   exact⟨i,a,ω,e⟩
  obtain⟨i,a,e⟩:=yd y
  rw[WW]at a;exact⟨U+i,ω,ω,by rw[e,KQ]⟩
 rw[AF,nX,WW]
 have:=h.wl;omega
theorem TU.flush(h:TU ts P n q ss ws L T H F R A U rs):TU ts [rs] n q (xhE ws ss) [] L T H F R U U rs:=by
 obtain⟨c,a,b⟩:=h.fu;refine⟨⟨h.tc.hH,LgI.mk1 h.tc.lg.hV a b (BL.2 rfl) h.nx,h.tc.ro,h.tc.la⟩,?_,⟨c,a,b⟩,h.nx,(λx d=>by cases d),σ,rfl⟩;rw[WH 0 ws ss (h.low ω),WH 1 ws ss (h.low ω)];exact h.rt
theorem TU.down(h:TU ts P n q ss ws L T H F R A U rs)(g:q<=99)(e:D 0=sec ss 0)(f:D 1=sec ss 1)(d:∀i,i<A->D (bsN H q+i)=sec ss (bsN H q+i))(j:RX ts n q D):∃a b,TD ts P n q L T H F R a U (sec (xhE ws ss)) D b:=by
 obtain⟨a,b,_,x⟩:=h.tc.down g (D:=D) (by rw[e,f];exact h.rt) (λi c=>by rw[d i c,WH _ ws ss (h.safe c)]) j;exact⟨a,b,x⟩
end
end
section
theorem Ac(b:Int)(l a:List Y):MP b (l++a)=MP b l++MP (b+(l.length:Int)) a:=by
 unfold MP;rw[List.mapIdx_append]
 congr 1
 apply List.mapIdx_eq_mapIdx_iff.2
 intro i c
 congr 2
 omega
theorem wu(b:Int)(l:List Y)(c:Nat):(MP b l).take c=MP b (l.take c):=by
 have h:=Ac b (l.take c) (l.drop c);rw[FN]at h;rw[h]
 by_cases a:c<=l.length
 ·rw[EQ (by rw[QW,AP];omega)]
 rw[List.drop_eq_nil_of_le ω]
 rw[vU,DZ,AQ (by rw[QW,AP];omega)]
def mw(c:List Y)(d:List (Int×Y))(b:Nat)(a:List Y)(t:Nat)(D:Nat->Y):Prop :=(∀j,(∀x∈d,x.1.toNat≠j)->¬(b<=j/\j<b+a.length)->D j=sec c j)\/∀j,j≠t->D j=sec (xhE (QN b a) (xhE d c)) j
theorem C9{g:List Y}{h:List (Int×Y)}{b:Nat}{a:List Y}{t:Int}{r:Y}(A:LE g h=true)(z:b+a.length<=g.length)(B:h.length+a.length<=300)(q:∀p∈a,p.size=64)(G:0<=t/\t<2)(E:2<=g.length)(F:r.size=64)(c:Nat)(m:List Int)(d:List Y×List (Int×Y))(f:d=LP ((MP (b:Int) a++[(true,0,empty),(false,t,r),(true,0,empty)]).take c) (g,h)):mw g h b a t.toNat (sec (MN m d.1 d.2)):=by
 have n:LE d.1 d.2=true:=by rw[f];exact ZO _ (g,h) A
 have w:(MP (b:Int) a).length=a.length:=QW _ _;have s:LP (MP (b:Int) a) (g,h)=(g,h++QN b a):=iy b a.length a g h rfl z B q
 have v:∀D:List Y,D.length=g.length->PL D.length (t,r)=true:=λD e=>by unfold PL;rw[AT];simp only;omega
 have u:(xhE (h++QN b a) g).length=g.length:=VT _ _
 by_cases D:c<=a.length
 ·left
  have k:=iy b (a.take c).length (a.take c) g h rfl (by rw[AP];omega) (by rw[AP];omega) (λp e=>q p (DE e));rw[ID ω,wu,k]at f;subst f;intro j o C;refine YC n m j (λx l=>?_);rcases BJ.1 l with y|y
  ·exact o x y
  obtain⟨i,p,e⟩:=yd y
  rw[AP]at p;rw[e,BM];omega
 right
 rw[List.take_append,w,AQ ω,lz,s]at f;intro j o;obtain⟨k,i⟩:∃k,c-a.length=k+1:=⟨c-a.length-1,ω⟩;rw[i,EW,LP,MX]at f
 cases k with
 | zero =>
  rw[ES,LP]at f;subst f;rw[YC n m j (λx l=>by cases l)];simp only[de]
 | succ k =>
  rw[EW,LP,OX _ _ (v _ u) σ]at f;simp only[DW]at f
  cases k with
  | zero =>
   rw[ES,LP]at f;subst f;rw[YC n m j (λx l=>by rw[BL.1 l];exactλe=>o e.symm)];simp only[de]
  | succ k =>
   rw[EW,LP,MX,List.take_nil,LP]at f;subst f;rw[YC n m j (λx l=>by cases l)];simp only[xhE,de];unfold sec;rw[List.getD,List.getD,FR (λe=>o e.symm)]
section
variable {ts ts':List Y} {P P':List (List Pr)} {n q:Nat} {ss:List Y} {ws:List (Int×Y)} {L T H F R M:Int} {A U V:Nat} {E D:Nat->Y} {rs:List Pr}
theorem mG{a:Int}{r:RtT}(c:RX ts n q D)(d:RoW ts n q T H F M){j:Nat}(e:j<2)(h:MV (D j) a (n:Int)=some r):r.1<=T+1/\(r.1=T+1->r.2.1=1-H/\r.2.2.1=F+(q:Int)/\r.2.2.2<=M):=by
 obtain⟨_,_,l,m,p,b⟩:=bm h;exact d _ (c j ω _ b) a r h
structure MvO(n q:Nat)(M T H F:Int)(rs:List Pr):Prop where
 hq:q<=99
 hn:1<=n/\n<=8
 hM:1<=M/\M<=60000
 hF:1<=F/\F<=999990000
 hT:0<=T/\T<=999999999
 hH:H=0\/H=1
 hs:MU rs=true
 hr:1+MJ (MD rs) (n:Int)<=(q:Int)
theorem MvO.ro(h:MvO n q M T H F rs):RoOk (T+1) (1-H) (F+(q:Int)) M (n:Int):=by
 obtain⟨a,b,c,d,e,f,g,i⟩:=h;exact⟨ω,ω,by unfold UL;omega,ω,ω,ω,ω⟩
def QA(n q:Nat)(M F:Int)(rs:List Pr):List Y:=NM M (F+(q:Int)) n (56-n) (MD rs)
theorem MvO.len(h:MvO n q M T H F rs):((QA n q M F rs).length:Int)=1+MJ (MD rs) (n:Int):=by
 obtain⟨c,a,b,d,e,f,g,i⟩:=h;exact(su (S:=λj=>(NM M (F+(q:Int)) n (56-n) (MD rs)).getD j empty) (frm:=0) (R:=M) (m:=56-n) ω a b (Int.le_refl _) (show 1<=F+(q:Int) by omega) (MD rs).length (MD rs) rfl ω (λj _=>by rw[BG])).2
theorem MvO.pg(h:MvO n q M T H F rs){s:Y}(j:s∈QA n q M F rs):s.size=64/\ZI n q M T H F (1+MJ (MD rs) (n:Int)) s:=by
 have v:=h.len;obtain⟨l,d,f,m,o,r,t,u⟩:=h;have c:=nN (m:=56-n) ω d f (show 1<=F+(q:Int) by omega) (MD rs).length (MD rs) rfl ω;obtain⟨i,b,rfl⟩:=EN j;obtain⟨k,p,a,g⟩:=c i b;have e:(NM M (F+(q:Int)) n (56-n) (MD rs)).getD i empty=(QA n q M F rs)[i]:=by show(QA n q M F rs).getD i empty=_;rw[List.getD,BQ b];rfl
 rw[e]at a;exact⟨(SA a).1,.inl ⟨k,_,p,a,g,ω,ω⟩⟩
theorem sg(h:MvO n q M T H F rs){X:List Y}(a:2+2*q<=X.length){j:Nat}(c:¬(bsN (1-H) q<=j/\j<bsN (1-H) q+q)):sec (xhE (QN (bsN (1-H) q) (QA n q M F rs)) X) j=sec X j:=by
 have b:=VY (show 1-H=0\/1-H=1 by have:=h.hH;omega) q;have d:=h.len;have e:=h.hr;rw[mo (bsN (1-H) q) X _ (QA n q M F rs) rfl ω j,AG ω]
theorem tx(h:MvO n q M T H F rs){X:List Y}(a:2+2*q<=X.length){j:Nat}(c:j<(QA n q M F rs).length):sec (xhE (QN (bsN (1-H) q) (QA n q M F rs)) X) (bsN (1-H) q+j)=(QA n q M F rs).getD j empty:=by
 have b:=VY (show 1-H=0\/1-H=1 by have:=h.hH;omega) q;have d:=h.len;have e:=h.hr;rw[mo (bsN (1-H) q) X _ (QA n q M F rs) rfl ω _,AE ω,Nat.add_sub_cancel_left]
theorem TU.mvcut(h:TU ts P n q ss ws L T H F R A U rs)(o:MvO n q L T H F rs)(aI:2+2*q<=ss.length)(v:∀s∈ts',s∈ts\/ZI n q L T H F (1+MJ (MD rs) (n:Int)) s)(c:mw ss ws (bsN (1-H) q) (QA n q L F rs) ((T+1) % 2).toNat D)(w:RX ts' n q D):∃b g a i d j e f,(b=T\/b=T+1)/\(a=F\/a=F+(q:Int))/\TD ts' P n q L b g a i d j e D f:=by
 have t:=o.ro;have u:=o.hH;have S:=o.hT;have hb:=VY u q;have aG:=VY (show 1-H=0\/1-H=1 by omega) q;have aF:=vE u q;have aD:=o.len;have hr:=o.hr;have W:=h.tc.lg.hV;have Q:=h.tc.lg.hA
 have g:TC ts' P n q L T H F R A U (sec (xhE ws ss)):=⟨u,⟨Q,W,h.tc.lg.l0,h.tc.lg.pk,λs C k m p a b=>by
  rcases v s C with x|⟨X,m',p',y,I,J,N⟩|x
  ·exact h.tc.lg.uq s x k m p a b
  ·rw[y]at a
   simp only[BP,BV]at a;omega
  rw[x,t.res]at a
  simp only[BP,BV]at a
  omega⟩,h.tc.ro.move t v,uj h.tc.la t v⟩
 rcases c with c|c
 ·obtain⟨d,f,_,x⟩:=g.down o.hq (D:=D) (by rw[c 0 (h.low ω) ω,c 1 (h.low ω) ω];exact h.rt) (λi z=>by rw[c _ (h.safe z) ω,WH _ ws ss (h.safe z)]) w
  exact⟨T,H,F,R,d,U,_,f,.inl rfl,.inl rfl,x⟩
 have aH:(xhE ws ss).length=ss.length:=VT _ _
 have G:∀j,j≠((T+1) % 2).toNat->¬(bsN (1-H) q<=j/\j<bsN (1-H) q+q)->D j=sec (xhE ws ss) j:=λj e l=>by rw[c j e,sg o ω l]
 have O:=wT (D':=D) (q:=q) (M:=L) h.rt S.1 (by rw[G _ ω ω,WH _ ws ss (h.low ω)]) (λj a r B e=>mG w g.ro B e);rcases O with e|⟨l,r,e⟩
 ·obtain⟨d,f,_,x⟩:=g.down o.hq (D:=D) e (λi z=>by rw[G _ ω ω]) w
  exact⟨T,H,F,R,d,U,_,f,.inl rfl,.inl rfl,x⟩
 obtain⟨K,z,k2,k3,i,k5⟩:=rv (ts:=ts') (P:=P) (m:=56-n) o.hq u o.hn (by have:=o.hn;omega) o.hM o.hF o.hs o.hr r e (λj B=>by rw[c _ ω];exact tx o ω B) (List.mem_of_getLast? h.pl) g.ro g.la (λs C k m p a b=>by
  rcases v s C with x|⟨X,m',p',y,I,J,N⟩|x
  ·have:=h.nx s x k m p a b;omega
  ·rw[y]at a
   simp only[BP,BV]at a;omega
  ·rw[x,t.res]at a
   simp only[BP,BV]at a
   omega) w
 exact⟨T+1,1-H,F+(q:Int),l,K,K,D,rs,.inr rfl,.inr rfl,i⟩
theorem pC{X:List Y}(o:MvO n q M T H F rs)(w:2+2*q<=X.length)(rt:OC (sec X 0) (sec X 1) (n:Int)=(T,H,F,R))(J:RoW ts n q T H F M)(G:∀s∈ts,∀k l m p,MA s (n:Int)=some (k,l,m,p)->k≠4->l<=M)(I:∀s∈ts,∀k m p,MA s (n:Int)=some (k,M,m,p)->k≠4->m<F+(q:Int)+(1+MJ (MD rs) (n:Int)))(h:∀s∈ts',s∈ts\/ZI n q M T H F (1+MJ (MD rs) (n:Int)) s)
  (i:RX ts' n q (sec ((xhE (QN (bsN (1-H) q) (QA n q M F rs)) X).set ((T+1) % 2).toNat (MZ (T+1) (1-H) (F+(q:Int)) M (n:Int))))):TU ts' [rs] n q ((xhE (QN (bsN (1-H) q) (QA n q M F rs)) X).set ((T+1) % 2).toNat (MZ (T+1) (1-H) (F+(q:Int)) M (n:Int))) [] M (T+1) (1-H) (F+(q:Int)) M (QA n q M F rs).length (QA n q M F rs).length rs:=by
 have d:=o.ro;have B:=o.hH;have C:=o.hT;have Q:=o.len;have W:=o.hr;have S:=VY (show 1-H=0\/1-H=1 by omega) q;have z:(xhE (QN (bsN (1-H) q) (QA n q M F rs)) X).length=X.length:=VT _ _
 have t:=λj (c:j<(QA n q M F rs).length)=>tx o w c
 have g:=λj (c:¬(bsN (1-H) q<=j/\j<bsN (1-H) q+q))=>sg o w c
 generalize xhE (QN (bsN (1-H) q) (QA n q M F rs)) X=l at z t g i⊢
 have f:=λj=>kr l ((T+1) % 2).toNat (MZ (T+1) (1-H) (F+(q:Int)) M (n:Int)) j ω
 generalize l.set ((T+1) % 2).toNat (MZ (T+1) (1-H) (F+(q:Int)) M (n:Int))=r at f i⊢
 have u:OC (sec r 0) (sec r 1) (n:Int)=(T+1,1-H,F+(q:Int),M):=by
  rw[<-G0 rt d C.1]
  congr 1
  ·rw[f 0,g 0 ω]
   by_cases e:(T+1) % 2=0
   ·rw[AE e,AE ω]
   rw[AG e,AG ω]
  rw[f 1,g 1 ω]
  by_cases e:(T+1) % 2=0
  ·rw[AE e,AG ω]
  rw[AG e,AE ω]
 have v:∀s∈ts',∀k m p,MA s (n:Int)=some (k,M,m,p)->k≠4->m<F+(q:Int)+(1+MJ (MD rs) (n:Int)):=λs e k m p a b=>by
  rcases h s e with x|⟨k',m',p',y,K,N,O⟩|x
  ·exact I s x k m p a b
  ·rw[y]at a
   simp only[BP,BV]at a;omega
  rw[x,d.res]at a
  simp only[BP,BV]at a;omega
 obtain⟨K,N,O,k3,k4,y⟩:=rv (ts:=ts') (P:=[rs]) (m:=56-n) o.hq B o.hn (by have:=o.hn;omega) o.hM o.hF o.hs o.hr (Int.le_refl _) u (λj c=>by rw[f,AG ω];exact t j c) (BL.2 rfl) (J.move d h) (uj G d h) v i;obtain rfl:K=(QA n q M F rs).length:=ω
 exact⟨k3,u,⟨_,y,nR o.hs⟩,λs e k m p a b=>by have:=v s e k m p a b;omega,(λx j=>by cases j),σ,rfl⟩
theorem TD.mvcut(h:TD ts P n q L T H F R U V E (sec ss) rs)(S:U=q)(o:MvO n q (L+1) T H F rs)(z:2+2*q<=ss.length)(t:∀s∈ts',s∈ts\/ZI n q (L+1) T H F (1+MJ (MD rs) (n:Int)) s)(d:mw ss [] (bsN (1-H) q) (QA n q (L+1) F rs) ((T+1) % 2).toNat D)(C:RX ts' n q D):∃b c f a g i j e k,(b=L\/b=L+1)/\(c=T\/c=T+1)/\(a=F\/a=F+(q:Int))/\TD ts' P n q b c f a g i j e D k:=by
 have f:=o.ro;have g:=o.hH;have Q:=o.hT;have hb:=VY g q;have aK:=VY (show 1-H=0\/1-H=1 by omega) q;have aJ:=vE g q;have aE:=o.len;have hr:=o.hr;have v:=h.ro.move f t;have B:=uj h.la f t
 have G:∀s∈ts',∀k m p,MA s (n:Int)=some (k,L+1,m,p)->k≠4->m<F+(q:Int)+(1+MJ (MD rs) (n:Int)):=λs e k m p a b=>by
  rcases t s e with x|⟨W,X,p',l,r,I,J⟩|x
  ·by_cases c:F+(U:Int)<=m
   ·rcases h.nx s x k m p a b c with y|y<;>omega
   omega
  ·rw[l]at a
   simp only[BP,BV]at a;omega
  rw[x,f.res]at a
  simp only[BP,BV]at a;omega
 have w:OC (D 0) (D 1) (n:Int)=(T,H,F,R)->(∀i,i<q->D (bsN H q+i)=sec ss (bsN H q+i))->TD ts' P n q L T H F R U V E D rs:=λrt e=>by
  obtain⟨O,y,K,N⟩:=h.sc;have aI:=h.lg.hV;have aH:=h.lg.hA;refine⟨g,rt,⟨h.lg.hA,h.lg.hV,h.lg.l0,h.lg.pk,λs e k m p a b=>?_⟩,λi u=>by rw[e i ω];exact h.ag i u,⟨O,?_,K.congr (λj c=>(e j ω).symm),N⟩,h.rp,v,B,λs e k m p a b _=>.inr ⟨S,G s e k m p a b⟩⟩
  ·rcases t s e with x|⟨W,X,p',l,r,I,J⟩|x
   ·exact h.lg.uq s x k m p a b
   ·rw[l]at a
    simp only[BP,BV]at a;omega
   rw[x,f.res]at a
   simp only[BP,BV]at a;omega
  rw[<-y]
  exact ky q 0 0 R empty ([],0,R) (λj _ c=>e j ω)
 rcases d with d|d
 ·have d:=λj=>d j (λx b=>by cases b)
  exact⟨L,T,H,F,R,U,V,E,rs,.inl rfl,.inl rfl,.inl rfl,w (by rw[d 0 ω,d 1 ω];exact h.rt) (λi u=>d _ ω)⟩
 have b:∀j,j≠((T+1) % 2).toNat->¬(bsN (1-H) q<=j/\j<bsN (1-H) q+q)->D j=sec ss j:=λj e k=>by rw[d j e];exact sg o z k
 have k:=wT (D':=D) (q:=q) (M:=L+1) h.rt Q.1 (by rw[b _ ω ω]) (λj a r c e=>mG C v c e);rcases k with e|⟨l,m,e⟩
 ·exact⟨L,T,H,F,R,U,V,E,rs,.inl rfl,.inl rfl,.inl rfl,w e (λi u=>b _ ω ω)⟩
 obtain⟨K,i,p,k3,a,r⟩:=rv (ts:=ts') (P:=P) (m:=56-n) o.hq g o.hn (by have:=o.hn;omega) o.hM o.hF o.hs o.hr m e (λj c=>by rw[d _ ω];exact tx o z c) h.rp v B G C
 exact⟨L+1,T+1,1-H,F+(q:Int),l,K,K,D,rs,.inr rfl,.inr rfl,.inr rfl,a⟩
theorem TD.life_up(h:TD ts P n q L T H F R U V E (sec ss) rs)(k:q<=99)(i:1<=n/\n<=8)(g:0<=L/\L+1<=60000)(hF:1<=F/\F<=999999000)(r:2+2*q<=ss.length)(c:U<q)(l:∀s∈ts',s∈ts\/s=MM 3 (L+1) (F+(U:Int)) empty (n:Int))
  (o:RX ts' n q (sec (ss.set (bsN H q+U) (MM 3 (L+1) (F+(U:Int)) empty (n:Int))))):TU ts' [rs] n q (ss.set (bsN H q+U) (MM 3 (L+1) (F+(U:Int)) empty (n:Int))) [] (L+1) T H F R (U+1) (U+1) rs:=by
 have t:=jd h.hH c
 have d:=λj=>kr ss (bsN H q+U) (MM 3 (L+1) (F+(U:Int)) empty (n:Int)) j ω
 rcases h.life (ts':=ts') (D':=sec (ss.set (bsN H q+U) (MM 3 (L+1) (F+(U:Int)) empty (n:Int)))) k i g hF c l (λj a=>by rw[d,AG a]) o with ⟨x,_⟩|⟨x,p,m,e⟩
 ·exact absurd (by rw[d,AE rfl]) x
 obtain⟨f,s,a,b⟩:=x.sc
 exact⟨⟨h.hH,LgI.mk1 ω a b (BL.2 rfl) e,p,m⟩,x.rt,⟨f,a,b⟩,e,(λx j=>by cases j),σ,rfl⟩
end
end
section
theorem tM{a:List OpT}{s:Y}(h:s∈ND a):∃o∈a,o.1=false/\o.2.2=s:=by
 unfold ND at h;obtain⟨o,c,b⟩:=List.mem_filterMap.1 h
 split at b
 ·cases b
 rename_i d
 exact⟨o,c,by simpa using d,by simpa using b⟩
theorem sI{b:Int}{a:List Y}{o:OpT}(h:o∈MP b a):o.2.2∈a:=by
 unfold MP at h;obtain⟨i,c,rfl⟩:=List.mem_mapIdx.1 h;exact GL c
theorem ph{x:Wo}{e:Ev}{d:Dd}{r:List Y×List (Int×Y)}(i:x.call e=(d,true))(g:d.C=0)(h:e.K≠5)(k:¬(2000<(PW x e d).length\/200<(NW x e d).length))(j:LE x.ss x.ws=true)(l:LP (d.ops.take (evN e d)) (x.ss,x.ws)=r):(0<=e.cut/\x.doE e={ w:=x.w,ss:=MN e.fs r.1 r.2,ws:=[],up:=false,W:=0,S:=0,L:=0,T:=0,H:=0,F:=0,R:=0,U:=0,O:=0,rs:=[],P:=NW x e d,ts:=x.ts++ND (d.ops.take (evN e d)) }) ∨
  (evN e d=d.ops.length/\x.doE e={ w:=x.w,ss:=r.1,ws:=r.2,up:=true,W:=d.W,S:=d.S,L:=d.L,T:=d.T,H:=d.H,F:=d.F,R:=d.R,U:=d.U,O:=d.O,rs:=d.rs,P:=if e.K=2 then x.P++[d.rs] else [d.rs],ts:=x.ts++ND d.ops }):=by
 have n:=rh e d
 have c:OQ x.ss x.ws d.ops ((evN e d:Nat):Int)=r:=by
  unfold OQ;rw[AE j,<-l,show RC ((evN e d:Nat):Int) d.ops.length=evN e d by unfold RC;omega]
 unfold Wo.doE;rw[i];simp only;rw[AG h,AG (by simp[g]),AG k]
 by_cases a:RF e d=true
 ·left
  rw[AE a];unfold Wo.pow Wo.ran;rw[c];unfold RF at a;rw[AT]at a;exact⟨a.1,rfl⟩
 right
 rw[AG a]
 have f:evN e d=d.ops.length:=by
  unfold RF at a;rw[AT]at a;unfold evN;rw[AG a]
 refine⟨f,?_⟩;have m:PW x e d=x.ts++ND d.ops:=by unfold PW;rw[f,CW]
 unfold Wo.upS Wo.ran;rw[c,m]
 by_cases b:e.K=2
 ·rw[AE b,AE b];unfold NW;rw[AE b]
 rw[AG b,AG b]
structure TUp(x:Wo)(N n q:Nat)(c:Int):Prop where
 up:x.up=true
 eW:x.W=(n:Int)
 eS:x.S=(N:Int)
 st:OB x.W x.S x.L x.T x.H x.F x.R x.U x.O x.rs=true
 ct:x.T<=c/\x.F<=1+100*c/\x.L<=c
 tu:TU x.ts x.P n q x.ss x.ws x.L x.T x.H x.F x.R (x.U-x.O).toNat x.U.toNat x.rs
def TDn(b:List Y)(P:List (List Pr))(n q:Nat)(D:Nat->Y)(c:Int):Prop:=∃L T H F R U V E a,TD b P n q L T H F R U V E D a/\(0<=T/\T<=c)/\(1<=F/\F<=1+100*c)/\0<=L/\L<=c
structure TI(x:Wo)(N n q:Nat)(c:Int):Prop where
 g:x.good N
 hN:8<=N/\N<=40
 hq:hv (N:Int)=(q:Int)
 hn:x.w=(n:Int)
 n1:1<=n/\n<=8
 c1:0<=c/\c<=60
 tl:(x.ts.length:Int)<=30*c
 pl:(x.P.length:Int)<=1+c
 pr:∀r∈x.P,MU r=true/\MJ (MD r) (n:Int)<=(q:Int)-1
 st:TUp x N n q c\/(x.up=false/\x.ws=[]/\TDn x.ts x.P n q (sec x.ss) c)
section
variable {x:Wo} {N n q:Nat} {c:Int} {e:Ev}
theorem TDn.z{b:List Y}{P:List (List Pr)}{D:Nat->Y}(h:TDn b P n q D c){a:Int}(k:c<=a):TDn b P n q D a:=by
 obtain⟨L,T,H,F,R,U,V,E,f,d,g,i,j⟩:=h;exact⟨L,T,H,F,R,U,V,E,f,d,ω,ω,ω⟩
theorem TI.z(h:TI x N n q c)(f:c+1<=60):TI x N n q (c+1):=by
 have d:=h.c1;have i:=h.tl;have g:=h.pl;refine⟨h.g,h.hN,h.hq,h.hn,h.n1,ω,ω,ω,h.pr,?_⟩;rcases h.st with s|⟨a,b,s⟩
 ·exact .inl ⟨s.up,s.eW,s.eS,s.st,by have:=s.ct;omega,s.tu⟩
 exact .inr ⟨a,b,s.z ω⟩
theorem TUp.pow(h:TUp x N n q c)(f:q<=99)(b:LE x.ss x.ws=true)(a:List Int)(g:RX x.ts n q (sec (MN a x.ss x.ws))):TDn x.ts x.P n q (sec (MN a x.ss x.ws)) c:=by
 obtain⟨m,o,p,r,s,u,v,w,y⟩:=UD h.st;have l:=h.ct;obtain⟨j,k,t⟩:=h.tu.down (D:=sec (MN a x.ss x.ws)) f (YC b a 0 (h.tu.low ω)) (YC b a 1 (h.tu.low ω)) (λi d=>YC b a _ (h.tu.safe d)) g;exact⟨_,_,_,_,_,_,_,_,_,t,ω,ω,ω⟩
theorem TI.dn(h:TI x N n q c)(k:c+1<=60){y:Wo}(g:y.good N)(d:y.w=x.w)(b:y.up=false)(a:y.ws=[])(m:y.ts.length<=x.ts.length+25)(l:y.P.length<=x.P.length+1)(f:∀r∈y.P,MU r=true/\MJ (MD r) (n:Int)<=(q:Int)-1)(i:TDn y.ts y.P n q (sec y.ss) (c+1)):TI y N n q (c+1):=by
 have j:=h.c1;have t:=h.tl;have p:=h.pl;exact⟨g,h.hN,h.hq,by rw[d];exact h.hn,h.n1,ω,ω,ω,f,.inr ⟨b,a,i⟩⟩
theorem TI.upw(h:TI x N n q c)(i:c+1<=60){y:Wo}(g:y.good N)(a:y.w=x.w)(k:y.ts.length<=x.ts.length+25)(j:y.P.length<=x.P.length+1)(b:∀r∈y.P,MU r=true/\MJ (MD r) (n:Int)<=(q:Int)-1)(d:TUp y N n q (c+1)):TI y N n q (c+1):=by
 have f:=h.c1;have t:=h.tl;have p:=h.pl;exact⟨g,h.hN,h.hq,by rw[a];exact h.hn,h.n1,ω,ω,ω,b,.inl d⟩
theorem TI.lim(h:TI x N n q c){d:Dd}(g:d.ops.length<=25):¬(2000<(PW x e d).length\/200<(NW x e d).length):=by
 have a:=h.c1;have t:=h.tl;have p:=h.pl
 have b:(PW x e d).length<=x.ts.length+25:=by
  unfold PW;have:=bj (d.ops.take (evN e d));rw[AP]at this;rw[AF];omega
 have f:(NW x e d).length<=x.P.length+1:=by
  unfold NW
  split
  ·rw[AF];simp
  omega
 omega
theorem TI.power(h:TI x N n q c)(k:c+1<=60)(j:e.K=5)(g:RX (x.doE e).ts n q (sec (x.doE e).ss)):TI (x.doE e) N n q (c+1):=by
 have f:=h.g.doE e;obtain⟨l,m,o⟩:=VV h.hN h.hq;have i:x.doE e=x.pow e.fs:=by unfold Wo.doE;rw[AE j]
 rw[i]at g f⊢;refine h.dn k f rfl rfl rfl (by show x.ts.length<=_;omega) (by show x.P.length<=_;omega) h.pr ?_;show TDn x.ts x.P n q (sec (MN e.fs x.ss x.ws)) (c+1);rcases h.st with s|⟨a,b,s⟩
 ·exact(s.pow ω h.g.d e.fs g).z ω
 have d:=h.g.d
 rw[b]at d⊢;rw[nz d];exact s.z ω
theorem TI.fl(h:TI x N n q c)(j:c+1<=60)(s:TUp x N n q c)(u:e.K=3)(l:¬(2000<(PW x e (x.call e).1).length\/200<(NW x e (x.call e).1).length))(b:RX (x.doE e).ts n q (sec (x.doE e).ss)):TI (x.doE e) N n q (c+1):=by
 have d:=h.g.doE e;obtain⟨M,O,P⟩:=VV h.hN h.hq;obtain⟨y,z,A,B,C,D,E,Q,F⟩:=UD s.st;obtain⟨G,H⟩:=sy s.st;have L:=s.ct;have w:RQ x.W x.S x.L x.T x.H x.F x.R x.U x.O x.rs=⟨0,x.W,x.S,x.L,x.T,x.H,x.F,x.R,x.U,0,x.rs,[(true,0,empty)]⟩:=by unfold RQ;rw[AE s.st]
 have f:x.call e=(⟨0,x.W,x.S,x.L,x.T,x.H,x.F,x.R,x.U,0,x.rs,[(true,0,empty)]⟩,true):=by
  unfold Wo.call;rw[AG ω,AG ω,AE u,w,s.up]
 rw[f]at l;have v:NW x e ⟨0,x.W,x.S,x.L,x.T,x.H,x.F,x.R,x.U,0,x.rs,[(true,0,empty)]⟩=x.P:=by unfold NW;rw[AG ω]
 have p:∀k,ND (([((true,0,empty):OpT)]).take k)=[]:=λk=>by cases k<;>simp[ND]
 have g:x.rs∈x.P:=List.mem_of_getLast? s.tu.pl;have J:1<=x.P.length:=List.length_pos_of_mem g;rcases ph f rfl ω l h.g.d rfl with ⟨_,a⟩|⟨m,a⟩
 ·rw[v]at a
  simp only[p,DZ]at a;rw[a]at b d⊢;refine h.dn j d rfl rfl rfl (by show x.ts.length<=_;omega) (by show x.P.length<=_;omega) h.pr ?_;simp only at b⊢;generalize evN e ⟨0,x.W,x.S,x.L,x.T,x.H,x.F,x.R,x.U,0,x.rs,[(true,0,empty)]⟩=k at b⊢
  cases k with
  | zero=>exact(s.pow ω h.g.d e.fs b).z ω
  | succ k =>
   rw[EW,List.take_nil,LP,MX,LP]at b⊢;simp only at b⊢;have o:LE (xhE x.ws x.ss) []=true:=by have:=ZO [(true,0,empty)] (x.ss,x.ws) h.g.d;rw[LP,MX,LP]at this;exact this
   rw[nz o]at b⊢;obtain⟨I,K,t⟩:=s.tu.down (D:=sec (xhE x.ws x.ss)) ω (WH 0 _ _ (s.tu.low ω)) (WH 1 _ _ (s.tu.low ω)) (λi r=>WH _ _ _ (s.tu.safe r)) b;exact⟨_,_,_,_,_,_,_,_,_,t,ω,ω,ω⟩
 simp only at m
 rw[m]at a;rw[AG ω]at a;simp only[EU,EW,ES]at a;rw[LP,MX,LP]at a;have i:ND [((true,0,empty):OpT)]=[]:=rfl;rw[i,DZ]at a;rw[a]at b d⊢;refine h.upw j d rfl (by show x.ts.length<=_;omega) (by show 1<=_;omega) (λr o=>by rw[BL.1 o];exact h.pr _ g) ?_;refine⟨rfl,s.eW,s.eS,(show OB x.W x.S x.L x.T x.H x.F x.R x.U 0 x.rs=true from gw y z A B G C D E ω F H),by show x.T<=_/\x.F<=_/\x.L<=_;omega,?_⟩;simp only[Int.sub_zero];exact s.tu.flush
end
end
section
section
variable {x:Wo} {N n q:Nat} {c:Int} {e:Ev}
theorem TI.cm(h:TI x N n q c)(T:c+1<=60)(s:TUp x N n q c)(J:e.K=2)(a:(x.call e).1.C=0)(v:¬(2000<(PW x e (x.call e).1).length\/200<(NW x e (x.call e).1).length))(D:RX (x.doE e).ts n q (sec (x.doE e).ss)):TI (x.doE e) N n q (c+1):=by
 have C:=h.g.doE e;obtain⟨q1,q2,q3⟩:=VV h.hN h.hq;obtain⟨s1,s2,s3,s4,s5,s6,s7,s8,s9⟩:=UD s.st;obtain⟨sR,sr⟩:=sy s.st;have ct:=s.ct;have n1:=h.n1;have l:hv x.S=(q:Int):=by rw[s.eS,h.hq]
 obtain⟨U,B⟩:∃U:Nat,x.U=(U:Int):=⟨x.U.toNat,ω⟩;rw[l]at s7
 have A:x.call e=(QE x.W x.S x.L x.T x.H x.F x.R x.U x.O x.rs e.b,true):=by
  unfold Wo.call;rw[AG ω,AE J,s.up]
 rw[A]at a v;simp only at a v;have aP:=a;unfold QE at a
 by_cases u:(OB x.W x.S x.L x.T x.H x.F x.R x.U x.O x.rs && PA e.b)=true
 rotate_left
 ·rw[AG u]at a;simp[LX]at a
 rw[AE u]at a
 by_cases f:PO x.rs e.b=0
 rotate_left
 ·rw[AG f]at a;simp[LX]at a
 rw[AE f]at a
 by_cases g:MJ (MD (PQ x.rs e.b)) x.W<=hv x.S-1
 rotate_left
 ·rw[AG g]at a;simp[LX]at a
 rw[AE g]at a
 by_cases H:OR (LT e.b).size x.W<=hv x.S-x.U
 rotate_left
 ·rw[AG H]at a;simp[LX]at a
 have hb:PA e.b=true:=by rw[AX]at u;exact u.2
 have I:PQ x.rs e.b=NB x.rs e.b:=by unfold PQ;rw[AE f]
 obtain⟨m,V⟩:∃m,n+m=56:=⟨56-n,ω⟩;obtain⟨M,K⟩:∃M,M=OG (LT e.b).size m:=⟨_,rfl⟩;have E:OR (LT e.b).size (n:Int)=(M:Int):=by unfold OR;rw[AE ω,show(56-(n:Int)).toNat=m by omega,K]
 rw[s.eW,l,E,B]at H
 have aD:2+x.H*hv x.S+x.U=((bsN x.H q+U:Nat):Int):=by
  have:=ti s.tu.tc.hH q;rw[l,B];omega
 have hcut:PG (LT e.b) x.L (x.F+x.U) x.W.toNat (56-x.W.toNat)=QH (LT e.b) x.L (x.F+(U:Int)) n m M M:=by
  rw[s.eW,show((n:Int)).toNat=n by omega,show 56-n=m by omega,B];exact XZ K ω
 have hd:QE x.W x.S x.L x.T x.H x.F x.R x.U x.O x.rs e.b=⟨0,x.W,x.S,x.L,x.T,x.H,x.F,x.R,x.U+(M:Int),x.O+(M:Int),NB x.rs e.b,MP ((bsN x.H q+U:Nat):Int) (QH (LT e.b) x.L (x.F+(U:Int)) n m M M)⟩:=by
  unfold QE;rw[AE u,AE f,AE g,AE (by rw[s.eW,l,E,B];exact H),I,hcut,aD,s.eW,E]
 rw[hd]at A v;generalize G:QH (LT e.b) x.L (x.F+(U:Int)) n m M M=b at A v;have aS:b.length=M:=by rw[<-G];exact WW _ _ _ _ _ _ _
 have Q:∀p∈b,∃k,k<M/\p=RY (LT e.b) x.L (x.F+(U:Int)) n m M k:=λp d=>by
  rw[<-G]at d;unfold QH at d;obtain⟨k,L,rfl⟩:=DS.1 d;exact⟨k,GP.1 L,rfl⟩
 have aL:∀p∈b,p.size=64:=λp d=>by obtain⟨k,L,rfl⟩:=Q p d;exact xi n1 V ω L
 have aQ:=VY s.tu.tc.hH q;have aR:=h.g.n;have aN:=s.tu.wl;have aM:x.U.toNat=U:=ω
 have O:=s.tu;rw[aM]at O aN
 have F:=λ(w:List Y) (ht:∀z∈w,z∈x.ts\/∃k,k<M/\z=RY (LT e.b) x.L (x.F+(U:Int)) n m M k)=>O.commit (ts':=w) ω n1 m V s3 s6 ω e.b hb f M K ω ht
 rw[G]at F
 have P:∀k,∀z∈x.ts++ND ((MP ((bsN x.H q+U:Nat):Int) b).take k),z∈x.ts\/∃k,k<M/\z=RY (LT e.b) x.L (x.F+(U:Int)) n m M k:=λk z i=>by
  rcases BJ.1 i with y|y
  ·exact .inl y
  obtain⟨o,p9,j,q9⟩:=tM y;rw[<-q9]
  exact .inr (Q _ (sI (DE p9)))
 have hP:NW x e ⟨0,x.W,x.S,x.L,x.T,x.H,x.F,x.R,x.U+(M:Int),x.O+(M:Int),NB x.rs e.b,MP ((bsN x.H q+U:Nat):Int) b⟩=x.P++[NB x.rs e.b]:=by unfold NW;rw[AE J]
 have pr:∀r∈x.P++[NB x.rs e.b],MU r=true/\MJ (MD r) (n:Int)<=(q:Int)-1:=λr i=>by
  rcases BJ.1 i with y|y
  ·exact h.pr r y
  rw[BL.1 y]
  rw[I,s.eW,l]at g;exact⟨ZW f,g⟩
 have S:∀k,(x.ts++ND ((MP ((bsN x.H q+U:Nat):Int) b).take k)).length<=x.ts.length+25:=λk=>by
  have:=bj ((MP ((bsN x.H q+U:Nat):Int) b).take k);rw[AP,QW]at this;rw[AF];omega
 have R:=λk=>iy (bsN x.H q+U) (b.take k).length (b.take k) x.ss x.ws rfl (by rw[AP];omega) (by rw[AP];omega) (λp d=>aL p (DE d))
 rcases ph A rfl ω v h.g.d rfl with ⟨_,d⟩|⟨W,d⟩
 ·rw[hP]at d
  simp only at d;generalize evN e _=k at d;have p:=ZO ((MP ((bsN x.H q+U:Nat):Int) b).take k) (x.ss,x.ws) h.g.d;rw[wu,R k]at d p;rw[<-wu]at d;simp only at d p;rw[d]at D C⊢;refine h.dn T C rfl rfl rfl (S k) (by show(x.P++[NB x.rs e.b]).length<=_;rw[AF];simp) pr ?_;simp only at D⊢;have aO:=F _ (P k)
  have o:∀j,(∀i,(x.U-x.O).toNat<=i->i<U+M->j≠bsN x.H q+i)->sec (MN e.fs x.ss (x.ws++QN (bsN x.H q+U) (b.take k))) j=sec x.ss j:=λj t=>by
   refine YC p e.fs j (λy hy=>?_);rcases BJ.1 hy with z|z
   ·obtain⟨i,i0,X,r⟩:=O.wp y z
    rw[r,BM]
    exactλe=>t i i0 ω e.symm
   obtain⟨i,X,r⟩:=yd z
   rw[AP]at X;rw[r,BM]
   exactλe=>t (U+i) ω ω ω
  obtain⟨r,y,t⟩:=aO.down ω (o 0 (λi _ _=>ω)) (o 1 (λi _ _=>ω)) (λi X=>o _ (λj _ _=>ω)) D;exact⟨_,_,_,_,_,_,_,_,_,t,ω,ω,ω⟩
 simp only at W
 rw[W,AE J,CW]at d;have i:=R b.length;rw[CW]at i;have j:=F _ (P (MP ((bsN x.H q+U:Nat):Int) b).length);have o:=S (MP ((bsN x.H q+U:Nat):Int) b).length;rw[CW]at j o;rw[i]at d;rw[d]at D C⊢;refine h.upw T C rfl o (by show(x.P++[NB x.rs e.b]).length<=_;rw[AF];simp) pr ?_;refine⟨rfl,s.eW,s.eS,(show OB x.W x.S x.L x.T x.H x.F x.R (x.U+(M:Int)) (x.O+(M:Int)) (NB x.rs e.b)=true from gw s1 s2 s3 s4 sR s5 s6 (by rw[l];omega) ω (ZW f) (by rw[<-I];exact g)),by show x.T<=_/\x.F<=_/\x.L<=_;omega,?_⟩;simp only;rw[show(x.U+(M:Int)-(x.O+(M:Int))).toNat=(x.U-x.O).toNat by omega,show(x.U+(M:Int)).toNat=U+M by omega];exact j
theorem xJ{b t:Int}{d:List Y}{r:Y}{k:Nat}{z:Y}(h:z∈ND ((MP b d++[(true,0,empty),(false,t,r),(true,0,empty)]).take k)):z∈d\/z=r:=by
 obtain⟨o,f,a,rfl⟩:=tM h;rcases BJ.1 (DE f) with y|y
 ·exact .inl (sI y)
 simp only[DY,EJ,GV]at y
 rcases y with rfl|rfl|rfl
 ·cases a
 ·exact .inr rfl
 cases a
structure MvE(x:Wo)(N n q:Nat)(M T H F:Int)(rs:List Pr)(e:Ev):Prop where
 o:MvO n q M T H F rs
 hc:x.call e=(PM (n:Int) (N:Int) M T H F rs,true)
 hK:e.K≠5/\e.K≠2
 hw:x.ws.length<=99
def SO(n q:Nat)(M T H F:Int)(a:List Pr):List OpT:=MP ((bsN (1-H) q:Nat):Int) (QA n q M F a)++[(true,0,empty),(false,(T+1) % 2,MZ (T+1) (1-H) (F+(q:Int)) M (n:Int)),(true,0,empty)]
theorem sV(n q:Nat)(M T H F:Int)(a:List Pr):(SO n q M T H F a).length=(QA n q M F a).length+3:=by unfold SO;rw[AF,QW];rfl
theorem MvO.eq{M T H F:Int}{a:List Pr}(o:MvO n q M T H F a)(b:hv (N:Int)=(q:Int)):PM (n:Int) (N:Int) M T H F a=⟨0,(n:Int),(N:Int),M,T+1,1-H,F+(q:Int),M,((QA n q M F a).length:Int),0,a,SO n q M T H F a⟩:=by
 have h:=o.hT;have hF:=o.hF;have i:=o.hn;have g:=o.hq;have f:WG (N:Int) T F=true:=by unfold WG;rw[AT,b];omega
 have d:2+(1-H)*hv (N:Int)=((bsN (1-H) q:Nat):Int):=by rw[b];exact(ti (by have:=o.hH;omega) q).symm
 unfold PM;rw[AE f];unfold XD SO QA;rw[d,b,show((n:Int)).toNat=n by omega]
theorem MvE.go{M T H F:Int}{a:List Pr}(v:MvE x N n q M T H F a e)(h:TI x N n q c)(u:c+1<=60):(0<=e.cut/\∃k,x.doE e={ w:=x.w,ss:=MN e.fs (LP ((SO n q M T H F a).take k) (x.ss,x.ws)).1 (LP ((SO n q M T H F a).take k) (x.ss,x.ws)).2,ws:=[],up:=false,W:=0,S:=0,L:=0,T:=0,H:=0,F:=0,R:=0,U:=0,O:=0,rs:=[],P:=x.P,ts:=x.ts++ND ((SO n q M T H F a).take k) }) ∨
  x.doE e={ w:=x.w,ss:=(xhE (QN (bsN (1-H) q) (QA n q M F a)) (xhE x.ws x.ss)).set ((T+1) % 2).toNat (MZ (T+1) (1-H) (F+(q:Int)) M (n:Int)),ws:=[],up:=true,W:=(n:Int),S:=(N:Int),L:=M,T:=T+1,H:=1-H,F:=F+(q:Int),R:=M,U:=((QA n q M F a).length:Int),O:=0,rs:=a,P:=[a],ts:=x.ts++ND (SO n q M T H F a) }:=by
 obtain⟨z,A,B⟩:=VV h.hN h.hq;have o:=v.o.len;have w:=v.o.hr;have s:=v.o.hT;have hF:=v.o.hF;have f:=v.o.hn;have t:=VY (show 1-H=0\/1-H=1 by have:=v.o.hH;omega) q;have r:=h.g.n;have y:=v.hw;have k:=v.o.eq h.hq;have g:=v.hc;rw[k]at g;have m:=h.lim (e:=e) (d:=⟨0,(n:Int),(N:Int),M,T+1,1-H,F+(q:Int),M,((QA n q M F a).length:Int),0,a,SO n q M T H F a⟩) (by simp only[sV];omega);have i:=G7 (ss:=x.ss) (ws:=x.ws) (b:=bsN (1-H) q) (ps:=QA n q M F a) (t:=(T+1) % 2) ω ω (λp b=>(v.o.pg b).1) ω ω v.o.ro.size;rcases ph g rfl v.hK.1 m h.g.d rfl with ⟨j,b⟩|⟨f,b⟩
 ·left
  simp only at b
  have l:∀d,NW x e d=x.P:=λd=>by unfold NW;rw[AG v.hK.2]
  rw[l]at b;exact⟨j,_,b⟩
 right
 simp only at f b;rw[f,AG v.hK.2,CW]at b;have d:LP (SO n q M T H F a) (x.ss,x.ws)=_:=i;rw[d]at b;exact b
theorem MvE.mem{M T H F:Int}{a:List Pr}(v:MvE x N n q M T H F a e)(k:Nat):∀z∈x.ts++ND ((SO n q M T H F a).take k),z∈x.ts\/ZI n q M T H F (1+MJ (MD a) (n:Int)) z:=λz b=>by
 rcases BJ.1 b with y|y
 ·exact .inl y
 rcases xJ y with y|y
 ·exact .inr (v.o.pg y).2
 exact .inr (.inr y)
theorem MvE.tl{M T H F:Int}{a:List Pr}(v:MvE x N n q M T H F a e)(h:TI x N n q c)(k:Nat):(x.ts++ND ((SO n q M T H F a).take k)).length<=x.ts.length+25:=by
 obtain⟨g,i,j⟩:=VV h.hN h.hq;have b:=v.o.len;have f:=v.o.hr;have:=bj ((SO n q M T H F a).take k);rw[AP]at this;have d:=sV n q M T H F a;rw[AF];omega
theorem MvE.cut{M T H F:Int}{a:List Pr}(v:MvE x N n q M T H F a e)(h:TI x N n q c)(k:Nat):mw x.ss x.ws (bsN (1-H) q) (QA n q M F a) ((T+1) % 2).toNat (sec (MN e.fs (LP ((SO n q M T H F a).take k) (x.ss,x.ws)).1 (LP ((SO n q M T H F a).take k) (x.ss,x.ws)).2)):=by
 obtain⟨l,m,o⟩:=VV h.hN h.hq;have d:=v.o.len;have i:=v.o.hr;have g:=VY (show 1-H=0\/1-H=1 by have:=v.o.hH;omega) q;have f:=h.g.n;have j:=v.hw;exact C9 h.g.d ω ω (λp b=>(v.o.pg b).1) ω ω v.o.ro.size k e.fs _ rfl
end
end
end
section
open Tryz
open Go.RowKit nw
section
variable {x:Wo} {N n q:Nat} {c:Int} {e:Ev}
theorem TI.mv(h:TI x N n q c)(i:c+1<=60)(s:TUp x N n q c)(A:e.K=4)(f:RX (x.doE e).ts n q (sec (x.doE e).ss)):TI (x.doE e) N n q (c+1):=by
 have d:=h.g.doE e;obtain⟨K,L,M⟩:=VV h.hN h.hq;obtain⟨O,P,w,Q,R,S,B,T,y⟩:=UD s.st;obtain⟨U,j⟩:=sy s.st;have I:=s.ct;have H:=h.c1;have F:=h.g.n;rw[s.eS,h.hq]at B j;rw[s.eW]at j;have J:=s.tu.tc.lg.hV;have G:=s.tu.wl;have o:MvO n q x.L x.T x.H x.F x.rs:=⟨ω,h.n1,w,ω,ω,s.tu.tc.hH,y,ω⟩
 have v:MvE x N n q x.L x.T x.H x.F x.rs e:=⟨o,by
  unfold Wo.call;rw[AG ω,AG ω,AG ω,AE A,s.up];unfold QX
  rw[AE s.st,s.eW,s.eS],ω,ω⟩
 have l:x.rs∈x.P:=List.mem_of_getLast? s.tu.pl;have E:1<=x.P.length:=List.length_pos_of_mem l;rcases v.go h i with ⟨_,k,g⟩|g
 ·rw[g]at f d⊢
  refine h.dn i d rfl rfl rfl (v.tl h k) (by show x.P.length<=_;omega) h.pr ?_;obtain⟨t,p,m,r,u,z,b,C,D,V,a⟩:=s.tu.mvcut o ω (v.mem k) (v.cut h k) f;exact⟨_,_,_,_,_,_,_,_,_,a,ω,ω,ω⟩
 have u:=v.mem (SO n q x.L x.T x.H x.F x.rs).length
 have t:=v.tl h (SO n q x.L x.T x.H x.F x.rs).length;rw[CW]at u t;have D:=o.len;rw[g]at f d⊢;refine h.upw i d rfl t (by show 1<=_;omega) (λr a=>by rw[BL.1 a];exact h.pr _ l) ?_;have C:=pC (R:=x.R) o (X:=xhE x.ws x.ss) (by rw[VT];omega) (by rw[WH 0 _ _ (s.tu.low ω),WH 1 _ _ (s.tu.low ω)];exact s.tu.rt) s.tu.tc.ro s.tu.tc.la (λz r k m p a b=>by have:=s.tu.nx z r k m p a b;omega) u f;refine⟨rfl,rfl,rfl,(show OB (n:Int) (N:Int) x.L (x.T+1) (1-x.H) (x.F+(q:Int)) x.L ((QA n q x.L x.F x.rs).length:Int) 0 x.rs=true from gw (by have:=h.n1;omega) (by have:=h.hN;omega) w ω ω ω ω (by rw[h.hq];omega) ω y (by rw[h.hq];exact j)),(show x.T+1<=c+1/\x.F+(q:Int)<=1+100*(c+1)/\x.L<=c+1 by omega),?_⟩;simp only[Int.sub_zero,BM];exact C
theorem vI{a:List Y}{i:List (Int×Y)}(h:LE a i=true):LE a []=true:=by
 obtain⟨⟨d,f,j⟩,b,_⟩:=LK h;exact MQ ⟨d,f,σ⟩ b (λx g=>by cases g)
theorem uQ{z:List Y}{P:List (List Pr)}{a:List Y}{L T H F R:Int}{U V:Nat}{E:Nat->Y}{b:List Pr}(t:TD z P n q L T H F R U V E (sec a) b)(s:8<=N/\N<=40)(f:hv (N:Int)=(q:Int))(y:1<=n/\n<=8)(u:LE a []=true)(v:a.length=N)(D:0<=L/\L<=60)(hF:1<=F/\F<=7000)(G:0<=T/\T<=60)(w:MU b=true)(I:MJ (MD b) (n:Int)<=(q:Int)-1):(0<=R/\R<=60000)/\MvO n q (L+1) T H F b/\((U=q/\OP a [] (n:Int)=PM (n:Int) (N:Int) (L+1) T H F b)\/(U<q/\OP a [] (n:Int)=⟨0,(n:Int),(N:Int),L+1,T,H,F,R,(U:Int)+1,0,b,[(false,((bsN H q+U:Nat):Int),MM 3 (L+1) (F+(U:Int)) empty (n:Int)),(true,0,empty)]⟩)):=by
 obtain⟨J,K,M⟩:=VV s f;have g:LE a []=true/\1<=(n:Int)/\(n:Int)<=8:=⟨u,ω,ω⟩;have d:(a.length:Int)=(N:Int):=by rw[v]
 have h:NJ a [] (n:Int)=(T,H,F,R):=by unfold NJ;rw[AE g];exact t.rt
 have k:=br g;rw[h]at k;obtain⟨r,p,C,l⟩:=t.sc
 have o:PB a [] (n:Int)=(r,(U:Int),L):=by
  have i:=sB g;unfold PB at *;rw[h,d,f]at i⊢;unfold TQ;simp only at i⊢;rw[AE i];exact p
 have j:¬hv (a.length:Int)-1<MJ (MD b) (n:Int):=by rw[d,f];omega
 have m:¬60000<L+1:=ω
 have A:=t.lg.hA;have B:=t.lg.hV;refine⟨k.2.2.2,⟨ω,y,ω,ω,ω,t.hH,w,ω⟩,?_⟩
 by_cases i:hv (a.length:Int)<=(U:Int)
 ·left
  rw[jw g h o l m j i,d];rw[d,f]at i;exact⟨ω,rfl⟩
 right
 rw[kf g h o l m j i,d,f,show 2+H*(q:Int)+(U:Int)=((bsN H q+U:Nat):Int) by have:=ti t.hH q;omega];rw[d,f]at i;exact⟨ω,rfl⟩
theorem TI.op(h:TI x N n q c)(C:c+1<=60)(W:x.up=false)(hK:e.K=1)(f:RX (x.doE e).ts n q (sec (x.doE e).ss)):TI (x.doE e) N n q (c+1)/\(e.cut=-1->(x.doE e).up=true/\(x.doE e).rs∈x.P):=by
 have i:=h.g.doE e;obtain⟨q1,q2,q3⟩:=VV h.hN h.hq;have c1:=h.c1;have aN:=h.g.n;have I:=h.n1;rcases h.st with s|⟨_,u,L,T,H,F,R,U,V,E,l,t,hT,hF,hL⟩
 ·have:=s.up;rw[W]at this;cases this
 have O:=vI h.g.d;obtain⟨G,w⟩:=h.pr l t.rp;obtain⟨hR,o,D⟩:=uQ (N:=N) t h.hN h.hq I O h.g.n ω ω ω G w;have aM:1<=x.P.length:=List.length_pos_of_mem t.rp;have A:x.call e=(OP x.ss [] (n:Int),true):=by unfold Wo.call;rw[AE hK,W,u,h.hn];rfl
 rcases D with ⟨B,D⟩|⟨B,D⟩
 ·rw[D]at A
  have v:MvE x N n q (L+1) T H F l e:=⟨o,A,ω,by rw[u];simp⟩;rcases v.go h C with ⟨h0,k,g⟩|g
  ·refine⟨?_,λk=>ω⟩
   rw[g]at f i⊢;refine h.dn C i rfl rfl rfl (v.tl h k) (by show x.P.length<=_;omega) h.pr ?_;have hcut:=v.cut h k;rw[u]at hcut f⊢;obtain⟨r,z,p,j,y,d,J,b,m,K,M,P,a⟩:=t.mvcut B o ω (v.mem k) hcut f;exact⟨_,_,_,_,_,_,_,_,_,a,ω,ω,ω⟩
  have d:=v.mem (SO n q (L+1) T H F l).length
  have K:=v.tl h (SO n q (L+1) T H F l).length;rw[CW]at d K;have M:=o.len;refine⟨?_,λ_=>by rw[g];exact⟨rfl,t.rp⟩⟩;rw[g]at f i⊢;refine h.upw C i rfl K (by show 1<=_;omega) (λr w=>by rw[BL.1 w];exact⟨G,by assumption⟩) ?_;rw[u]at f⊢
  have J:=pC (R:=R) o (X:=x.ss) ω t.rt t.ro t.la (λz j k m p a b=>by
   by_cases d:F+(U:Int)<=m
   ·rcases t.nx z j k m p a b d with y|y<;>omega
   ·omega) d f
  refine⟨rfl,rfl,rfl,(show OB (n:Int) (N:Int) (L+1) (T+1) (1-H) (F+(q:Int)) (L+1) ((QA n q (L+1) F l).length:Int) 0 l=true from gw ω (by have:=h.hN;omega) ω ω ω (by have:=t.hH;omega) ω (by rw[h.hq];omega) ω G (by rw[h.hq];exact w)),(show T+1<=c+1/\F+(q:Int)<=1+100*(c+1)/\L+1<=c+1 by omega),?_⟩;simp only[Int.sub_zero,BM];exact J
 rw[D]at A
 have K:=h.lim (e:=e) (d:=⟨0,(n:Int),(N:Int),L+1,T,H,F,R,(U:Int)+1,0,l,[(false,((bsN H q+U:Nat):Int),MM 3 (L+1) (F+(U:Int)) empty (n:Int)),(true,0,empty)]⟩) σ;have hb:=jd t.hH B;have aK:(MM 3 (L+1) (F+(U:Int)) empty (n:Int)).size=64:=(SA (kw n I (L+1) (F+(U:Int)) ω ω)).1;generalize Q:MM 3 (L+1) (F+(U:Int)) empty (n:Int)=p at A K aK;have M:PL x.ss.length (((bsN H q+U:Nat):Int),p)=true:=by unfold PL;rw[AT];simp only;omega
 have S:∀z∈x.ts++[p],z∈x.ts\/z=MM 3 (L+1) (F+(U:Int)) empty (n:Int):=λz j=>by
  rcases BJ.1 j with y|y
  ·exact .inl y
  rw[Q];exact .inr (BL.1 y)
 have X:LP [(false,((bsN H q+U:Nat):Int),p)] (x.ss,x.ws)=(x.ss,[(((bsN H q+U:Nat):Int),p)]):=by
  rw[u,LP,OX _ _ M σ,LP];rfl
 have v:LP [(false,((bsN H q+U:Nat):Int),p),(true,0,empty)] (x.ss,x.ws)=(x.ss.set (bsN H q+U) p,[]):=by
  rw[u,LP,OX _ _ M σ,LP,MX,LP];simp only[xhE,DW,BM]
 have aE:LE (x.ss.set (bsN H q+U) p) []=true:=by
  have:=ZO [(false,((bsN H q+U:Nat):Int),p),(true,0,empty)] (x.ss,x.ws) h.g.d;rw[v]at this;exact this
 have aI:LE x.ss [(((bsN H q+U:Nat):Int),p)]=true:=by
  have:=ZO [(false,((bsN H q+U:Nat):Int),p)] (x.ss,x.ws) h.g.d;rw[X]at this;exact this
 have lf:=λ(a:Nat->Y) (b:∀j,j≠bsN H q+U->a j=sec x.ss j) (f:RX (x.ts++[p]) n q a)=>t.life (ts':=x.ts++[p]) (D':=a) ω I ω ω B S b f
 have z:∀a:Nat->Y,(∀j,j≠bsN H q+U->a j=sec x.ss j)->RX (x.ts++[p]) n q a->TDn (x.ts++[p]) x.P n q a (c+1):=λa b f=>by
  rcases lf a b f with ⟨_,m,d,y⟩|⟨y,_⟩
  ·exact⟨_,_,_,_,_,_,_,_,_,y,ω,ω,ω⟩
  exact⟨_,_,_,_,_,_,_,_,_,y,ω,ω,ω⟩
 have aD:∀j,j≠bsN H q+U->sec (x.ss.set (bsN H q+U) p) j=sec x.ss j:=λj m=>by rw[kr _ _ _ _ ω,AG m]
 rcases ph A rfl ω K h.g.d rfl with ⟨h0,g⟩|⟨P,g⟩
 ·refine⟨?_,λk=>ω⟩
  have J:∀d,NW x e d=x.P:=λd=>by unfold NW;rw[AG ω]
  rw[J]at g;simp only at g;generalize evN e _=k at g;rw[g]at f i⊢;refine h.dn C i rfl rfl rfl ?_ (by show x.P.length<=_;omega) h.pr ?_
  ·have:=bj (([(false,((bsN H q+U:Nat):Int),p),(true,0,empty)]:List OpT).take k)
   simp only[AF];simp only[AP,CY,AR]at this;omega
  simp only at f⊢
  cases k with
  | zero =>
   rw[ES,LP]at f⊢;rw[show ND []=[] from rfl,DZ]at f⊢;simp only at f⊢;rw[u,nz O];exact⟨_,_,_,_,_,_,_,_,_,t,ω,ω,ω⟩
  | succ k =>
   cases k with
   | zero =>
    rw[EW,ES,X]at f⊢;rw[show ND [((false,((bsN H q+U:Nat):Int),p):OpT)]=[p] from rfl]at f⊢;refine z _ (λj m=>YC aI e.fs j (λy d=>?_)) f;rw[BL.1 d,BM]
    exactλe=>m e.symm
   | succ k =>
    rw[EW,EW,List.take_nil,v]at f⊢;rw[show ND [((false,((bsN H q+U:Nat):Int),p):OpT),(true,0,empty)]=[p] from rfl]at f⊢;simp only at f⊢;rw[nz aE]at f⊢;exact z _ aD f
 refine⟨?_,λ_=>by rw[g];exact⟨rfl,t.rp⟩⟩
 simp only at P;rw[P,AG ω]at g;simp only[CW]at g;rw[v]at g;rw[show ND [((false,((bsN H q+U:Nat):Int),p):OpT),(true,0,empty)]=[p] from rfl]at g;rw[g]at f i⊢;refine h.upw C i rfl σ (by show 1<=_;omega) (λr w=>by rw[BL.1 w];exact⟨G,by assumption⟩) ?_;subst Q;have J:=t.life_up (ts':=x.ts++[MM 3 (L+1) (F+(U:Int)) empty (n:Int)]) ω I ω ω ω B S f;refine⟨rfl,rfl,rfl,(show OB (n:Int) (N:Int) (L+1) T H F R ((U:Int)+1) 0 l=true from gw ω (by have:=h.hN;omega) ω ω hR (by have:=t.hH;omega) ω (by rw[h.hq];omega) ω G (by rw[h.hq];exact w)),(show T<=c+1/\F<=1+100*(c+1)/\L+1<=c+1 by omega),?_⟩;simp only[Int.sub_zero];rw[show((U:Int)+1).toNat=U+1 by omega];exact J
theorem TI.step(h:TI x N n q c)(d:c+1<=60)(e:Ev)(f:RX (x.doE e).ts n q (sec (x.doE e).ss)):TI (x.doE e) N n q (c+1):=by
 by_cases k:e.K=5
 ·exact h.power d k f
 by_cases g:(x.call e).2=false\/(x.call e).1.C≠0
 ·have a:x.doE e=x:=by unfold Wo.doE;rw[AG k,AE g]
  rw[a];exact h.z d
 by_cases l:2000<(PW x e (x.call e).1).length\/200<(NW x e (x.call e).1).length
 ·have a:x.doE e=x:=by unfold Wo.doE;rw[AG k,AG g,AE l]
  rw[a];exact h.z d
 have a:(x.call e).2=true:=by cases i:(x.call e).2 with
  | true=>rfl
  | false=>exact absurd (.inl i) g
 have r:(x.call e).1.C=0:=by by_cases i:(x.call e).1.C=0;exact i;exact absurd (.inr i) g
 have j:e.K≠1->TUp x N n q c:=λb=>by
  rcases h.st with s|⟨m,_⟩
  ·exact s
  unfold Wo.call at a
  rw[AG b,m]at a
  split at a
  ·cases a
  split at a
  ·cases a
  split at a<;>cases a
 by_cases b:e.K=1
 ·refine(h.op d ?_ b f).1
  unfold Wo.call at a;rw[AE b]at a;simpa using a
 by_cases m:e.K=2
 ·exact h.cm d (j b) m r l f
 by_cases o:e.K=3
 ·exact h.fl d (j b) o l f
 by_cases p:e.K=4
 ·exact h.mv d (j b) p f
 unfold Wo.call at a
 rw[AG b,AG m,AG o,AG p]at a
 cases a
theorem TI.found(h:TI x N n q c)(g:RX x.ts n q (sec x.ss)):(OP x.ss [] (n:Int)).C=0/\(OP x.ss [] (n:Int)).rs∈x.P:=by
 obtain⟨p,r,u⟩:=VV h.hN h.hq;have j:=h.c1
 have b:TDn x.ts x.P n q (sec x.ss) c:=by
  rcases h.st with s|⟨_,_,s⟩
  ·obtain⟨l,m,o,v,w,y,z,A,B⟩:=UD s.st
   have f:=s.ct;obtain⟨a,d,t⟩:=s.tu.down (D:=sec x.ss) ω rfl rfl (λi k=>rfl) g;exact⟨_,_,_,_,_,_,_,_,_,t,ω,ω,ω⟩
  exact s
 obtain⟨L,T,H,F,R,U,V,E,i,t,m,hF,k⟩:=b;obtain⟨f,d⟩:=h.pr i t.rp;obtain⟨l,o,a⟩:=uQ (N:=N) t h.hN h.hq h.n1 (vI h.g.d) h.g.n ω ω ω f d;rcases a with ⟨_,a⟩|⟨_,a⟩
 ·rw[a,o.eq h.hq]
  exact⟨rfl,t.rp⟩
 rw[a]
 exact⟨rfl,t.rp⟩
theorem Lx{N n:Nat}(k:8<=N/\N<=40)(m:1<=n/\n<=8):∃q:Nat,TI (LN (N:Int) (n:Int)) N n q 0:=by
 have o:hv (N:Int)=((((N:Int)-2) / 2).toNat:Int):=by unfold hv;rw[AE ω];omega
 have l:(LN (N:Int) (n:Int)).good N:=by have:=wn (n:=(N:Int)) (wd:=(n:Int)) ω;simpa using this
 have b:∀j,MA (sec (LN (N:Int) (n:Int)).ss j) (n:Int)=none:=λj=>by
  show MA (sec (newSS (N:Int)) j) (n:Int)=none;unfold newSS sec;rw[AE ω,List.getD,EM]
  split
  ·exact Kl _
  show MA empty (n:Int)=none
  unfold MA;rw[AG (λh=>by have:=h.2.2.1;simp at this)]
 have f:∀j a,MV (sec (LN (N:Int) (n:Int)).ss j) a (n:Int)=none:=λj a=>by unfold MV;rw[b j]
 have h:MJ (MD []) (n:Int)=0:=rfl
 have d:∀s∈(LN (N:Int) (n:Int)).ts,False:=λs a=>by cases a
 have g:Log (sec (LN (N:Int) (n:Int)).ss) (bsN 0 (((N:Int)-2) / 2).toNat) 1 (n:Int) 0 0 0 []:=rfl;refine⟨_,⟨l,k,o,rfl,m,ω,by show((0:Nat):Int)<=_;omega,by show((1:Nat):Int)<=_;omega,(λr b=>by rw[BL.1 b,h];exact⟨UG,ω⟩),.inr ⟨rfl,rfl,0,0,0,1,0,0,0,sec (LN (N:Int) (n:Int)).ss,[],⟨.inl rfl,?_,LgI.mk1 (AM _) g rfl (BL.2 rfl) (λs a=>(d s a).elim),(λi j=>rfl),⟨[],dy (b _),g,rfl⟩,BL.2 rfl,λs a=>(d s a).elim,λs a=>(d s a).elim,λs a=>(d s a).elim⟩,ω,ω,ω⟩⟩⟩;unfold OC;rw[f,f];rfl
theorem qE(o:NI x=true)(v:x.w=(n:Int))(A:2+2*q<=x.ss.length)(h:TJ x=empty):RX x.ts n q (sec x.ss):=by
 unfold TJ at h;rw[AE o,v]at h
 have u:∀l:List Y,UX (n:Int) x.ts l=empty->∀s∈l,∀y,MA s (n:Int)=some y->s∈x.ts:=by
  intro l
  induction l with
  | nil=>intro _ s g;cases g
  | cons a r w =>
   intro d s g y f
   have t:∀z,MA s (n:Int)=some z->s≠empty:=λz i e=>by
    obtain⟨k,l,m,p⟩:=z;have:=(SA i).1;rw[e]at this;simp at this
   rcases DY.1 g with rfl|j
   ·by_cases b:RW (n:Int) x.ts s=true
    ·rw[im b]at d
     exact absurd d (t y f)
    unfold RW at b
    rw[f]at b;simp at b;exact b
   by_cases b:RW (n:Int) x.ts a=true
   ·rw[im b]at d
    unfold RW at b;rw[AX]at b;obtain⟨z,i⟩:=FW.1 b.1;obtain⟨k,l,m,p⟩:=z;have:=(SA i).1;rw[d]at this;simp at this
   rw[cn (by simpa using b)]at d
   exact w d s j y f
 intro j b y f;have a:j<x.ss.length:=ω
 have e:sec x.ss j=x.ss[j]:=by unfold sec;simp[List.getD,a]
 rw[e]at f⊢;exact u x.ss h _ (GL a) y f
end
end
section
open Tryz
open Go.RowKit
theorem OwL.depN{w:Nb}{o:Nat->Nat}{k:Nat}{a:M6}{c:List Nc}{F:Nat->Prop}(h:OwL w o k a c)(i:k≠0)(hF:∀b,o b≠0->F b):DepF w F (λW=>OwL W o k a c) :=⟨h,λj d f=>h.imp_right λ⟨g,e,r,n⟩=>⟨g,e,MG r (f g (hF g ω) r.lt) (AD r.lt d.size),n⟩⟩
theorem WoG.woF{x:Wo}{w:Nb}{q:Wp}{o:Nat->Nat}{F:Nat->Prop}(h:RE x w q o)(hF:∀b,o b≠0->F b):WoF x w F q :=⟨(h.h1.depN ω hF).map λ_ k=>k.own.strs,(h.h2.depN ω hF).map λ_ k=>k.own.wrs,(h.h3.depN ω hF).map λ_ k=>k.own.prs,
  by
  rcases h.h4 with c|⟨b,e,f,n,g⟩
  ·exact .inl (AC c)
  ·refine .inr ⟨b,0,e,f,hF b ω,λi d=>?_⟩
   obtain⟨m,a,j,l⟩:=g i d
   exact⟨m,a,by rw[BG];exact j,(l.depN ω hF).map λ_ k=>k.own.prs⟩,
  (h.h5.depN ω hF).map λ_ k=>k.own.strs⟩
theorem ik{V w c:Nb}{r:Option Nat}(h:V.grownBy w r)(a:Below w.heap.size w c):V.grownBy c r :=⟨a.os.j h.os,a.tape.j h.tape,a.output.j h.output,AK h.size a.size,λi b d=>(a.block i (AD b h.size)).j (h.block i b d)⟩
theorem Dq{V w d:Nb}{r c:Option Nat}(h:V.grownBy w r)(a:w.grownBy d c)(j:∀g,c=some g->V.heap.size<=g):V.grownBy d r :=⟨a.os.j h.os,a.tape.j h.tape,a.output.j h.output,AK h.size a.size,λi b f=>(a.block i (AD b h.size) (λe=>by have:=j i e.symm;omega)).j (h.block i b f)⟩
theorem PcI.J{B g:Nat}{w d:Nb}{o:Nat->Nat}{v:Nc}{P:List (List Pr)}{j:Nat}{a:List Nc}(h:PcI B w o v P j a)(b:w.grownBy d (some g))(n:g<B):PcI B d o v P j a :=⟨h.own.kept b (.inr (λe=>by have:=(h.own.lt g e).1;omega)),h.lab,h.low,λi m=>by obtain⟨p,c,f,l⟩:=h.ech i m;exact⟨p,c,f,l.only (K:=λk=>k=0) (io b (λx e=>by cases e;exact KH λk=>by have:=h.low g k;omega)) ω⟩⟩
def zX(w a:Nb)(r:Ending)(x:Wo):Prop:=∃q o,r=M3 (MB x q)/\RE x a q o/\(∀b,b<w.heap.size->o b=0)/\Below w.heap.size w a
def yF(V w:Nb)(B:Nat)(b:Nc->List Nc)(P:List (List Pr))(d:Nc):Prop:=∃(j:Nat) (o:Nat->Nat) (c:Nc) (a:List Nc),j<=P.length/\d=.int .i64 (j:Int)/\PcI V.heap.size w o c P j a/\Row w B (b c)/\V.grownBy w (some B)
theorem iw(x:Wo)(q:Wp)(w:Nb)(h:x.at w q)(I:x.ok):Calls prog 33 #[MB x q] w λr l=>zX w l r x:=by
 obtain⟨dL,dM⟩:x.ss.length<=200/\x.ws.length<=300:=by
  rcases I.d with h|⟨R,y⟩
  ·obtain⟨⟨_,y,a⟩,_,_⟩:=LK h;exact⟨y,a⟩
  rw[R,y];simp
 have eC:=I.p.1;have eG:=I.t.1;have eF:=(VC I.s).1;have cJ:Hid (∀j,j<x.P.length->(x.P.getD j []).length<=1048576):=Z (λj hj=>by have:=(VC (I.p.2 (x.P.getD j []) (by simp[List.getD,hj]))).1;omega);have m:DepF w (λb=>b≠w.heap.size+1+1) (λW=>x.at W q):=(RG h (λl a=>h.I a)).z (λb a _=>ω);obtain⟨i0,c,d,e,f⟩:=XF dw;have T:=Z (AH c (AH d (AH e f)));clear c d e f;obtain⟨i1,c,d,e,f⟩:=XF mg;have HJ:=Z (AH c (AH d (AH e f)));clear c d e f;have i:=Z (λl t c=>lc q.a x.ss q.c q.a' x.ws q.c' l t c dL dM);unfold LF at i;unfold MB;clear h I;go_enter func33,ntmps33;go_upto_region 1 with fail;generalize c:w.alloc _=v1;obtain⟨f,C,b0⟩:=LY c;clear c;generalize c:v1.alloc _=v2;obtain⟨d,v,g⟩:=LY c;clear c;rw[C]at g v;have k:=(b0.I d).q;refine BE ?_
 refine AS rfl 36 _ rfl w.heap.size 0 rfl _ _ k.range underlying36 rfl MO ?_;simp only[PS];go_upto_region 2 with fail;generalize c:v2.alloc _=v3;obtain⟨e,D,X⟩:=LY c;clear c;rw[v]at X D;have a:=f.j ((d.j (e.z d.size)).z f.size);have c:Sc w v3 (w.heap.size+1+1) (wL x q) _:=⟨⟨a.os,a.tape,a.output,a.size,λb R _=>a.block b R⟩,X.q,(((m.I f).I d).I e).and ((LZ (k.I e) ω).and (LZ (g.I e).q ω))⟩;have l3:w.heap.size+1+1<v3.heap.size:=c.r.lt;clear a f d e b0 g X C v D m k;have a:=c.m.q.2.1.y 1;have d:=c.m.q.2.1.y 2;have J:=c.m.q.2.1.lt;go_wp2_with fail;clear a d J;refine(i.l _ c.m.q.1.h1 c.m.q.1.h2).z ?_;rintro r v4 ⟨n,t,s,A,rfl,d,f,m,a⟩
 have uA:=λg k=>VL (g:=g) d.s (λe H=>e (uE H)) k
 have uB:=λg k=>VL (g:=g) d.p (λe H=>e (zj H)) k
 have dN:=d.ne;have l4:=a.size
 have gA:∀g,blk (Mw n 0) x.ss.length=some g->w.heap.size+1+1<g:=λg k=>by have:=f g k;omega
 have gB:∀g,blk (Mw s 0) x.ws.length=some g->w.heap.size+1+1<g:=λg k=>by have:=m g k;omega
 replace c:=(c.I a).add ((VD d.s VE (lo:=w.heap.size+1+1+1) (λg k=>gA g k) (SB:=w.heap.size+1+1) ω).and (VD d.p ac (lo:=w.heap.size+1+1+1) (λg k=>gB g k) (SB:=w.heap.size+1+1) ω));clear i a d f m;have a:=c.r.y 1;have d:=c.r.y 2;have e:=c.r.A 1;have i:=c.r.A 2;have f:=c.r.lt;go_upto_region 3 with fail;clear a e d i f;replace c:=(c.set 1 σ (.slice (Mw n 0) x.ss.length t)).set 2 σ (.slice (Mw s 0) x.ws.length A);have z5:((v4.setCell ⟨w.heap.size+1+1,1,none⟩ (.slice (Mw n 0) x.ss.length t)).setCell ⟨w.heap.size+1+1,2,none⟩ (.slice (Mw s 0) x.ws.length A)).heap.size=v4.heap.size:=by rw[BH,BH]
 generalize a:World.setCell (World.setCell _ _ _) _ _=v5 at c z5⊢;clear a;have d:=Z (gm q.s x.rs q.cs v5 c.m.q.1.1.h3 ω);unfold MH at d;have a:=c.m.q.1.2.1.y 13;have J:=c.m.q.1.2.1.lt;go_wp2_with fail;clear a J;refine d.l.z ?_;rintro r v6 ⟨o,B,rfl,i,e,f,a⟩;unfold MH;have eI:=a.size
 have gC:∀g,blk o x.rs.length=some g->v4.heap.size<=g:=λg k=>by have:=f g k;omega
 have uC:=λg k=>VL (g:=g) e an k
 replace c:=(c.I a).add (VD e SM f (SB:=w.heap.size+1+1) ω);clear d a e f i;have a:=c.r.y 13;have O:=c.r.y 14;have d:=c.r.A 13;have m:=c.r.A 14;have f:=c.r.lt;go_wp2_with fail;clear a d O m f;have d:=(c.set 13 σ (.slice o x.rs.length B)).set 14 σ (.slice (Mw v6.heap.size 0) 0 0);have z7:((v6.setCell ⟨w.heap.size+1+1,13,none⟩ (.slice o x.rs.length B)).setCell ⟨w.heap.size+1+1,14,none⟩ (.slice (Mw v6.heap.size 0) 0 0)).heap.size=v6.heap.size:=by rw[BH,BH]
 generalize a:World.setCell (World.setCell _ _ _) _ _=V at d z7⊢;rw[<-z7]at d⊢;clear a c;have lV:w.heap.size+1+1<V.heap.size:=d.r.lt;have HM:=Z (λW (g:V.grownBy W (some (w.heap.size+1+1)))=>((d.m.z (G:=λb=>b≠w.heap.size+1+1/\b<V.heap.size) (λb a k=>⟨k,a⟩)).step (NR g (AM _) (λ_ _=>AM _)) (λb k _=>g.block b k.2 (λe=>k.1 (by injection e)))).q);have L:=d.e;go_loopw [4] (λc wr=>yF V wr (w.heap.size+1+1) (λK=>[.int .i64 x.w,.slice (Mw n 0) x.ss.length t,.slice (Mw s 0) x.ws.length A,M0 x.up,.int .i64 x.W,.int .i64 x.S,.int .i64 x.L,.int .i64 x.T,.int .i64 x.H,.int .i64 x.F,.int .i64 x.R,.int .i64 x.U,.int .i64 x.O,.slice o x.rs.length B,K,.slice q.t x.ts.length q.ct]) x.P c) (λc _=>x.P.length-(intOf c).toNat)
 case atStart =>
  refine⟨0,λb=>if b=V.heap.size then 5 else 0,_,[],AM _,rfl,⟨DT (w:=V) (e:=31) (size:=1) #[] 0 (AA _) σ σ,λg e=>by(cases e;simp),λb e=>?_,λi c=>ω⟩,d.r.I (LO _ _),World.grownBy_alloc _ _ _⟩
  by_cases a:b=V.heap.size
  ·omega
  exact absurd (AG a) e
 case round =>
  clear d;obtain⟨j,oj,K,S,hj,rfl,bI,c,d⟩:=hrel;have M:=HM.l wr d;have eJ:=d.size;have cI:=M.1.1.2.1.y 14;have J:=M.1.1.2.1.lt
  by_cases bW:j<x.P.length
  ·have cZ:(j:Int)<(x.P.length:Int):=ω
   have eB:(0:Int)<=(j:Int):=ω
   have eH:IntKind.i64.wrap ((j:Int)+1)=((j+1:Nat):Int):=by rw[jn _ ω ω];omega
   obtain⟨b,ob,p,cp,m,cE,f,HS⟩:=M.1.1.1.h4.at bW;obtain⟨X,_,_,_,H,dV,_,_⟩:=(HM.l V (BY _ _)).1.1.1.h4.at bW;rw[m]at H
   cases H
   have HQ:=Z m;have cC:=cJ.l j bW;obtain⟨E,b7⟩:∃y,Hid (y=x.P.getD j []):=⟨_,Z rfl⟩;rw[<-b7.l]at f HS cC;have bE:Hid (∀W,V.grownBy W (some (w.heap.size+1+1))->Row W w.heap.size (wL x q)):=Z (λW g=>(HM.l W g).1.1.2.1);go_upto_region 8 with fail;clear cI J M m;refine VS (11) (S:=λl=>Row l w.heap.size (wL x q)/\Row l (w.heap.size+1+1) [.int .i64 x.w,.slice (Mw n 0) x.ss.length t,.slice (Mw s 0) x.ws.length A,M0 x.up,.int .i64 x.W,.int .i64 x.S,.int .i64 x.L,.int .i64 x.T,.int .i64 x.H,.int .i64 x.F,.int .i64 x.R,.int .i64 x.U,.int .i64 x.O,.slice o x.rs.length B,K,.slice q.t x.ts.length q.ct]/\l.cell? ⟨b,ob+j,none⟩=some (.slice p E.length cp)) κ (⟨bE.l _ (ik d (AB _ _).drew),c.I (AB _ _).drew,OK (AB wr.heap.size wr).drew f (by show b<_;exact cE)⟩) (λF=>?_);refine OZ 0 (Mv (w.heap.size+1+1) 14) rfl (BO ⟨ρ,λw z=>by obtain⟨C,v,D⟩:=z;have l:=v.lt;go_simp⟩) F (OZ 1 (K) rfl (BO ⟨ρ,λw z=>by obtain⟨C,v,D⟩:=z;have O:=v.y 14;go_simp⟩) F (OZ 2 (Mv w.heap.size 14) rfl (BO ⟨ρ,λw z=>by obtain⟨C,v,D⟩:=z;have l:=C.lt;go_simp⟩) F (OZ 3 (.slice q.p x.P.length q.cp) rfl (BO ⟨ρ,λw z=>by obtain⟨C,v,D⟩:=z;have O:=C.y 14;go_simp⟩) F (NN 4 (.int .i64 (j:Int)) rfl F (OZ 5 (Mv b (ob+j)) rfl (BO ⟨ρ,λw z=>by obtain⟨C,v,D⟩:=z;have hq:=HQ.l;have l:=DM _ _ D;rw[hq];go_simp⟩) F (NN 6 (.agg #[.slice p E.length cp]) rfl F ?_))))))
   simp only[PS];refine PH 7 rfl (λKq G=>?_);have u:Below wr.heap.size wr wr.drew:=(AB _ _).drew;replace d:=ik d u;replace c:=c.I u;replace f:=OK u f (by show b<_;exact cE);have N:=HS.l.I u;have Q:=bI.I u;generalize m:wr.drew=y0 at d c f N Q u⊢;clear m;refine LW ρ _ _ γ (gm p E cp y0 N cC) ?_;rintro r y1 ⟨U,c6,rfl,dZ,P,g6,a⟩;refine⟨_,rfl,?_⟩;unfold MH;have l0:=u.size;have l1:=a.size;have m:=a;replace d:=ik d a;replace c:=c.I a;replace f:=OK a f (by show b<_;omega);clear a u N;refine G.l _ _ (⟨bE.l _ d,c,f⟩) (λcT=>?_)
   try simp only[PS]
   refine PH 8 rfl (λKq G=>?_);go_simp;obtain⟨y2,N⟩:∃y,y=y1.alloc (.cells #[.slice U E.length c6] 31):=⟨_,rfl⟩;have a:=LO y1 (.cells #[.slice U E.length c6] 31);have rG:=MT y1 #[.slice U E.length c6] 31;rw[<-N]at a rG⊢;obtain⟨GB,u⟩:∃y,y=y1.heap.size:=⟨_,rfl⟩;rw[<-u]at rG⊢;have l2:=a.size;replace d:=ik d a;replace c:=c.I a;replace f:=OK a f (by show b<_;omega);have P:=P.I a;replace m:=m.j (a.z l1);clear N u a;refine G.l _ _ (⟨bE.l _ d,c,f⟩) (λcU=>?_)
   try simp only[PS]
   refine PH 9 rfl (λKq G=>?_);refine SI _ rfl _ _ 34 rfl V.heap.size underlying34 HJ.l rfl ω K j S rfl (NC Q.own m) ⟨GB,0,none⟩ 1 1 [.slice U E.length c6] rfl rfl (λj u hu=>by rw[fg];exact rG.cell j u hu) (by intro u hu;simp at hu;subst hu;rfl) ω y2.heap.size rfl ?_;intro g9 aL y3 aH N aR dH
   have bH:∀W,K.ownBlock=some W->V.heap.size<=W:=λW k=>(Q.own.lt W k).1
   rw[b7.l]at aH P g6;obtain⟨o9,W⟩:=Q.push ω m P g6 aH N aR;replace d:=Dq d N bH;replace c:=c.J N (λe=>by have:=bH _ e.symm;omega);replace f:=(DH (a:=⟨b,ob+j,none⟩) (N.block b ω (λe=>by have:=bH _ e.symm;omega))).j f;clear aH N aR Q m rG P g6 bH;refine G.l _ _ (⟨bE.l _ d,c,f⟩) (λN=>?_)
   try simp only[PS]
   refine OZ 10 (Mv (w.heap.size+1+1) 14) rfl (BO ⟨ρ,λw z=>by obtain⟨C,v,D⟩:=z;have l:=v.lt;go_simp⟩) N ?_;simp only[PS];refine RT (rs:=[11]) κ σ ?_;refine AllReadyT.last rfl (λKq G=>?_);have O:=c.y 14;have m:=c.A 14;go_simp;clear O m;refine G.l _ _ trivial (λ_=>?_)
   try simp only[PS]
   refine UY κ ?_ _;have m:=QC (BY y3 (some (w.heap.size+1+1))) 14 (.slice (Mw g9 0) (j+1) aL);have z:=Z (AH (W.J m ω) (AH (c.set 14 σ (.slice (Mw g9 0) (j+1) aL)) (QG d m)));generalize World.setCell _ _ _=O at z⊢;clear W c d f m;go_wp2;exact⟨⟨j+1,o9,_,_,ω,ν,z.l.1,z.l.2.1,z.l.2.2⟩,by simp[intOf];omega⟩
  obtain rfl:j=x.P.length:=ω
  obtain⟨l,pc,rfl⟩:=ij bI.own;have u:=M.1.1.1.h5;obtain⟨C,z⟩:∃y,Hid (y=λb=>if V.heap.size<=b then (if b<wr.heap.size then oj b else 4) else if blk (Mw n 0) x.ss.length=some b then 1 else if blk (Mw s 0) x.ws.length=some b then 2 else if blk o x.rs.length=some b then 3 else 0):=⟨_,Z rfl⟩
  have hF:∀b,b<=w.heap.size+1+1->C b=0:=λb a=>by rw[z.l];simp only[];rw[AG ω,AG (λe=>by have:=gA b e;omega),AG (λe=>by have:=gB b e;omega),AG (λe=>by have:=gC b e;omega)]
  have m:XJ wr C l x.P:=bI.pso (λb R y=>by rw[z.l];simp only[];rw[AE R,AE y]);have f:WoG (x.ss.map Value.string) (NP x.ws) (MC x.rs) x.P.length (λi=>x.P.getD i []) [] wr ⟨Mw n 0,t,Mw s 0,A,o,B,l,pc,none,0⟩ C:=⟨TW M.1.2.1 VE (lo:=0) (λ_ _=>AM _) (λg k=>?_),TW M.1.2.2 ac (lo:=0) (λ_ _=>AM _) (λg k=>?_),TW M.2 SM (lo:=0) (λ_ _=>AM _) (λg k=>?_),m,.inl rfl⟩
  rotate_left
  ·rw[z.l];simp only[];rw[AG (by have:=uA g k;omega),AE k]
  ·rw[z.l];simp only[];rw[AG (by have:=uB g k;omega),AG (λe=>by rcases dN with h|h|h;rw[h]at e;cases e;rw[h]at k;cases k;exact h (e.j k.symm)),AE k]
  ·rw[z.l];simp only[];rw[AG (by have:=uC g k;omega),AG (λe=>by have:=uA g e;have:=gC g k;omega),AG (λe=>by have:=uB g e;have:=gC g k;omega),AE k]
  have p:=M.1.1.2.2;have G:=M.1.1.2.1.y 15;have v:=Z c;have P:=Z u;have N:=Z f;have O:=Z p;have Q:w.heap.size+1+1<wr.heap.size:=c.lt;clear c u f p M m bI;go_upto_region 10 with (at_builtin;refine oI rfl _ _ 23 rfl 9 i0 (Mz empty) 1 16 underlying23 T.l.1 T.l.2.1 T.l.2.2.1 T.l.2.2.2 rfl wr.heap.size wr.heap.size rfl (DT _ #[] 0 (AA _) σ σ) _ rfl x.ts.length _ (fh (P.l.I (LO _ _)) _ _ underlying23 q.ct) ω ω σ ?_;intro i k M c F p;have m:=(LO wr (.cells #[] 9)).j (p.z σ);have u:=(v.l.I m).y 15;have E:=(v.l.I m).A 15;have f:=(v.l.I m).lt;have D:=Z c;clear p c F);clear u E f cI G J;have G:=QC (BY M (some (w.heap.size+1+1))) 15 (.slice (Mw i 0) x.ts.length k)
  have c:=(v.l.I m).set 15 σ (.slice (Mw i 0) x.ts.length k);have p:=(O.l.I m).J G (λe=>by injection e;omega);have u:=(N.l.I m).J G (hF _ ω);have J:wr.heap.size<=i:=iq D.l;have E:=(TE D.l).J G (λe=>by injection e;omega);have f:=(ik d m);replace f:=QG f G;generalize World.setCell _ _ _=F at G c p u E f⊢;clear v O N P D m G d;have D:RE x F ⟨Mw n 0,t,Mw s 0,A,o,B,l,pc,Mw i 0,k⟩ C:=⟨u.h1,u.h2,u.h3,u.h4,.inr ⟨i,rfl,E,by rw[z.l];simp only[];rw[AE ω,AG ω]⟩⟩;refine BE ?_;refine AS rfl 36 _ rfl (w.heap.size+1+1) 0 rfl _ _ c.range underlying36 rfl MO ?_;simp only[PS];refine BI rfl 36 _ _ rfl (w.heap.size+1) 0 #[.int .i64 x.w,.slice (Mw n 0) x.ss.length t,.slice (Mw s 0) x.ws.length A,M0 x.up,.int .i64 x.W,.int .i64 x.S,.int .i64 x.L,.int .i64 x.T,.int .i64 x.H,.int .i64 x.F,.int .i64 x.R,.int .i64 x.U,.int .i64 x.O,.slice o x.rs.length B,.slice l x.P.length pc,.slice (Mw i 0) x.ts.length k] rfl rfl (p.there rfl) MO κ ?_
  try simp only[PS]
  have d:=LG F (w.heap.size+1) 0 [.int .i64 x.w,.slice (Mw n 0) x.ss.length t,.slice (Mw s 0) x.ws.length A,M0 x.up,.int .i64 x.W,.int .i64 x.S,.int .i64 x.L,.int .i64 x.T,.int .i64 x.H,.int .i64 x.F,.int .i64 x.R,.int .i64 x.U,.int .i64 x.O,.slice o x.rs.length B,.slice l x.P.length pc,.slice (Mw i 0) x.ts.length k];have G:=p.sets [.int .i64 x.w,.slice (Mw n 0) x.ss.length t,.slice (Mw s 0) x.ws.length A,M0 x.up,.int .i64 x.W,.int .i64 x.S,.int .i64 x.L,.int .i64 x.T,.int .i64 x.H,.int .i64 x.F,.int .i64 x.R,.int .i64 x.U,.int .i64 x.O,.slice o x.rs.length B,.slice l x.P.length pc,.slice (Mw i 0) x.ts.length k] rfl;have m:=D.J d (hF _ ω);have v:Below w.heap.size w (F.setCells (w.heap.size+1) 0 [.int .i64 x.w,.slice (Mw n 0) x.ss.length t,.slice (Mw s 0) x.ws.length A,M0 x.up,.int .i64 x.W,.int .i64 x.S,.int .i64 x.L,.int .i64 x.T,.int .i64 x.H,.int .i64 x.F,.int .i64 x.R,.int .i64 x.U,.int .i64 x.O,.slice o x.rs.length B,.slice l x.P.length pc,.slice (Mw i 0) x.ts.length k]):=⟨d.os.j (f.os.j L.os),d.tape.j (f.tape.j L.tape),d.output.j (f.output.j L.output),AK L.size (AK f.size d.size),λb a=>(d.block b (by have:=f.size;omega) (λe=>by injection e;omega)).j ((f.block b ω (λe=>by injection e;omega)).j (L.block b a (λe=>by injection e;omega)))⟩
  generalize World.setCells _ _ _ _=N at G m v⊢;have e:=Z m;clear D u m d c p E f
  try go_wp2
  exact LV 2 36 results33 _ rfl [.int .i64 x.w,.slice (Mw n 0) x.ss.length t,.slice (Mw s 0) x.ws.length A,M0 x.up,.int .i64 x.W,.int .i64 x.S,.int .i64 x.L,.int .i64 x.T,.int .i64 x.H,.int .i64 x.F,.int .i64 x.R,.int .i64 x.U,.int .i64 x.O,.slice o x.rs.length B,.slice l x.P.length pc,.slice (Mw i 0) x.ts.length k] _ G underlying36 rfl MO rfl ⟨_,C,rfl,e.l,λb a=>hF b ω,v⟩
