import Derived.Test.YthcfgbpailnahaaGreatDoorPrG32
import Derived.Test.YthcfgbpailnahaaGreatDoorPrWoF
set_option maxHeartbeats 32000000
set_option maxRecDepth 8000
set_option linter.all false
namespace Go.Proofs.YthcfgbpailnahaaGreatDoor
section
open Tryz
open Go.RowKit
variable {news:List Value}{B:Nat}{F:Nat->Prop}{v:Value}{w w':World}
structure PcI(B:Nat)(w:World)(o:Nat->Nat)(v:Value)(P:List (List Pr))(j:Nat)(news:List Value):Prop where
 own:w.ownsRow B 48 1 v j news
 lab:∀g,v.ownBlock=some g->o g=5
 low:∀b,o b≠0->B<=b
 ech:∀i,i<j->∃p c,news[i]?=some (.slice p (P.getD i []).length c)/\OwL w o (7+i) p (LI (P.getD i []))
theorem PcI.I{o:Nat->Nat}{P:List (List Pr)}{j:Nat}(h:PcI B w o v P j news)(hb:Below w.heap.size w w'):PcI B w' o v P j news :=⟨LY h.own hb,h.lab,h.low,λi hi=>by obtain⟨p,c,h1,h2⟩:=h.ech i hi;exact⟨p,c,h1,h2.only (K:=λ_=>False) (XP hb) id⟩⟩
theorem PcI.push{g cap:Nat}{W:World}{o:Nat->Nat}{P:List (List Pr)}{j:Nat}{a:Option Addr}{c:Nat}(h:PcI B w o v P j news)(hB:B<=w.heap.size)(hb:Below w.heap.size w W)(ho:OwnS W a (LI (P.getD j [])))(hg:∀g,blk a (P.getD j []).length=some g->w.heap.size<=g)
  (own:w'.ownsRow B 48 1 (.slice (some ⟨g,0,none⟩) (j+1) cap) (j+1) (news++[.slice a (P.getD j []).length c]))(aA:W.grownBy w' v.ownBlock)(aB:v.ownBlock=some g\/g=W.heap.size):∃o',PcI B w' o' (.slice (some ⟨g,0,none⟩) (j+1) cap) P (j+1) (news++[.slice a (P.getD j []).length c]):=by
 have hs:=hb.size
 have aD:=λb k=>TF (g:=b) ho YE k
 have hv:∀b,v.ownBlock=some b->b<w.heap.size:=λb k=>(h.own.lt b k).2
 refine⟨λb=>if b<w.heap.size then o b else if blk a (P.getD j []).length=some b then 7+j else if b=W.heap.size then 5 else 0,own,λx e=>?_,λb=>?_,λi hi=>?_⟩
 ·cases e
  rcases aB with k|k
  ·exact(AK (hv g k)).j (h.lab g k)
  show(if g<w.heap.size then o g else if blk a (P.getD j []).length=some g then 7+j else if g=W.heap.size then 5 else 0)=5
  rw[AE (by omega),AE (λe=>by have:=aD g e;omega),AK k]
 ·show(if b<w.heap.size then o b else if blk a (P.getD j []).length=some b then 7+j else if b=W.heap.size then 5 else 0)≠0->B<=b
  by_cases h1:b<w.heap.size
  ·rw[AK h1];exact h.low b
  exactλ_=>by omega
 have ag:∀b,b<w.heap.size->(λb=>if b<w.heap.size then o b else if blk a (P.getD j []).length=some b then 7+j else if b=W.heap.size then 5 else 0) b=o b:=λb hb=>AK hb
 have hO:Only (λb=>if b<w.heap.size then o b else if blk a (P.getD j []).length=some b then 7+j else if b=W.heap.size then 5 else 0) (λk=>k=5) W w':=VH aA (λx e=>(ag x (hv x e)).j (h.lab x e));have aE:news.length=j:=by rw[h.own.1,IP]
 by_cases aC:i<j
 ·obtain⟨p',c',k1,k2⟩:=h.ech i aC
  exact⟨p',c',by rw[AX (by omega)];exact k1,((k2.lab ag).only (K:=λ_=>False) (XP hb) id).only hO (by omega)⟩
 obtain rfl:i=j:=by omega
 refine⟨a,c,by rw[CJ (by omega),aE];simp,(RJ ho QG hg (λx k=>?_)).only hO (by omega)⟩;show(if x<w.heap.size then o x else if blk a (P.getD i []).length=some x then 7+i else if x=W.heap.size then 5 else 0)=7+i;rw[AE (by have:=hg x k;omega),AK k]
theorem PcI.pso{o o':Nat->Nat}{p:Option Addr}{c:Nat}{P:List (List Pr)}(h:PcI B w o (.slice p P.length c) P P.length news)(ho:∀b,B<=b->b<w.heap.size->o' b=o b):UY w o' p P:=by
 by_cases h0:P.length=0
 ·exact .inl h0
 obtain⟨g,cap,e,aB,aA⟩:=h.own.form (by omega)
 injection e with e1 _ e3;subst e1 e3;refine .inr ⟨g,rfl,aA,(ho g aB aA).j (h.lab g rfl),λi hi=>?_⟩;obtain⟨p',c',k1,k2⟩:=h.ech i hi;exact⟨p',c',(RW h.own).cell i _ k1,k2.imp_right λ⟨x,e,r,n⟩=>⟨x,e,r,(ho x (h.low x (by omega)) r.lt).j n⟩⟩
def uM(w w':World)(r:Ending)(x:Wo):Prop:=∃q o news,r=.returned (MD x q)/\OO x w' q o/\x.rs.length<=q.cs/\w'.ownsRow w.heap.size 48 1 (.slice q.p x.P.length q.cp) x.P.length news/\(∀b,b<w.heap.size->o b=0)/\Below w.heap.size w w'
def sV(V w:World)(pv iv:Value)(P:List (List Pr)):Prop:=∃(j:Nat) (o:Nat->Nat) (news:List Value),j<=P.length/\iv=.int .i64 (j:Int)/\PcI V.heap.size w o pv P j news/\Below V.heap.size V w
theorem Ds(x:Wo)(q:Wp)(w:World)(h:x.at w q)(cQ:LS x.ss x.ws=true)(ho:x.ok):Calls prog 31 #[MD x q] w λr w'=>uM w w' r x:=by
 obtain⟨⟨dF,cN,cO⟩,cE,hw⟩:=OZ cQ;have hm:=ho.le;have dQ:=ho.p.1;have dV:=ho.t.1;have dR:=(SG ho.s).1;have cU:Hid (∀j,j<x.P.length->(x.P.getD j []).length<=1048576):=LE (λj hj=>by have:=(SG (ho.p.2 (x.P.getD j []) (by simp[List.getD,hj]))).1;omega);have CD:=LE (λw' k1 k2=>aw q.a x.ss q.c q.a' x.ws q.c' w' k1 k2 cN cO (λs hs=>by have:=cE s hs;omega) (λy hy=>by have:=AZ (hw y hy);omega));unfold LN at CD;have bP:=LE (dy (ws:=x.ws) λy hy=>by have:=AZ (hw y hy);omega);have cA:DepF w (λb=>b≠w.heap.size) (λW=>x.at W q):=(ei h (λw' hb=>h.I hb)).i (λb hb _=>by omega);obtain⟨i0,aK,aM,aN,aO⟩:=VG ZH;have HI:=LE (AG aK (AG aM (AG aN aO)));clear aK aM aN aO;obtain⟨i1,aK,aM,aN,aO⟩:=VG gy;have HJ:=LE (AG aK (AG aM (AG aN aO)));clear aK aM aN aO;unfold MD;clear h cQ dF cE hw hm ho;go_enter func31,ntmps31
 go_upto_region 1 with fail;generalize aH:w.alloc _=v1;obtain⟨aS,aP,b2⟩:=LJ aH;clear aH;generalize aI:v1.alloc _=v2;obtain⟨aT,aQ,b3⟩:=LJ aI;clear aI;rw[aP]at b3 aQ;have hb:=aS.j (aT.i aS.size);have S0:Sc w v2 w.heap.size (wL x q) _:=⟨⟨hb.os,hb.tape,hb.output,hb.size,λb h1 _=>hb.block b h1⟩,(b2.I aT).l,((cA.I aS).I aT).and (QI b3.l (by omega))⟩;clear hb aS aT b2 b3 aP aQ cA;have c1:=S0.r.x 1;have c2:=S0.r.x 2;have cl:=S0.r.lt;go_wp2_with fail;clear c1 c2 cl;refine(CD.o _ S0.m.l.1.h1 S0.m.l.1.h2).i ?_;rintro r v3 ⟨g,v,rfl,pr,own,lg,hb⟩;replace S0:=S0.I hb;have l3:=hb.size;obtain⟨a2,c2,rfl⟩:=cj own;have cL:=(xa own).1.hld bP.o;clear CD hb;go_wp2_with fail;have CK:=ny (some ⟨g,0,none⟩) (x.ss.map LF) x.ss.length x.ss.length a2 (LP x.ws) x.ws.length c2 (by simp) (PL _) v3 pr.plt cL cN cO pr.len bP.o;rw[tf,vw]at CK;unfold LN at CK;refine CK.i ?_
 rintro r v4 ⟨a1,k1,aA,aC,rfl,aF,g1,g2,hb⟩;have lw:=S0.e.size;have l4:w.heap.size+1<v4.heap.size:=(S0.I hb).m.l.2.lt
 have gA:∀g,blk a1 x.ss.length=some g->w.heap.size+1<g:=λg k=>by have:=g1 g k;have:=S0.m.l.2.lt;omega
 have gB:∀g,blk aA x.ws.length=some g->w.heap.size+1<g:=λg k=>by have:=g2 g k;have:=S0.m.l.2.lt;omega
 have uA:=λg k=>TF (g:=g) aF.s (λe1 e2=>e1 (YF e2)) k
 have uB:=λg k=>TF (g:=g) aF.p (λe1 e2=>e1 (aa e2)) k
 have dH:=aF.ne;replace S0:=(S0.I hb).add ((TA aF.s TC (λg k=>LC (gA g k)) (SB:=w.heap.size) (by omega)).and (TA aF.p VS (λg k=>LC (gB g k)) (SB:=w.heap.size) (by omega)));clear CK hb aF own pr cL lg g1 g2;have c1:=S0.r.x 1;have c2:=S0.r.x 2;have f1:=S0.r.q 1;have f2:=S0.r.q 2;have cl:=S0.r.lt;go_upto_region 2 with fail;clear c1 f1 c2 f2 cl;replace S0:=(S0.set 1 (by simp) (.slice a1 x.ss.length k1)).set 2 (by simp) (.slice aA x.ws.length aC);have z5:((v4.setCell ⟨w.heap.size,1,none⟩ (.slice a1 x.ss.length k1)).setCell ⟨w.heap.size,2,none⟩ (.slice aA x.ws.length aC)).heap.size=v4.heap.size:=by rw[AV,AV]
 generalize aY:World.setCell (World.setCell _ _ _) _ _=v5 at S0 z5⊢;clear aY;have CC:=LE (XF q.s x.rs q.cs v5 S0.m.l.1.1.h3 (by omega));unfold LR at CC;have aW:=S0.r.x 13;have bC:=S0.r.q 13;have cl:=S0.r.lt;go_wp2_with fail;clear aW bC cl;refine CC.o.i ?_;rintro r v6 ⟨a5,c5,rfl,cX,bF,g5,hb⟩;unfold LR;have eB:=hb.size
 have gC:∀g,blk a5 x.rs.length=some g->v4.heap.size<=g:=λg k=>by have:=g5 g k;omega
 have uC:=λg k=>TF (g:=g) bF YE k
 replace S0:=(S0.I hb).add (TA bF QG g5 (SB:=w.heap.size) (by have:=S0.r.lt;omega));clear CC hb bF g5;have aW:=S0.r.x 13;have aX:=S0.r.x 14;have bC:=S0.r.q 13;have bE:=S0.r.q 14;have cl:=S0.r.lt;go_wp2_with fail;clear aW bC aX bE cl;have eE:=S0.e.size;replace S0:=S0.set 13 (by simp) (.slice a5 x.rs.length c5);have z7:(v6.setCell ⟨w.heap.size,13,none⟩ (.slice a5 x.rs.length c5)).heap.size=v6.heap.size:=AV _ _ _;generalize cW:World.setCell _ _ _=V at S0 z7⊢;clear cW;go_loopw [3,20] (λpv iv wr=>sV V wr pv iv x.P) (λ_ iv _=>x.P.length-(intOf iv).toNat)
 case atStart=>exact⟨0,λ_=>0,[],AH _,rfl,⟨BZ _ _ _ _,λg e=>by(cases e),λb e=>absurd rfl e,λi hi=>by omega⟩,AB _ _⟩
 case round =>
  rename Value=>pv
  obtain⟨j,oj,news,hj,rfl,aG,hB⟩:=hrel;have S1:=S0.I hB;have bI:=hB.size
  by_cases cM:j<x.P.length
  ·have cZ:(j:Int)<(x.P.length:Int):=by omega
   have dP:(0:Int)<=(j:Int):=by omega
   have dZ:IntKind.i64.wrap ((j:Int)+1)=((j+1:Nat):Int):=by rw[dx _ (by omega) (by omega)];omega
   obtain⟨b,ob,p,cp,cB,dN,aD,HS⟩:=S1.m.l.1.1.1.h4.at cM;rw[cB];clear cB S0 S1;have cF:=cU.o j cM;obtain⟨RS,bT⟩:∃y,Hid (y=x.P.getD j []):=⟨_,LE rfl⟩;have aV:=LE aG;have cT:=LE hB;rw[<-bT.o]at aD HS cF;clear aG hB;have CC:=LE (XF p RS cp (wr.alloc (.cells #[.slice p RS.length cp] 48)) (HS.o.I (LG _ _)) cF);unfold LR at CC;go_wp2_with fail;refine CC.o.i ?_;rintro r w1 ⟨a6,c6,rfl,cY,cP,g6,cH⟩;unfold LR;have aR:=LE ((LG wr (.cells #[.slice p RS.length cp] 48)).j (cH.i (by simp)));have H6:=LE cP;have bJ:Hid (∀g,blk a6 RS.length=some g->wr.heap.size<=g):=LE (λg k=>by have:=g6 g k;simp at this;omega);have dM:=aR.o.size;clear CC cY cP g6 cH aD HS;go_wp2_with (at_builtin;refine PU _ rfl _ _ 51 rfl V.heap.size underlying51 HJ.o rfl (by omega) _ j _ rfl ((LY aV.o.own aR.o).alloc _) ⟨w1.heap.size,0,none⟩ 1 1 [.slice a6 RS.length c6] rfl rfl (World.news_of_block (AY w1 _)) (by intro u hu;simp at hu;subst hu;rfl) (by simp;omega) (w1.heap.size+1) (by simp) ?_;intro g9 cV w9 aE aB aJ dB;have bQ:=LE aE;have aU:=LE aB;have cS:=LE aJ;clear aE aB aJ)
   rw[bT.o]at bQ H6 bJ aU;have cI:=aR.o.j ((LG w1 (.cells #[.slice a6 (x.P.getD j []).length c6] 48)).i dM);obtain⟨o9,dL⟩:=aV.o.push bI cI (H6.o.alloc' _) bJ.o bQ.o aU.o (cS.o.imp_right (λe=>by rw[e];simp));exact⟨⟨j+1,o9,_,by omega,by go_num,dL,RL (cT.o.j (cI.i bI)) ((LY aV.o.own aR.o).alloc _) aU.o (by simp;omega)⟩,by simp[intOf];omega⟩
  obtain rfl:j=x.P.length:=by omega
  obtain⟨pa,pc,rfl⟩:=cj aG.own;have lr:=S1.m.l.1.1.2.lt;obtain⟨oF,HF⟩:∃y,Hid (y=λb=>if V.heap.size<=b then (if b<wr.heap.size then oj b else 4) else if blk a1 x.ss.length=some b then 1 else if blk aA x.ws.length=some b then 2 else if blk a5 x.rs.length=some b then 3 else 0):=⟨_,LE rfl⟩;have lV:w.heap.size+1<V.heap.size:=S0.m.l.1.1.2.lt
  have hF:∀b,b<=w.heap.size+1->oF b=0:=λb hb=>by rw[HF.o];simp only[];rw[AE (by omega),AE (λe=>by have:=gA b e;omega),AE (λe=>by have:=gB b e;omega),AE (λe=>by have:=gC b e;omega)]
  have hP:UY wr oF pa x.P:=aG.pso (λb h1 h2=>by rw[HF.o];simp only[];rw[AK h1,AK h2]);have W1:DepF wr (λb=>b≠w.heap.size) (λW=>WoG (x.ss.map Value.string) (LU x.ws) (LI x.rs) x.P.length (λi=>x.P.getD i []) [] W ⟨a1,k1,aA,aC,a5,c5,pa,pc,none,0⟩ oF):=WoG.depF ⟨RJ S1.m.l.1.2.1 TC (lo:=0) (λ_ _=>AH _) (λg k=>?_),RJ S1.m.l.1.2.2 VS (lo:=0) (λ_ _=>AH _) (λg k=>?_),RJ S1.m.l.2 QG (lo:=0) (λ_ _=>AH _) (λg k=>?_),hP,.inl rfl⟩ (hF _ (by omega))
  rotate_left
  ·rw[HF.o];simp only[];rw[AE (by have:=uA g k;omega),AK k]
  ·rw[HF.o];simp only[];rw[AE (by have:=uB g k;omega),AE (λe=>by rcases dH with h|h|h;rw[h]at e;cases e;rw[h]at k;cases k;exact h (e.j k.symm)),AK k]
  ·rw[HF.o];simp only[];rw[AE (by have:=uC g k;omega),AE (λe=>by have:=uA g e;have:=gC g k;omega),AE (λe=>by have:=uB g e;have:=gC g k;omega),AK k]
  replace S1:=(S1.add W1).add (lm aG.own (λb k e=>by have:=(aG.own.lt b k).1;omega));clear S0 W1 hP hB;have S2:=S1.set 14 (by simp) (.slice pa x.P.length pc);have eC:=S2.m.l.1.1.1.1.2.lt;have bW:=LE (af (P:=prog) S2.m.l.1.1.1.1.1.h5 _ _ underlying22 q.ct);have aX:=S1.r.x 14;have b7:=S1.r.x 15;have bE:=S1.r.q 14;have cC:=S1.r.q 15;have cl:=S1.r.lt;have bV:=LE S2;have zz:(wr.setCell ⟨w.heap.size,14,none⟩ (.slice pa x.P.length pc)).heap.size=wr.heap.size:=AV _ _ _;clear S1 S2;go_upto_region 11 with (at_builtin;refine pw rfl _ _ 22 rfl 9 i0 _ 1 16 underlying22 HI.o.1 HI.o.2.1 HI.o.2.2.1 HI.o.2.2.2 none rfl (.inl rfl) _ rfl x.ts.length _ bW.o (by omega) (by omega) ?_;intro ta tc wx dU aL cJ;have S3:=bV.o.I cJ;have bU:=LE aL;have b7:=S3.r.x 15;have cC:=S3.r.q 15;have cl:=S3.r.lt;clear aL cJ)
  clear aX bE b7 cC cl bW;replace S3:=S3.set 15 (by simp) (.slice ta x.ts.length tc);have HR:Hid (x.ts.length=0\/(ta=some ⟨wr.heap.size,0,none⟩/\Row (wx.setCell ⟨w.heap.size,15,none⟩ (.slice ta x.ts.length tc)) wr.heap.size (x.ts.map Value.string))):=LE (bU.o.imp_right (λ⟨e,r⟩=>⟨by rw[e,zz],by rw[<-zz];exact r.other _ (by show w.heap.size≠_;rw[zz];omega) _⟩));generalize aZ:World.setCell wx _ _=vz at S3 HR⊢;clear aZ bU bV;have WZ:OO x vz ⟨a1,k1,aA,aC,a5,c5,pa,pc,ta,tc⟩ oF:=⟨S3.m.l.1.2.h1,S3.m.l.1.2.h2,S3.m.l.1.2.h3,S3.m.l.1.2.h4,?_⟩
  rotate_left
  ·rcases HR.o with h|⟨rfl,r⟩
   ·exact .inl (by rw[AC h];rfl)
   exact .inr ⟨_,rfl,r,by rw[HF.o];simp only[];rw[AK bI,AE (by omega)]⟩
  refine BA ?_;refine AN rfl 53 _ rfl w.heap.size 0 rfl _ _ S3.r.range underlying53 rfl MF ?_;simp only[PS];refine BI rfl 53 _ _ rfl (w.heap.size+1) 0 #[.int .i64 x.w,.slice a1 x.ss.length k1,.slice aA x.ws.length aC,.bool x.up,.int .i64 x.W,.int .i64 x.S,.int .i64 x.L,.int .i64 x.T,.int .i64 x.H,.int .i64 x.F,.int .i64 x.R,.int .i64 x.U,.int .i64 x.O,.slice a5 x.rs.length c5,.slice pa x.P.length pc,.slice ta x.ts.length tc] rfl rfl (S3.m.l.1.1.1.1.2.there rfl) MF (by kernel_rfl) ?_
  try simp only[PS]
  have G8:=PJ vz (w.heap.size+1) 0 [.int .i64 x.w,.slice a1 x.ss.length k1,.slice aA x.ws.length aC,.bool x.up,.int .i64 x.W,.int .i64 x.S,.int .i64 x.L,.int .i64 x.T,.int .i64 x.H,.int .i64 x.F,.int .i64 x.R,.int .i64 x.U,.int .i64 x.O,.slice a5 x.rs.length c5,.slice pa x.P.length pc,.slice ta x.ts.length tc];have r8:=S3.m.l.1.1.1.1.2.sets [.int .i64 x.w,.slice a1 x.ss.length k1,.slice aA x.ws.length aC,.bool x.up,.int .i64 x.W,.int .i64 x.S,.int .i64 x.L,.int .i64 x.T,.int .i64 x.H,.int .i64 x.F,.int .i64 x.R,.int .i64 x.U,.int .i64 x.O,.slice a5 x.rs.length c5,.slice pa x.P.length pc,.slice ta x.ts.length tc] rfl;have W8:=WZ.z G8 (hF _ (by omega));have o8:=S3.m.l.2.kept G8 (.inr (λe=>by have:=(S3.m.l.2.lt _ e).1;omega));have E8:Below w.heap.size w (vz.setCells (w.heap.size+1) 0 [.int .i64 x.w,.slice a1 x.ss.length k1,.slice aA x.ws.length aC,.bool x.up,.int .i64 x.W,.int .i64 x.S,.int .i64 x.L,.int .i64 x.T,.int .i64 x.H,.int .i64 x.F,.int .i64 x.R,.int .i64 x.U,.int .i64 x.O,.slice a5 x.rs.length c5,.slice pa x.P.length pc,.slice ta x.ts.length tc]):=⟨G8.os.j S3.e.os,G8.tape.j S3.e.tape,G8.output.j S3.e.output,AL S3.e.size G8.size,λb hb=>(G8.block b (by have:=S3.e.size;omega) (λe=>by injection e;omega)).j (S3.e.block b hb (λe=>by injection e;omega))⟩
  generalize World.setCells _ _ _ _=y8 at r8 W8 o8 E8⊢;have H8:=LE (AG W8 (AG o8 E8));clear S3 WZ W8 o8 E8 G8 HR
  try go_wp2
  exact RY 2 53 results31 _ rfl [.int .i64 x.w,.slice a1 x.ss.length k1,.slice aA x.ws.length aC,.bool x.up,.int .i64 x.W,.int .i64 x.S,.int .i64 x.L,.int .i64 x.T,.int .i64 x.H,.int .i64 x.F,.int .i64 x.R,.int .i64 x.U,.int .i64 x.O,.slice a5 x.rs.length c5,.slice pa x.P.length pc,.slice ta x.ts.length tc] _ r8 underlying53 rfl MF rfl ⟨⟨a1,k1,aA,aC,a5,c5,pa,pc,ta,tc⟩,oF,news,rfl,H8.o.1,cX,H8.o.2.1.i (by omega),λb hb=>hF b (by omega),H8.o.2.2⟩
theorem OwL.depN{o:Nat->Nat}{k:Nat}{a:Option Addr}{cs:List Value}(h:OwL w o k a cs)(hk:k≠0)(hF:∀b,o b≠0->F b):DepF w F (λW=>OwL W o k a cs) :=⟨h,λw' h1 h2=>h.imp_right λ⟨g,e,r,n⟩=>⟨g,e,QW r (h2 g (hF g (by omega)) r.lt) (AD r.lt h1.size),n⟩⟩
theorem WoG.woF{x:Wo}{q:Wp}{o:Nat->Nat}(h:OO x w q o)(hF:∀b,o b≠0->F b):WoF x w F q :=⟨(h.h1.depN (by omega) hF).map λ_ k=>k.own.strs,(h.h2.depN (by omega) hF).map λ_ k=>k.own.wrs,(h.h3.depN (by omega) hF).map λ_ k=>k.own.prs,
  by
  rcases h.h4 with h0|⟨b,e,hl,h5,hs⟩
  ·exact .inl (AC h0)
  ·refine .inr ⟨b,0,e,hl,hF b (by omega),λi hi=>?_⟩
   obtain⟨p',c',k1,k2⟩:=hs i hi
   exact⟨p',c',by rw[BF];exact k1,(k2.depN (by omega) hF).map λ_ k=>k.own.prs⟩,
  (h.h5.depN (by omega) hF).map λ_ k=>k.own.strs⟩
theorem cm{V:World}{r:Option Nat}(h:V.grownBy w r)(hb:Below w.heap.size w w'):V.grownBy w' r :=⟨hb.os.j h.os,hb.tape.j h.tape,hb.output.j h.output,AL h.size hb.size,λi hi aA=>(hb.block i (AD hi h.size)).j (h.block i hi aA)⟩
theorem yZ{V:World}{r r':Option Nat}(h:V.grownBy w r)(hg:w.grownBy w' r')(hr:∀g,r'=some g->V.heap.size<=g):V.grownBy w' r :=⟨hg.os.j h.os,hg.tape.j h.tape,hg.output.j h.output,AL h.size hg.size,λi hi aA=>(hg.block i (AD hi h.size) (λe=>by have:=hr i e.symm;omega)).j (h.block i hi aA)⟩
theorem PcI.z{g:Nat}{o:Nat->Nat}{P:List (List Pr)}{j:Nat}(h:PcI B w o v P j news)(hg:w.grownBy w' (some g))(hB:g<B):PcI B w' o v P j news :=⟨h.own.kept hg (.inr (λe=>by have:=(h.own.lt g e).1;omega)),h.lab,h.low,λi hi=>by obtain⟨p,c,h1,h2⟩:=h.ech i hi;exact⟨p,c,h1,h2.only (K:=λk=>k=0) (VH hg (λx e=>by cases e;exact IW λk=>by have:=h.low g k;omega)) (by omega)⟩⟩
def uN(w w':World)(r:Ending)(x:Wo):Prop:=∃q o,r=.returned (MD x q)/\OO x w' q o/\(∀b,b<w.heap.size->o b=0)/\Below w.heap.size w w'
def sW(V w:World)(B:Nat)(row:Value->List Value)(P:List (List Pr))(iv:Value):Prop:=∃(j:Nat) (o:Nat->Nat) (pv:Value) (news:List Value),j<=P.length/\iv=.int .i64 (j:Int)/\PcI V.heap.size w o pv P j news/\Row w B (row pv)/\V.grownBy w (some B)
theorem pE(x:Wo)(q:Wp)(w:World)(h:x.at w q)(ho:x.ok):Calls prog 22 #[MD x q] w λr w'=>uN w w' r x:=by
 obtain⟨dH,dL⟩:x.ss.length<=200/\x.ws.length<=300:=by
  rcases ho.d with h|⟨h1,h2⟩
  ·obtain⟨⟨_,h2,h3⟩,_,_⟩:=OZ h;exact⟨h2,h3⟩
  rw[h1,h2];simp
 have eB:=ho.p.1;have eE:=ho.t.1;have eC:=(SG ho.s).1;have cN:Hid (∀j,j<x.P.length->(x.P.getD j []).length<=1048576):=LE (λj hj=>by have:=(SG (ho.p.2 (x.P.getD j []) (by simp[List.getD,hj]))).1;omega);have cF:DepF w (λb=>b≠w.heap.size+1+1) (λW=>x.at W q):=(ei h (λw' hb=>h.I hb)).i (λb hb _=>by omega);obtain⟨i0,aU,aX,aY,aZ⟩:=VG ZH;have HI:=LE (AG aU (AG aX (AG aY aZ)));clear aU aX aY aZ;obtain⟨i1,aU,aX,aY,aZ⟩:=VG gy;have HJ:=LE (AG aU (AG aX (AG aY aZ)));clear aU aX aY aZ;have CD:=LE (λw' k1 k2=>gk q.a x.ss q.c q.a' x.ws q.c' w' k1 k2 dH dL);unfold LN at CD;unfold MD;clear h ho;go_enter func22,ntmps22;go_upto_region 1 with fail;generalize aN:w.alloc _=v1;obtain⟨bF,z0,b0⟩:=LJ aN;clear aN;generalize aO:v1.alloc _=v2;obtain⟨aS,z1,b1⟩:=LJ aO;clear aO;rw[z0]at b1 z1;have rP:=(b0.I aS).l;refine BA ?_;refine AN rfl 53 _ rfl w.heap.size 0 rfl _ _ rP.range underlying53 rfl MF ?_
 simp only[PS];go_upto_region 2 with fail;generalize aP:v2.alloc _=v3;obtain⟨aT,z2,b2⟩:=LJ aP;clear aP;rw[z1]at b2 z2;have hb:=bF.j ((aS.j (aT.i aS.size)).i bF.size);have S0:Sc w v3 (w.heap.size+1+1) (wL x q) _:=⟨⟨hb.os,hb.tape,hb.output,hb.size,λb h1 _=>hb.block b h1⟩,b2.l,(((cF.I bF).I aS).I aT).and ((QI (rP.I aT) (by omega)).and (QI (b1.I aT).l (by omega)))⟩;have l3:w.heap.size+1+1<v3.heap.size:=S0.r.lt;clear hb bF aS aT b0 b1 b2 z0 z1 z2 cF rP;have p1:=S0.m.l.2.1.x 1;have p2:=S0.m.l.2.1.x 2;have pl:=S0.m.l.2.1.lt;go_wp2_with fail;clear p1 p2 pl;refine(CD.o _ S0.m.l.1.h1 S0.m.l.1.h2).i ?_;rintro r v4 ⟨a1,k1,aD,aE,rfl,aI,g1,g2,hb⟩
 have uA:=λg k=>TF (g:=g) aI.s (λe1 e2=>e1 (YF e2)) k
 have uB:=λg k=>TF (g:=g) aI.p (λe1 e2=>e1 (aa e2)) k
 have dM:=aI.ne;have l4:=hb.size
 have gA:∀g,blk (some ⟨a1,0,none⟩) x.ss.length=some g->w.heap.size+1+1<g:=λg k=>by have:=g1 g k;omega
 have gB:∀g,blk (some ⟨aD,0,none⟩) x.ws.length=some g->w.heap.size+1+1<g:=λg k=>by have:=g2 g k;omega
 replace S0:=(S0.I hb).add ((TA aI.s TC (lo:=w.heap.size+1+1+1) (λg k=>gA g k) (SB:=w.heap.size+1+1) (by omega)).and (TA aI.p VS (lo:=w.heap.size+1+1+1) (λg k=>gB g k) (SB:=w.heap.size+1+1) (by omega)));clear CD hb aI g1 g2;have c1:=S0.r.x 1;have c2:=S0.r.x 2;have f1:=S0.r.q 1;have f2:=S0.r.q 2;have cl:=S0.r.lt;go_upto_region 3 with fail;clear c1 f1 c2 f2 cl;replace S0:=(S0.set 1 (by simp) (.slice (some ⟨a1,0,none⟩) x.ss.length k1)).set 2 (by simp) (.slice (some ⟨aD,0,none⟩) x.ws.length aE);have z5:((v4.setCell ⟨w.heap.size+1+1,1,none⟩ (.slice (some ⟨a1,0,none⟩) x.ss.length k1)).setCell ⟨w.heap.size+1+1,2,none⟩ (.slice (some ⟨aD,0,none⟩) x.ws.length aE)).heap.size=v4.heap.size:=by rw[AV,AV]
 generalize bQ:World.setCell (World.setCell _ _ _) _ _=v5 at S0 z5⊢;clear bQ;have CC:=LE (bi q.s x.rs q.cs v5 S0.m.l.1.1.h3 (by omega));unfold LR at CC;have dN:=S0.m.l.1.2.1.x 13;have pl:=S0.m.l.1.2.1.lt;go_wp2_with fail;clear dN pl;refine CC.o.i ?_;rintro r v6 ⟨a5,c5,rfl,cY,cA,g5,hb⟩;unfold LR;have eG:=hb.size
 have gC:∀g,blk a5 x.rs.length=some g->v4.heap.size<=g:=λg k=>by have:=g5 g k;omega
 have uC:=λg k=>TF (g:=g) cA YE k
 replace S0:=(S0.I hb).add (TA cA QG g5 (SB:=w.heap.size+1+1) (by omega));clear CC hb cA g5 cY;have cP:=S0.r.x 13;have aK:=S0.r.x 14;have cU:=S0.r.q 13;have bU:=S0.r.q 14;have cl:=S0.r.lt;go_wp2_with fail;clear cP cU aK bU cl;have S1:=(S0.set 13 (by simp) (.slice a5 x.rs.length c5)).set 14 (by simp) (.slice (some ⟨v6.heap.size,0,none⟩) 0 0);have z7:((v6.setCell ⟨w.heap.size+1+1,13,none⟩ (.slice a5 x.rs.length c5)).setCell ⟨w.heap.size+1+1,14,none⟩ (.slice (some ⟨v6.heap.size,0,none⟩) 0 0)).heap.size=v6.heap.size:=by rw[AV,AV]
 generalize cS:World.setCell (World.setCell _ _ _) _ _=V at S1 z7⊢;rw[<-z7]at S1⊢;clear cS S0;have lV:w.heap.size+1+1<V.heap.size:=S1.r.lt;have HM:=LE (λW (g:V.grownBy W (some (w.heap.size+1+1)))=>((S1.m.i (G:=λb=>b≠w.heap.size+1+1/\b<V.heap.size) (λb hb k=>⟨k,hb⟩)).step (NE g (AH _) (λ_ _=>AH _)) (λb k _=>g.block b k.2 (λe=>k.1 (by injection e)))).l);have SE:=S1.e;go_loopw [4] (λiv wr=>sW V wr (w.heap.size+1+1) (λpv=>[.int .i64 x.w,.slice (some ⟨a1,0,none⟩) x.ss.length k1,.slice (some ⟨aD,0,none⟩) x.ws.length aE,.bool x.up,.int .i64 x.W,.int .i64 x.S,.int .i64 x.L,.int .i64 x.T,.int .i64 x.H,.int .i64 x.F,.int .i64 x.R,.int .i64 x.U,.int .i64 x.O,.slice a5 x.rs.length c5,pv,.slice q.t x.ts.length q.ct]) x.P iv) (λiv _=>x.P.length-(intOf iv).toNat)
 case atStart =>
  refine⟨0,λb=>if b=V.heap.size then 5 else 0,_,[],AH _,rfl,⟨DM (w:=V) (e:=48) (size:=1) #[] 0 (AA _) (by simp) (by simp),λg e=>by(cases e;simp),λb e=>?_,λi hi=>by omega⟩,S1.r.I (LG _ _),World.grownBy_alloc _ _ _⟩
  by_cases hb:b=V.heap.size
  ·omega
  exact absurd (AE hb) e
 case round =>
  clear S1;obtain⟨j,oj,pv,news,hj,rfl,bJ,rO,gO⟩:=hrel;have M:=HM.o wr gO;have eH:=gO.size;have cM:=M.1.1.2.1.x 14;have pl:=M.1.1.2.1.lt
  by_cases b7:j<x.P.length
  ·have dB:(j:Int)<(x.P.length:Int):=by omega
   have dZ:(0:Int)<=(j:Int):=by omega
   have eF:IntKind.i64.wrap ((j:Int)+1)=((j+1:Nat):Int):=by rw[dx _ (by omega) (by omega)];omega
   obtain⟨b,ob,p,cp,bT,cI,aA,HS⟩:=M.1.1.1.h4.at b7;obtain⟨b2,_,_,_,e2,dU,_,_⟩:=(HM.o V (BH _ _)).1.1.1.h4.at b7;rw[bT]at e2
   cases e2
   have HQ:=LE bT;have cH:=cN.o j b7;obtain⟨RS,cC⟩:∃y,Hid (y=x.P.getD j []):=⟨_,LE rfl⟩;rw[<-cC.o]at aA HS cH;have bE:Hid (∀W,V.grownBy W (some (w.heap.size+1+1))->Row W w.heap.size (wL x q)):=LE (λW g=>(HM.o W g).1.1.2.1);go_upto_region 8 with fail;clear cM pl M bT;refine UV (11) (S:=λw'=>Row w' w.heap.size (wL x q)/\Row w' (w.heap.size+1+1) [.int .i64 x.w,.slice (some ⟨a1,0,none⟩) x.ss.length k1,.slice (some ⟨aD,0,none⟩) x.ws.length aE,.bool x.up,.int .i64 x.W,.int .i64 x.S,.int .i64 x.L,.int .i64 x.T,.int .i64 x.H,.int .i64 x.F,.int .i64 x.R,.int .i64 x.U,.int .i64 x.O,.slice a5 x.rs.length c5,pv,.slice q.t x.ts.length q.ct]/\w'.cell? ⟨b,ob+j,none⟩=some (.slice p RS.length cp)) (by kernel_rfl) (⟨bE.o _ (cm gO (AB _ _).drew),rO.I (AB _ _).drew,LH (AB wr.heap.size wr).drew aA (by show b<_;exact cI)⟩) (λaF=>?_);refine MY 0 (.pointer (some ⟨w.heap.size+1+1,14,none⟩)) rfl (BN ⟨by rfl,λw hw=>by obtain⟨z0,z1,z2⟩:=hw;have l:=z1.lt;go_simp⟩) aF (MY 1 (pv) rfl (BN ⟨by rfl,λw hw=>by obtain⟨z0,z1,z2⟩:=hw;have aK:=z1.x 14;go_simp⟩) aF (MY 2 (.pointer (some ⟨w.heap.size,14,none⟩)) rfl (BN ⟨by rfl,λw hw=>by obtain⟨z0,z1,z2⟩:=hw;have l:=z0.lt;go_simp⟩) aF (MY 3 (.slice q.p x.P.length q.cp) rfl (BN ⟨by rfl,λw hw=>by obtain⟨z0,z1,z2⟩:=hw;have aK:=z0.x 14;go_simp⟩) aF (NZ 4 (.int .i64 (j:Int)) rfl aF (MY 5 (.pointer (some ⟨b,ob+j,none⟩)) rfl (BN ⟨by rfl,λw hw=>by obtain⟨z0,z1,z2⟩:=hw;have hq:=HQ.o;have l:=BE _ _ z2;rw[hq];go_simp⟩) aF (NZ 6 (.agg #[.slice p RS.length cp]) rfl aF ?_))))))
   simp only[PS];refine ND 7 rfl (λKq aG=>?_);have hd:Below wr.heap.size wr wr.drew:=(AB _ _).drew;replace gO:=cm gO hd;replace rO:=rO.I hd;replace aA:=LH hd aA (by show b<_;exact cI);have bW:=HS.o.I hd;have aW:=bJ.I hd;generalize cT:wr.drew=y0 at gO rO aA bW aW hd⊢;clear cT;refine LK (by rfl) _ _ (by go_simp) (bi p RS cp y0 bW cH) ?_;rintro r y1 ⟨a6,c6,rfl,dV,aV,g6,hb⟩;refine⟨_,rfl,?_⟩;unfold LR;have l0:=hd.size;have l1:=hb.size;have aC:=hb;replace gO:=cm gO hb;replace rO:=rO.I hb;replace aA:=LH hb aA (by show b<_;omega);clear hb hd bW;refine aG.o _ _ (⟨bE.o _ gO,rO,aA⟩) (λcW=>?_)
   try simp only[PS]
   refine ND 8 rfl (λKq aG=>?_);go_simp;obtain⟨y2,aQ⟩:∃y,y=y1.alloc (.cells #[.slice a6 RS.length c6] 48):=⟨_,rfl⟩;have hb:=LG y1 (.cells #[.slice a6 RS.length c6] 48);have rG:=ME y1 #[.slice a6 RS.length c6] 48;rw[<-aQ]at hb rG⊢;obtain⟨GB,aM⟩:∃y,y=y1.heap.size:=⟨_,rfl⟩;rw[<-aM]at rG⊢;have l2:=hb.size;replace gO:=cm gO hb;replace rO:=rO.I hb;replace aA:=LH hb aA (by show b<_;omega);have aV:=aV.I hb;replace aC:=aC.j (hb.i l1);clear aQ aM hb;refine aG.o _ _ (⟨bE.o _ gO,rO,aA⟩) (λcX=>?_)
   try simp only[PS]
   refine ND 9 rfl (λKq aG=>?_);refine QO _ rfl _ _ 51 rfl V.heap.size underlying51 HJ.o rfl (by omega) pv j news rfl (LY aW.own aC) ⟨GB,0,none⟩ 1 1 [.slice a6 RS.length c6] rfl rfl (λj u hu=>by rw[ae];exact rG.cell j u hu) (by intro u hu;simp at hu;subst hu;rfl) (by omega) y2.heap.size rfl ?_;intro g9 aL y3 aH aB aR dF
   have bI:∀b',pv.ownBlock=some b'->V.heap.size<=b':=λb' k=>(aW.own.lt b' k).1
   rw[cC.o]at aH aV g6;obtain⟨o9,cL⟩:=aW.push (by omega) aC aV g6 aH aB aR;replace gO:=yZ gO aB bI;replace rO:=rO.z aB (λe=>by have:=bI _ e.symm;omega);replace aA:=(CW (a:=⟨b,ob+j,none⟩) (aB.block b (by omega) (λe=>by have:=bI _ e.symm;omega))).j aA;clear aH aB aR aW aC rG aV g6 bI;refine aG.o _ _ (⟨bE.o _ gO,rO,aA⟩) (λbV=>?_)
   try simp only[PS]
   refine MY 10 (.pointer (some ⟨w.heap.size+1+1,14,none⟩)) rfl (BN ⟨by rfl,λw hw=>by obtain⟨z0,z1,z2⟩:=hw;have l:=z1.lt;go_simp⟩) bV ?_;simp only[PS];refine PD (rs:=[11]) (by kernel_rfl) (by simp) ?_;refine AllReadyT.last rfl (λKq aG=>?_);have aK:=rO.x 14;have bU:=rO.q 14;go_simp;clear aK bU;refine aG.o _ _ trivial (λ_=>?_)
   try simp only[PS]
   refine UN (by kernel_rfl) ?_ _;have G9:=MC (BH y3 (some (w.heap.size+1+1))) 14 (.slice (some ⟨g9,0,none⟩) (j+1) aL);have HF:=LE (AG (cL.z G9 (by omega)) (AG (rO.set 14 (by simp) (.slice (some ⟨g9,0,none⟩) (j+1) aL)) (PY gO G9)));generalize World.setCell _ _ _=y4 at HF⊢;clear cL rO gO aA G9;go_wp2;exact⟨⟨j+1,o9,_,_,by omega,by go_num,HF.o.1,HF.o.2.1,HF.o.2.2⟩,by simp[intOf];omega⟩
  obtain rfl:j=x.P.length:=by omega
  obtain⟨pa,pc,rfl⟩:=cj bJ.own;have hT:=M.1.1.1.h5;obtain⟨oF,HF⟩:∃y,Hid (y=λb=>if V.heap.size<=b then (if b<wr.heap.size then oj b else 4) else if blk (some ⟨a1,0,none⟩) x.ss.length=some b then 1 else if blk (some ⟨aD,0,none⟩) x.ws.length=some b then 2 else if blk a5 x.rs.length=some b then 3 else 0):=⟨_,LE rfl⟩
  have hF:∀b,b<=w.heap.size+1+1->oF b=0:=λb hb=>by rw[HF.o];simp only[];rw[AE (by omega),AE (λe=>by have:=gA b e;omega),AE (λe=>by have:=gB b e;omega),AE (λe=>by have:=gC b e;omega)]
  have hP:UY wr oF pa x.P:=bJ.pso (λb h1 h2=>by rw[HF.o];simp only[];rw[AK h1,AK h2]);have W1:WoG (x.ss.map Value.string) (LU x.ws) (LI x.rs) x.P.length (λi=>x.P.getD i []) [] wr ⟨some ⟨a1,0,none⟩,k1,some ⟨aD,0,none⟩,aE,a5,c5,pa,pc,none,0⟩ oF:=⟨RJ M.1.2.1 TC (lo:=0) (λ_ _=>AH _) (λg k=>?_),RJ M.1.2.2 VS (lo:=0) (λ_ _=>AH _) (λg k=>?_),RJ M.2 QG (lo:=0) (λ_ _=>AH _) (λg k=>?_),hP,.inl rfl⟩
  rotate_left
  ·rw[HF.o];simp only[];rw[AE (by have:=uA g k;omega),AK k]
  ·rw[HF.o];simp only[];rw[AE (by have:=uB g k;omega),AE (λe=>by rcases dM with h|h|h;rw[h]at e;cases e;rw[h]at k;cases k;exact h (e.j k.symm)),AK k]
  ·rw[HF.o];simp only[];rw[AE (by have:=uC g k;omega),AE (λe=>by have:=uA g e;have:=gC g k;omega),AE (λe=>by have:=uB g e;have:=gC g k;omega),AK k]
  have rR:=M.1.1.2.2;have dP:=M.1.1.2.1.x 15;have aJ:=LE rO;have cE:=LE hT;have HW:=LE W1;have cB:=LE rR;have dR:w.heap.size+1+1<wr.heap.size:=rO.lt;clear rO hT W1 rR M hP bJ;go_upto_region 10 with (at_builtin;refine ux rfl _ _ 22 rfl 9 i0 (.string ByteArray.empty) 1 16 underlying22 HI.o.1 HI.o.2.1 HI.o.2.2.1 HI.o.2.2.2 rfl wr.heap.size wr.heap.size rfl (DM _ #[] 0 (AA _) (by simp) (by simp)) _ rfl x.ts.length _ (af (cE.o.I (LG _ _)) _ _ underlying22 q.ct) (by omega) (by omega) (by simp) ?_;intro gt tc wx bC cZ cJ;have aC:=(LG wr (.cells #[] 9)).j (cJ.i (by simp));have cQ:=(aJ.o.I aC).x 15;have cV:=(aJ.o.I aC).q 15;have cl:=(aJ.o.I aC).lt;have bP:=LE bC;clear cJ bC cZ);clear cQ cV cl cM dP pl;have G:=MC (BH wx (some (w.heap.size+1+1))) 15 (.slice (some ⟨gt,0,none⟩) x.ts.length tc)
  have rO:=(aJ.o.I aC).set 15 (by simp) (.slice (some ⟨gt,0,none⟩) x.ts.length tc);have rR:=(cB.o.I aC).z G (λe=>by injection e;omega);have W2:=(HW.o.I aC).z G (hF _ (by omega));have dQ:wr.heap.size<=gt:=cq bP.o;have rT:=(RW bP.o).z G (λe=>by injection e;omega);have E2:=(cm gO aC);replace E2:=PY E2 G;generalize World.setCell _ _ _=vz at G rO rR W2 rT E2⊢;clear aJ cB HW cE bP aC G gO;have W3:OO x vz ⟨some ⟨a1,0,none⟩,k1,some ⟨aD,0,none⟩,aE,a5,c5,pa,pc,some ⟨gt,0,none⟩,tc⟩ oF:=⟨W2.h1,W2.h2,W2.h3,W2.h4,.inr ⟨gt,rfl,rT,by rw[HF.o];simp only[];rw[AK (by omega),AE (by omega)]⟩⟩;refine BA ?_;refine AN rfl 53 _ rfl (w.heap.size+1+1) 0 rfl _ _ rO.range underlying53 rfl MF ?_;simp only[PS];refine BI rfl 53 _ _ rfl (w.heap.size+1) 0 #[.int .i64 x.w,.slice (some ⟨a1,0,none⟩) x.ss.length k1,.slice (some ⟨aD,0,none⟩) x.ws.length aE,.bool x.up,.int .i64 x.W,.int .i64 x.S,.int .i64 x.L,.int .i64 x.T,.int .i64 x.H,.int .i64 x.F,.int .i64 x.R,.int .i64 x.U,.int .i64 x.O,.slice a5 x.rs.length c5,.slice pa x.P.length pc,.slice (some ⟨gt,0,none⟩) x.ts.length tc] rfl rfl (rR.there rfl) MF (by kernel_rfl) ?_
  try simp only[PS]
  have G8:=PJ vz (w.heap.size+1) 0 [.int .i64 x.w,.slice (some ⟨a1,0,none⟩) x.ss.length k1,.slice (some ⟨aD,0,none⟩) x.ws.length aE,.bool x.up,.int .i64 x.W,.int .i64 x.S,.int .i64 x.L,.int .i64 x.T,.int .i64 x.H,.int .i64 x.F,.int .i64 x.R,.int .i64 x.U,.int .i64 x.O,.slice a5 x.rs.length c5,.slice pa x.P.length pc,.slice (some ⟨gt,0,none⟩) x.ts.length tc];have r8:=rR.sets [.int .i64 x.w,.slice (some ⟨a1,0,none⟩) x.ss.length k1,.slice (some ⟨aD,0,none⟩) x.ws.length aE,.bool x.up,.int .i64 x.W,.int .i64 x.S,.int .i64 x.L,.int .i64 x.T,.int .i64 x.H,.int .i64 x.F,.int .i64 x.R,.int .i64 x.U,.int .i64 x.O,.slice a5 x.rs.length c5,.slice pa x.P.length pc,.slice (some ⟨gt,0,none⟩) x.ts.length tc] rfl;have W8:=W3.z G8 (hF _ (by omega));have E8:Below w.heap.size w (vz.setCells (w.heap.size+1) 0 [.int .i64 x.w,.slice (some ⟨a1,0,none⟩) x.ss.length k1,.slice (some ⟨aD,0,none⟩) x.ws.length aE,.bool x.up,.int .i64 x.W,.int .i64 x.S,.int .i64 x.L,.int .i64 x.T,.int .i64 x.H,.int .i64 x.F,.int .i64 x.R,.int .i64 x.U,.int .i64 x.O,.slice a5 x.rs.length c5,.slice pa x.P.length pc,.slice (some ⟨gt,0,none⟩) x.ts.length tc]):=⟨G8.os.j (E2.os.j SE.os),G8.tape.j (E2.tape.j SE.tape),G8.output.j (E2.output.j SE.output),AL SE.size (AL E2.size G8.size),λb hb=>(G8.block b (by have:=E2.size;omega) (λe=>by injection e;omega)).j ((E2.block b (by omega) (λe=>by injection e;omega)).j (SE.block b hb (λe=>by injection e;omega)))⟩
  generalize World.setCells _ _ _ _=y8 at r8 W8 E8⊢;have cO:=LE W8;clear W3 W2 W8 G8 rO rR rT E2
  try go_wp2
  exact RY 2 53 results22 _ rfl [.int .i64 x.w,.slice (some ⟨a1,0,none⟩) x.ss.length k1,.slice (some ⟨aD,0,none⟩) x.ws.length aE,.bool x.up,.int .i64 x.W,.int .i64 x.S,.int .i64 x.L,.int .i64 x.T,.int .i64 x.H,.int .i64 x.F,.int .i64 x.R,.int .i64 x.U,.int .i64 x.O,.slice a5 x.rs.length c5,.slice pa x.P.length pc,.slice (some ⟨gt,0,none⟩) x.ts.length tc] _ r8 underlying53 rfl MF rfl ⟨_,oF,rfl,cO.o,λb hb=>hF b (by omega),E8⟩
section
structure DoS(w v:World)(FF:Nat->Prop)(cs ev:List Value)(x:Wo)(q:Wp)(M:World->Prop):Prop where
 e:Below w.heap.size w v
 r2:Row v w.heap.size cs
 r3:Row v (w.heap.size+1) ev
 r4:Row v (w.heap.size+1+1) [.int .i64 0,.slice none 0 0,.slice none 0 0,.bool false,.int .i64 0,.int .i64 0,.int .i64 0,.int .i64 0,.int .i64 0,.int .i64 0,.int .i64 0,.int .i64 0,.int .i64 0,.slice none 0 0,.slice none 0 0,.slice none 0 0]
 n:¬FF w.heap.size/\¬FF (w.heap.size+1+1)
 f:WoF x v FF q
 m:DepF v FF M
section
variable {w v v':World} {FF:Nat->Prop} {cs ev cs':List Value} {x y:Wo} {q q':Wp} {M N:World->Prop}
theorem DoS.I(h:DoS w v FF cs ev x q M)(hb:Below v.heap.size v v'):DoS w v' FF cs ev x q M:=⟨h.e.j (hb.i h.e.size),h.r2.I hb,h.r3.I hb,h.r4.I hb,h.n,h.f.I hb,h.m.I hb⟩
theorem DoS.put(h:DoS w v FF cs ev x q M)(hg:v.grownBy v' (some w.heap.size))(hr:Row v' w.heap.size cs'):DoS w v' FF cs' ev x q M :=⟨h.e.j (NE hg h.e.size (λx e=>by have e:=DA e;omega)),hr,h.r3.z hg (λe=>by injection e with e;omega),h.r4.z hg (λe=>by injection e with e;omega),h.n,h.f.z hg (λg e=>by cases e;exact h.n.1),h.m.z hg (λg e=>by cases e;exact h.n.1)⟩
theorem DoS.set(h:DoS w v FF cs ev x q M)(i:Nat)(hi:i<cs.length)(u:Value):DoS w (v.setCell ⟨w.heap.size,i,none⟩ u) FF (cs.set i u) ev x q M:=h.put (MC (BH _ _) _ _) (h.r2.set i hi u)
theorem DoS.add(h:DoS w v FF cs ev x q M)(k:DepF v FF N):DoS w v FF cs ev x q (λW=>M W/\N W):=⟨h.e,h.r2,h.r3,h.r4,h.n,h.f,h.m.and k⟩
theorem DoS.fin(h:DoS w v FF cs ev x q M)(hy:WoF y v FF q')(hF:∀b,FF b->F b\/w.heap.size<=b)(vs:List Value)(hl:vs.length=16)(v1:World)(e:v1=v.setCells (w.heap.size+1+1) 0 vs):Row v1 (w.heap.size+1+1) vs/\Below w.heap.size w v1/\WoF y v1 (λb=>F b\/w.heap.size<=b) q':=by
 subst e;have G:=PJ v (w.heap.size+1+1) 0 vs;exact⟨h.r4.sets vs hl,h.e.j (NE G h.e.size (λx e=>by have e:=DA e;omega)),(hy.z G (λg e=>by cases e;exact h.n.2)).i (λb _ k=>hF b k)⟩
end
theorem Hm{x:Wo}{e:Ev}{D:Dd}(h5:¬e.K=5)(hc:x.call e=(D,true))(h0:D.C=0)(h:¬(2000<(QP x e D).length\/200<(OL x e D).length))(hb:QH e D=false):x.doE e={ (x.ran e D).upS D with P:=if e.K=2 then OL x e D else [D.rs] }:=by
 by_cases h2:e.K=2
 ·rw[pW h5 hc h0 h hb h2,AK h2];rfl
 rw[oQ h5 hc h0 h hb h2,AE h2]
end
def rj(W:World)(XB:Nat)(dc:List Value)(D:Dd)(oa ob:Option Addr):Prop:=Row W XB dc/\OwnDn W D.rs D.ops oa ob
def qW(v w:World)(ts:List ByteArray)(aA:List NM)(N:Nat)(wv iv:Value):Prop:=∃(j g cap:Nat),j<=N/\iv=.int .i64 (j:Int)/\wv=.slice (some ⟨g,0,none⟩) (ts++OJ (aA.take j)).length cap/\w.ownsRow v.heap.size 9 1 (.slice (some ⟨g,0,none⟩) (ts++OJ (aA.take j)).length cap) (ts++OJ (aA.take j)).length ((ts++OJ (aA.take j)).map Value.string)/\Below v.heap.size v w
def qX(v w:World)(FF:Nat->Prop)(PP:List (List Pr))(pv:Value):Prop:=∃(pa:Option Addr) (pc:Nat),pv=.slice pa PP.length pc/\PstF w FF pa PP/\Below v.heap.size v w
theorem Ir(x:Wo)(q:Wp)(e:Ev)(a:Option Addr)(c:Nat)(f:Option Addr)(d:Nat)(F:Nat->Prop)(w:World)(h:WoF x w F q)(ho:x.ok)(h2:Chs w a e.b)(h3:Ints w f e.fs)(he:e.le):Calls prog 23 #[MD x q,MK e a c f d] w λr w'=>th w w' F r (x.doE e):=by
 have hm:=ho.le
 obtain⟨FF,fB,aW,fC,fE,cQ⟩:∃FF:Nat->Prop,Hid (∀b,b<w.heap.size->F b->FF b)/\Hid (∀b,w.heap.size+1+1+1<=b->FF b)/\Hid (¬FF w.heap.size)/\Hid (¬FF (w.heap.size+1+1))/\Hid (∀b,FF b->F b\/w.heap.size<=b) :=⟨λb=>(F b/\b<w.heap.size)\/w.heap.size+1+1+1<=b,λb h1 h2=>.inl ⟨h2,h1⟩,λb h=>.inr h,λh=>by rcases h with h|h;exact absurd h.2 (by omega);omega,λh=>by rcases h with h|h;exact absurd h.2 (by omega);omega,λb h=>by rcases h with h|h;exact .inl h.1;exact .inr (by omega)⟩
 have HW:=LE (h.i fB);clear h fB;have CP:=LE (λy q1 w' (k1:WoF y w' FF q1) (hy:y.le 1048576) k2=>Cv y q1 f e.fs d FF w' k1 hy k2 he.f);have CC:=LE (λw' k1 k2=>tL x q e a c f d w' k1 hm k2 he);have eW:=LE h2;have eX:=LE h3;clear h2 h3;obtain⟨⟨D,u⟩,aX⟩:∃y,x.call e=y:=⟨_,rfl⟩;obtain⟨aD,aP⟩:∃y,Hid (y=x.doE e):=⟨_,LE rfl⟩;rw[<-aP.o];have hD:=ho.call e;rw[aX]at CC hD;simp only at CC hD;have iD:D.ops.length<=1000:=hD.2.1;have CF:=LE (λob oe (z:Int) w' k1 k2 k3=>yP q.a x.ss q.c q.a' x.ws q.c' ob D.ops oe z w' k1 k2 k3 (by omega) (λo ho=>by have:=hD.2.2 o ho;omega) hm.l1 hm.l2 hm.s1 hm.s2);have HD:=LE hD;have dH:=LE aX;have iA:=hm.l5;have iE:=ho.p.1;have iF:=ho.t.1;have HM:=LE hm;have HO:=LE ho;clear hD aX hm ho;obtain⟨i0,cV,cX,cY,cZ⟩:=VG ZH;have HI:=LE (AG cV (AG cX (AG cY cZ)));clear cV cX cY cZ;obtain⟨i1,cV,cX,cY,cZ⟩:=VG gy;have HJ:=LE (AG cV (AG cX (AG cY cZ)))
 clear cV cX cY cZ;unfold LN at CF;unfold MD MK at CC⊢;go_enter func23,ntmps23;go_upto_region 1 with fail;generalize cM:w.alloc _=v1;obtain⟨aR,dB,b2⟩:=LJ cM;clear cM;generalize cN:v1.alloc _=v2;obtain⟨aO,cE,b3⟩:=LJ cN;clear cN;generalize cO:v2.alloc _=v3;obtain⟨dN,dF,b4⟩:=LJ cO;clear cO;rw[dB]at b3 cE;rw[cE]at b4 dF;have hb:=aR.j ((aO.j (dN.i aO.size)).i aR.size);have S0:DoS w v3 FF (wL x q) [.int .i64 e.K,.slice a e.b.length c,.int .i64 e.cut,.slice f e.fs.length d] x q (λ_=>True):=⟨hb,((b2.I aO).I dN).l,(b3.I dN).l,b4.l,⟨fC,fE⟩,HW.o.I hb,SX (λ_=>trivial)⟩;have l3:w.heap.size+1+1+1<=v3.heap.size:=by omega
 clear hb aR aO dN b2 b3 b4 dB cE dF HW fC fE
 by_cases hK:e.K=5
 ·have er:aD=x.pow e.fs:=by rw[aP.o];unfold Wo.doE;rw[AK hK]
  obtain⟨y,HY⟩:∃y,Hid (y=x.pow e.fs):=⟨_,LE rfl⟩;have CQ:=LE (CP.o x q v3 S0.f HM.o (eX.o.I S0.e));rw[<-HY.o]at CQ er;subst er;unfold MD at CQ;clear CP CC CF HI HJ HD;have k5:(e.K == 5)=true:=by simp[hK]
  have d0:=S0.r3.x 0;have d3:=S0.r3.x 3;have dl:=S0.r3.lt;go_upto_region 2 with fail;refine BA ?_;refine AN rfl 53 _ rfl w.heap.size 0 rfl _ _ S0.r2.range underlying53 rfl MF ?_;simp only[PS];go_wp2_with fail;clear d0 d3 dl;refine CQ.o.i ?_;rintro e v4 ⟨q1,rfl,bF,hb⟩;replace bF:=bF.i (G:=FF) (λb _ k=>k.elim id (λk=>aW.o b (by omega)));replace S0:=S0.I hb;clear hb CQ;unfold MD
  try simp only[PS]
  refine‹∀(a:Act) (w:World),wpList _ _ _ _ a w->_› _ _ ?_
  refine BI rfl 53 _ _ rfl (w.heap.size+1+1) 0 (wA aD q1) rfl rfl (S0.r4.there rfl) MF (by kernel_rfl) ?_
  try simp only[PS]
  obtain⟨y8,aA⟩:∃y9,y9=v4.setCells (w.heap.size+1+1) 0 (wL aD q1):=⟨_,rfl⟩;obtain⟨r8,bI,F8⟩:=S0.fin (bF) cQ.o (wL aD q1) rfl y8 aA;rw[<-aA];clear aA S0
  try go_wp2
  exact RY 4 53 results23 _ rfl (wL aD q1) _ r8 underlying53 rfl MF rfl ⟨q1,rfl,F8,bI⟩
 have k5:(e.K == 5)=false:=by simp[hK]
 have dL:=LE hK;clear hK;obtain⟨d0,d1,d2,d3⟩:=S0.r3.k4;have dl:=S0.r3.lt;go_upto_region 3 with fail;refine BA ?_;refine AN rfl 53 _ rfl w.heap.size 0 rfl _ _ S0.r2.range underlying53 rfl MF ?_;simp only[PS];go_wp2_with fail;clear d0 d1 d2 d3 dl k5;refine(CC.o _ S0.f.at (eW.o.I S0.e)).i ?_;rintro r4 v4 ⟨oa,oc,ob,oe,rfl,eN,own,g1,g2,hb⟩;have od:DepF v4 FF (λW=>OwnDn W D.rs D.ops oa ob):=WW (iq own g1 g2) (λb k1 _=>aW.o b (by omega));have l4:=hb.size;replace S0:=S0.I hb;clear own g1 g2 hb CC eN eW;unfold MQ;go_upto_region 4 with fail;generalize cP:v4.alloc _=v5;obtain⟨hb,eT,bX⟩:=LJ cP;clear cP;obtain⟨XB,cL⟩:∃y,y=v4.heap.size:=⟨_,rfl⟩;rw[<-cL]at bX⊢;have gJ:w.heap.size+1+1+1<=XB:=by omega
 have S1:DoS w v5 FF (wL x q) [.int .i64 e.K,.slice a e.b.length c,.int .i64 e.cut,.slice f e.fs.length d] x q (λW=>True/\rj W XB (dJ D.C D.W D.S D.L D.T D.H D.F D.R D.U D.O (.slice oa D.rs.length oc) (.slice ob D.ops.length oe)) D oa ob):=(S0.I hb).add ((QI bX.l (aW.o _ gJ)).and (od.I hb));have l5:XB<v5.heap.size:=S1.m.l.2.1.lt;clear S0 od hb bX eT cL;generalize Value.tuple _=T0;generalize Value.agg _=A0;generalize Value.agg _=A1;generalize Value.agg _=A2;go_cut [31] from 25 to 30 (λbv wx=>bv=.bool (decide (u=false\/D.C≠0))/\wx=v5)
 case first =>
  have d0:=S1.m.l.2.1.x 0;have dl:=S1.m.l.2.1.lt
  cases u with
  | false =>
   go_wp2_with fail;go_meet;exact⟨by simp,rfl⟩
  | true =>
   by_cases hC:D.C=0
   ·have fZ:(D.C == 0)=true:=by simp[hC]
    go_wp2_with fail;go_meet;exact⟨by simp[hC],rfl⟩
   have fZ:(D.C == 0)=false:=by simp[hC]
   go_wp2_with fail;go_meet;exact⟨by simp[hC],rfl⟩
 case rest =>
 obtain⟨rfl,aU⟩:=hcut;rw[aU];clear aU
 by_cases dP:u=false\/D.C≠0
 ·have er:aD=x:=by rw[aP.o];exact WN dL.o dH.o dP
  subst er;rw[AO dP];go_upto_region 5 with fail;refine BA ?_;refine AN rfl 53 _ rfl w.heap.size 0 rfl _ _ S1.r2.range underlying53 rfl MF ?_;simp only[PS];refine BI rfl 53 _ _ rfl (w.heap.size+1+1) 0 (wA aD q) rfl rfl (S1.r4.there rfl) MF (by kernel_rfl) ?_
  try simp only[PS]
  obtain⟨y8,aA⟩:∃y9,y9=v5.setCells (w.heap.size+1+1) 0 (wL aD q):=⟨_,rfl⟩;obtain⟨r8,bI,F8⟩:=S1.fin (S1.f) cQ.o (wL aD q) rfl y8 aA;rw[<-aA];clear aA S1
  try go_wp2
  exact RY 4 53 results23 _ rfl (wL aD q) _ r8 underlying53 rfl MF rfl ⟨q,rfl,F8,bI⟩
 rw[AI dP]
 obtain⟨rfl,hC⟩:u=true/\D.C=0:=by cases u<;>simp_all
 have HC:=LE hC;clear dP hC;obtain⟨N,HN⟩:∃N,Hid (N=VE e D):=⟨_,LE rfl⟩;obtain⟨CB,bT⟩:∃b,Hid (b=QH e D):=⟨_,LE rfl⟩;have gX:N<=D.ops.length:=by rw[HN.o];exact tz e D
 have bU:Hid (CB=true->e.cut=(N:Int)):=LE (λk=>by rw[bT.o]at k;have k:=AZ (by unfold QH at k;exact k);rw[HN.o];unfold VE;rw[AK k];omega);have bV:Hid (CB=false->N=D.ops.length):=LE (λk=>by rw[bT.o]at k;have k:=JF (by unfold QH at k;exact k);rw[HN.o];unfold VE;rw[AE k]);have fW:=S1.m.l.2.1.x 11;have dl:=S1.m.l.2.1.lt;have e2:=S1.r3.x 2;have el:=S1.r3.lt;go_upto_region 7 with fail;go_cut [8] from 36 to 44 (λcv wx=>cv=.bool CB/\wx=v5)
 case first =>
  by_cases k1:0<=e.cut
  ·by_cases k2:e.cut<=(D.ops.length:Int)
   ·have cU:CB=true:=by rw[bT.o];unfold QH;exact AO ⟨k1,k2⟩
    clear bU bV;go_wp2;go_meet;exact⟨by rw[cU],rfl⟩
   have cU:CB=false:=by rw[bT.o];unfold QH;exact AI (λh=>k2 h.2)
   clear bU bV;go_wp2;go_meet;exact⟨by rw[cU],rfl⟩
  have cU:CB=false:=by rw[bT.o];unfold QH;exact AI (λh=>k1 h.1)
  clear bU bV;go_wp2;go_meet;exact⟨by rw[cU],rfl⟩
 case rest =>
 obtain⟨rfl,aU⟩:=hcut;rw[aU];clear aU;go_upto_if 45 with fail;go_cut [7] from 46 to 47 (λnv wx=>nv=.int .i64 (N:Int)/\wx=v5)
 case first =>
  cases CB with
  | true =>
   have hn:=LE (bU.o rfl);clear bU bV;go_wp2;go_meet;exact⟨by rw[hn.o],rfl⟩
  | false =>
   have hn:=LE (bV.o rfl);clear bU bV;go_wp2;go_meet;exact⟨by rw[hn.o],rfl⟩
 case rest =>
 obtain⟨rfl,aU⟩:=hcut;rw[aU];clear aU bU bV fW dl e2 el;have gW:(N:Int)<=1000:=by omega
 have eC:=S1.r2.x 15;have cl:=S1.r2.lt;go_wp2_with (at_builtin;refine ux rfl _ _ 22 rfl 9 i0 (.string ByteArray.empty) 1 16 underlying22 HI.o.1 HI.o.2.1 HI.o.2.2.1 HI.o.2.2.2 rfl v5.heap.size v5.heap.size rfl (DM _ #[] 0 (AA _) (by simp) (by simp)) _ rfl x.ts.length _ (af (S1.f.h5.l.I (WU _ _)) _ _ underlying22 q.ct) (by omega) (by omega) (by simp) ?_;intro g0 eE ws bP gK fI);have fA:Below v5.heap.size v5 ws:=(WU _ _).j (fI.i (by simp));clear fI gK eC cl;go_loopw [9,10] (λwv iv wr=>qW v5 wr x.ts D.ops N wv iv) (λ_ iv _=>N-(intOf iv).toNat)
 case atStart=>exact⟨0,g0,eE,AH _,rfl,by simp[OJ],by simpa[OJ] using bP,fA⟩
 case round =>
  clear bP fA;obtain⟨j,g,cap,hj,rfl,rfl,aS,hB⟩:=hrel;have fJ:=qh (D.ops.take j);rw[BC]at fJ;have gL:(x.ts++OJ (D.ops.take j)).length<=4000:=by rw[AF];omega
  obtain⟨LL,cF⟩:∃y,Hid (y=x.ts++OJ (D.ops.take j)):=⟨_,LE rfl⟩;rw[<-cF.o]at aS gL⊢;clear fJ;replace S1:=S1.I hB
  by_cases iB:j<N
  ·have gM:(j:Int)<(N:Int):=by omega
   have gY:(0:Int)<=(j:Int):=by omega
   have gZ:(j:Int)<(D.ops.length:Int):=by omega
   have iK:=S1.m.l.2.1.x 11;have iL:=S1.m.l.2.1.lt;obtain⟨b1,o1,s0,n1,t2,rfl,c0,c1,c2,fU⟩:=S1.m.l.2.2.p.ops.at (k:=j) (by omega);have eR:=zf D.ops j (by omega);rw[<-fU.o]at eR;have dZ:=LE eR;clear eR S1;have dR:=LE aS;have cI:=LE hB;have iI:=vq c0;clear aS hB;have iG:IntKind.i64.wrap ((j:Int)+1)=((j+1:Nat):Int):=by rw[dx _ (by omega) (by omega)];omega
   cases s0 with
   | true =>
    go_wp2;exact⟨⟨j+1,g,cap,by omega,by go_num,by rw[dZ.o];simp[cF.o],by rw[dZ.o];simpa[cF.o] using dR.o,cI.o⟩,by simp[intOf];omega⟩
   | false =>
    go_wp2_with (at_builtin;refine PU _ rfl _ _ 22 rfl v5.heap.size underlying22 HI.o rfl (by omega) _ LL.length _ rfl (dR.o.alloc _) ⟨wr.heap.size,0,none⟩ 1 1 [.string t2] rfl rfl (World.news_of_block (AY wr _)) (by intro u hu;simp at hu;subst hu;rfl) (by have:=cI.o.size;simp;omega) (wr.heap.size+1) (by simp) ?_;intro g9 aI w9 bQ aZ bJ cA;have fT:=LE bQ;have fS:=LE aZ;clear bQ aZ bJ);have e9:x.ts++OJ (D.ops.take (j+1))=LL++[t2]:=by rw[dZ.o,cF.o];simp
    have fY:Below v5.heap.size v5 w9:=RL ((cI.o).alloc cI.o.size _) (dR.o.alloc _) fS.o (by have:=cI.o.size;simp;omega);exact⟨⟨j+1,g9,aI,by omega,by go_num,by rw[e9];simp,by rw[e9];simpa using fT.o,fY⟩,by simp[intOf];omega⟩
  have fQ:j=N:=by omega
  have eB:Hid (LL=QP x e D):=LE (by rw[cF.o,fQ,HN.o];rfl);have iC:¬(j:Int)<(N:Int):=by omega
  clear fQ;have gT:=cq aS;have iH:XB<wr.heap.size:=S1.m.l.2.1.lt;have gQ:w.heap.size+1+1+1<=g:=by omega
  replace S1:=S1.add (QI (RW aS) (aW.o _ gQ));clear hB aS cF;obtain⟨PP,bW⟩:∃y,Hid (y=OL x e D):=⟨_,LE rfl⟩;have gN:PP.length<=201:=by rw[bW.o];unfold OL;split<;>(try simp)<;>omega
  have cH:=S1.r2.x 14;have cl:=S1.r2.lt;have e0:=S1.r3.x 0;have el:=S1.r3.lt;go_upto_if 77 with fail;go_cut [11] from 75 to 85 (λpv wx=>qX wr wx FF PP pv)
  case first =>
   clear cH cl
   by_cases k2:e.K=2
   ·have ep:PP=x.P++[D.rs]:=by rw[bW.o];unfold OL;rw[AK k2]
    have eS:(e.K == 2)=true:=by simp[k2]
    clear k2;obtain⟨news,cC,cB,eP⟩:=Gz (P:=prog) S1.f.h4 51 48 underlying51 q.cp;go_upto_region 18 with fail;clear e0 el
    have HK:Hid (∀W,Below wr.heap.size wr W->W.cell? ⟨XB,10,none⟩=some (.slice oa D.rs.length oc)):=λW hb=>(S1.I hb).m.l.1.2.1.x 10
    refine AP (S:=λw'=>w'.cell? ⟨XB,10,none⟩=some (.slice oa D.rs.length oc)) (by kernel_rfl) (HK.o _ (AB _ _).drew) (λdM=>?_);refine TY 1 (.slice q.p x.P.length q.cp) rfl dM (TY 3 (.pointer (some ⟨XB,1,none⟩)) rfl dM (TY 4 (.pointer (some ⟨XB,10,none⟩)) rfl dM (TY 5 (.agg #[.slice oa D.rs.length oc]) rfl dM ?_)));simp only[PS];refine EZ (rs:=[0,6]) (by kernel_rfl) (by simp) ?_;refine CY rfl (λKq aC=>?_) (CY rfl (λKq aC=>?_) EX)
    ·obtain⟨y0,aJ⟩:∃y,y=wr.drew:=⟨_,rfl⟩
     rw[<-aJ];have b7:Below wr.heap.size wr y0:=by rw[aJ];exact(AB _ _).drew
     clear aJ;go_simp;have cT:=WU y0 (.cells #[] 48);have bC:=ME y0 #[] 48
     have aE:=DM (w:=y0) (e:=48) (size:=1) (base:=wr.heap.size) #[] 0 b7.size (by first|simp|decide|omega) (by first|simp|decide|(unfold maxLen;omega)|omega)
     obtain⟨y1,aM⟩:∃y,y=y0.alloc (.cells #[] 48):=⟨_,rfl⟩;obtain⟨b0,aL⟩:∃y,y=y0.heap.size:=⟨_,rfl⟩;rw[<-aM]at cT bC aE⊢;rw[<-aL]at bC aE⊢;have aQ:=b7.j (cT.i b7.size);clear aM;clear aL;refine aC.o _ _ (HK.o _ aQ) (λgE=>?_)
     try simp only[PS]
     refine EZ (rs:=[2,6]) (by kernel_rfl) (by simp) ?_;refine CY rfl (λKq aC=>?_) (CY rfl (λKq aC=>?_) EX)
     ·refine qt rfl _ _ 51 rfl 48 i1 (.agg #[.slice none 0 0]) 1 24 underlying51 HJ.o.1 HJ.o.2.1 HJ.o.2.2.1 HJ.o.2.2.2 rfl b0 wr.heap.size rfl aE _ rfl x.P.length news (cC _ aQ) (by omega) (by omega) aQ.size ?_
      intro g3 cJ y2 bE fO aR;have aH:=aQ.j (aR.i aQ.size);refine aC.o _ _ (HK.o _ aH) (λgF=>?_)
      try simp only[PS]
      refine RD 6 rfl (λKq aC=>?_);go_simp;have aO:=WU y2 (.cells #[.slice oa D.rs.length oc] 48);have aB:=ME y2 #[.slice oa D.rs.length oc] 48
      have aG:=DM (w:=y2) (e:=48) (size:=1) (base:=wr.heap.size) #[.slice oa D.rs.length oc] 1 aH.size (by first|simp|decide|omega) (by first|simp|decide|(unfold maxLen;omega)|omega)
      obtain⟨y3,aM⟩:∃y,y=y2.alloc (.cells #[.slice oa D.rs.length oc] 48):=⟨_,rfl⟩;obtain⟨b6,aL⟩:∃y,y=y2.heap.size:=⟨_,rfl⟩;rw[<-aM]at aO aB aG⊢;rw[<-aL]at aB aG⊢;have aN:=aH.j (aO.i aH.size);clear aM;clear aL;have bE:=LY bE aO;refine aC.o _ _ (HK.o _ aN) (λgG=>?_)
      try simp only[PS]
      refine RD 7 rfl (λKq aC=>?_);refine QO _ rfl _ _ 51 rfl wr.heap.size underlying51 HJ.o rfl (by omega) _ x.P.length _ rfl bE ⟨b6,0,none⟩ 1 1 [.slice oa D.rs.length oc] rfl rfl (λj u hu=>by rw[ae];exact aB.cell j u hu) (by intro u hu;simp at hu;subst hu;rfl) aN.size _ rfl ?_;intro g9 aI y4 o9 aY bJ cA;have aV:Below wr.heap.size wr y4:=RL aN bE aY aN.size;refine aC.o _ _ (HK.o _ aV) (λeL=>?_)
      try simp only[PS]
      refine RD 8 rfl (λKq aC=>?_);go_simp;refine aC.o _ _ eL (λ_=>?_)
      try simp only[PS]
      refine DN ?_;clear HK;go_wp2_with fail;go_meet;have r9:=RW o9;have eZ:=cq o9;refine⟨some ⟨g9,0,none⟩,aI,by rw[ep];simp,?_,aV⟩;rw[ep];have s9:=aV;exact fa (G:=FF) cB (λi hi=>by obtain⟨p',c',k1,k2⟩:=eP i hi;exact⟨p',c',k1,k2.I s9⟩) r9 (aW.o _ (by omega)) ((S1.m.I s9).map λW k=>k.1.2.2.s.prs)
     go_simp
     have aR:=WU y1 (.cells #[.slice oa D.rs.length oc] 48);have aB:=ME y1 #[.slice oa D.rs.length oc] 48
     have aG:=DM (w:=y1) (e:=48) (size:=1) (base:=wr.heap.size) #[.slice oa D.rs.length oc] 1 aQ.size (by first|simp|decide|omega) (by first|simp|decide|(unfold maxLen;omega)|omega)
     obtain⟨y2,aM⟩:∃y,y=y1.alloc (.cells #[.slice oa D.rs.length oc] 48):=⟨_,rfl⟩;obtain⟨b6,aL⟩:∃y,y=y1.heap.size:=⟨_,rfl⟩;rw[<-aM]at aR aB aG⊢;rw[<-aL]at aB aG⊢;have aH:=aQ.j (aR.i aQ.size);clear aM;clear aL;have aE:=LY aE aR;refine aC.o _ _ (HK.o _ aH) (λgH=>?_)
     try simp only[PS]
     refine RD 2 rfl (λKq aC=>?_);refine qt rfl _ _ 51 rfl 48 i1 (.agg #[.slice none 0 0]) 1 24 underlying51 HJ.o.1 HJ.o.2.1 HJ.o.2.2.1 HJ.o.2.2.2 rfl b0 wr.heap.size rfl aE _ rfl x.P.length news (cC _ aH) (by omega) (by omega) aH.size ?_;intro g3 cJ y3 bE fO aO;have aN:=aH.j (aO.i aH.size);have aB:=aB.I aO;refine aC.o _ _ (HK.o _ aN) (λgI=>?_)
     try simp only[PS]
     refine RD 7 rfl (λKq aC=>?_);refine QO _ rfl _ _ 51 rfl wr.heap.size underlying51 HJ.o rfl (by omega) _ x.P.length _ rfl bE ⟨b6,0,none⟩ 1 1 [.slice oa D.rs.length oc] rfl rfl (λj u hu=>by rw[ae];exact aB.cell j u hu) (by intro u hu;simp at hu;subst hu;rfl) aN.size _ rfl ?_;intro g9 aI y4 o9 aY bJ cA;have aV:Below wr.heap.size wr y4:=RL aN bE aY aN.size;refine aC.o _ _ (HK.o _ aV) (λeM=>?_)
     try simp only[PS]
     refine RD 8 rfl (λKq aC=>?_);go_simp;refine aC.o _ _ eM (λ_=>?_)
     try simp only[PS]
     refine DN ?_;clear HK;go_wp2_with fail;go_meet;have r9:=RW o9;have eZ:=cq o9;refine⟨some ⟨g9,0,none⟩,aI,by rw[ep];simp,?_,aV⟩;rw[ep];have s9:=aV;exact fa (G:=FF) cB (λi hi=>by obtain⟨p',c',k1,k2⟩:=eP i hi;exact⟨p',c',k1,k2.I s9⟩) r9 (aW.o _ (by omega)) ((S1.m.I s9).map λW k=>k.1.2.2.s.prs)
    obtain⟨y0,aJ⟩:∃y,y=wr.drew:=⟨_,rfl⟩
    rw[<-aJ];have b7:Below wr.heap.size wr y0:=by rw[aJ];exact(AB _ _).drew
    clear aJ;go_simp;have cT:=WU y0 (.cells #[.slice oa D.rs.length oc] 48);have aB:=ME y0 #[.slice oa D.rs.length oc] 48
    have aG:=DM (w:=y0) (e:=48) (size:=1) (base:=wr.heap.size) #[.slice oa D.rs.length oc] 1 b7.size (by first|simp|decide|omega) (by first|simp|decide|(unfold maxLen;omega)|omega)
    obtain⟨y1,aM⟩:∃y,y=y0.alloc (.cells #[.slice oa D.rs.length oc] 48):=⟨_,rfl⟩;obtain⟨b6,aL⟩:∃y,y=y0.heap.size:=⟨_,rfl⟩;rw[<-aM]at cT aB aG⊢;rw[<-aL]at aB aG⊢;have aQ:=b7.j (cT.i b7.size);clear aM;clear aL;refine aC.o _ _ (HK.o _ aQ) (λfF=>?_)
    try simp only[PS]
    refine RD 0 rfl (λKq aC=>?_);go_simp;have aR:=WU y1 (.cells #[] 48);have bC:=ME y1 #[] 48
    have aE:=DM (w:=y1) (e:=48) (size:=1) (base:=wr.heap.size) #[] 0 aQ.size (by first|simp|decide|omega) (by first|simp|decide|(unfold maxLen;omega)|omega)
    obtain⟨y2,aM⟩:∃y,y=y1.alloc (.cells #[] 48):=⟨_,rfl⟩;obtain⟨b0,aL⟩:∃y,y=y1.heap.size:=⟨_,rfl⟩;rw[<-aM]at aR bC aE⊢;rw[<-aL]at bC aE⊢;have aH:=aQ.j (aR.i aQ.size);clear aM;clear aL;have aB:=aB.I aR;refine aC.o _ _ (HK.o _ aH) (λfG=>?_)
    try simp only[PS]
    refine RD 2 rfl (λKq aC=>?_);refine qt rfl _ _ 51 rfl 48 i1 (.agg #[.slice none 0 0]) 1 24 underlying51 HJ.o.1 HJ.o.2.1 HJ.o.2.2.1 HJ.o.2.2.2 rfl b0 wr.heap.size rfl aE _ rfl x.P.length news (cC _ aH) (by omega) (by omega) aH.size ?_;intro g3 cJ y3 bE fO aO;have aN:=aH.j (aO.i aH.size);have aB:=aB.I aO;refine aC.o _ _ (HK.o _ aN) (λfH=>?_)
    try simp only[PS]
    refine RD 7 rfl (λKq aC=>?_);refine QO _ rfl _ _ 51 rfl wr.heap.size underlying51 HJ.o rfl (by omega) _ x.P.length _ rfl bE ⟨b6,0,none⟩ 1 1 [.slice oa D.rs.length oc] rfl rfl (λj u hu=>by rw[ae];exact aB.cell j u hu) (by intro u hu;simp at hu;subst hu;rfl) aN.size _ rfl ?_;intro g9 aI y4 o9 aY bJ cA;have aV:Below wr.heap.size wr y4:=RL aN bE aY aN.size;refine aC.o _ _ (HK.o _ aV) (λcS=>?_)
    try simp only[PS]
    refine RD 8 rfl (λKq aC=>?_);go_simp;refine aC.o _ _ cS (λ_=>?_)
    try simp only[PS]
    refine DN ?_;clear HK;go_wp2_with fail;go_meet;have r9:=RW o9;have eZ:=cq o9;refine⟨some ⟨g9,0,none⟩,aI,by rw[ep];simp,?_,aV⟩;rw[ep];have s9:=aV;exact fa (G:=FF) cB (λi hi=>by obtain⟨p',c',k1,k2⟩:=eP i hi;exact⟨p',c',k1,k2.I s9⟩) r9 (aW.o _ (by omega)) ((S1.m.I s9).map λW k=>k.1.2.2.s.prs)
   have ep:PP=x.P:=by rw[bW.o];unfold OL;rw[AE k2]
   have eS:(e.K == 2)=false:=by simp[k2]
   go_wp2_with fail;go_meet;rw[ep];exact⟨q.p,q.cp,rfl,S1.f.h4,AB _ _⟩
  case rest =>
  clear cH cl e0 el;obtain⟨pa,pc,rfl,eV,hb⟩:=hcut
  rename World=>vp
  replace S1:=S1.I hb;clear hb;go_upto_region 19 with fail;go_cut [93] from 86 to 92 (λbv wx=>bv=.bool (decide (2000<LL.length\/200<PP.length))/\wx=vp)
  case first =>
   by_cases t1:2000<LL.length
   ·have gR:(2000:Int)<(LL.length:Int):=by omega
    go_wp2_with fail;go_meet;exact⟨by rw[AO (.inl t1)],rfl⟩
   have gR:¬((2000:Int)<(LL.length:Int)):=by omega
   by_cases t2:200<PP.length
   ·have gS:(200:Int)<(PP.length:Int):=by omega
    go_wp2_with fail;go_meet;exact⟨by rw[AO (.inr t2)],rfl⟩
   have gS:¬((200:Int)<(PP.length:Int)):=by omega
   go_wp2_with fail;go_meet;exact⟨by rw[AI (by omega)],rfl⟩
  case rest =>
  obtain⟨rfl,aU⟩:=hcut;rw[aU];clear aU
  by_cases cW:2000<LL.length\/200<PP.length
  ·have er:aD=x:=by rw[aP.o];exact na dL.o dH.o HC.o (by rw[<-eB.o,<-bW.o];exact cW)
   subst er;rw[AO cW];go_upto_region 20 with fail;refine BA ?_;refine AN rfl 53 _ rfl w.heap.size 0 rfl _ _ S1.r2.range underlying53 rfl MF ?_;simp only[PS];refine BI rfl 53 _ _ rfl (w.heap.size+1+1) 0 (wA aD q) rfl rfl (S1.r4.there rfl) MF (by kernel_rfl) ?_
   try simp only[PS]
   obtain⟨y8,aA⟩:∃y9,y9=vp.setCells (w.heap.size+1+1) 0 (wL aD q):=⟨_,rfl⟩;obtain⟨r8,bI,F8⟩:=S1.fin (S1.f) cQ.o (wL aD q) rfl y8 aA;rw[<-aA];clear aA S1
   try go_wp2
   exact RY 4 53 results23 _ rfl (wL aD q) _ r8 underlying53 rfl MF rfl ⟨q,rfl,F8,bI⟩
  rw[AI cW];have dQ:Hid (¬(2000<(QP x e D).length\/200<(OL x e D).length)):=LE (by rw[<-eB.o,<-bW.o];exact cW);have fV:=LE (HO.o.ran e (d:=D) HD.o (by have:=dQ.o;omega));clear cW;obtain⟨RR,dV⟩:∃y,Hid (y=NU x.ss x.ws D.ops (N:Int)):=⟨_,LE rfl⟩;have eY:Hid (x.ran e D={ x with ss:=RR.1,ws:=RR.2,P:=PP,ts:=LL }):=LE (by rw[dV.o,bW.o,eB.o,HN.o];rfl);have CG:=CF.o ob oe (N:Int);rw[<-dV.o]at CG;have eU:=LE CG;clear CG CF dV;have c1:=S1.r2.x 1;have c2:=S1.r2.x 2;have cH:=S1.r2.x 14;have eC:=S1.r2.x 15;have f1:=S1.r2.q 1;have f2:=S1.r2.q 2;have eK:=S1.r2.q 14;have fX:=S1.r2.q 15;have cl:=S1.r2.lt;have gV:=S1.m.l.1.2.1.x 11;have xl:=S1.m.l.1.2.1.lt;have iJ:XB≠w.heap.size:=by omega
  go_wp2_with fail;clear c1 f1 c2 f2 cH eK eC fX cl;clear gV xl;have S2:=(S1.set 15 (by simp) (.slice (some ⟨g,0,none⟩) LL.length cap)).set 14 (by simp) (.slice pa PP.length pc);have aF:=(eV.z (MC (BH vp (some w.heap.size)) 15 (.slice (some ⟨g,0,none⟩) LL.length cap)) (λg e=>by cases e;exact S1.n.1)).z (MC (BH _ (some w.heap.size)) 14 (.slice pa PP.length pc)) (λg e=>by cases e;exact S1.n.1);generalize eF:World.setCell (World.setCell _ _ _) _ _=v6 at S2 aF⊢;clear eF S1 eV;refine(eU.o _ S2.f.h1.l S2.f.h2.l S2.m.l.1.2.2.p.ops).i ?_;rintro r7 v7 ⟨a1,k1,aK,aT,rfl,eQ,g1,g2,hb⟩;have l6:=S2.r4.lt
  have d1:DepF v7 FF (λW=>Strs W a1 RR.1):=(WW (PG (lo:=v6.heap.size) eQ.s TC g1) (λb k _=>aW.o b (by omega))).map λW k=>k.strs
  have d2:DepF v7 FF (λW=>Wrs W aK RR.2):=(WW (PG (lo:=v6.heap.size) eQ.p VS g2) (λb k _=>aW.o b (by omega))).map λW k=>k.wrs
  replace S2:=(S2.I hb).add (d1.and d2);replace aF:=aF.I hb;clear eQ g1 g2 hb d1 d2 eU l6;have c1:=S2.r2.x 1;have c2:=S2.r2.x 2;have f1:=S2.r2.q 1;have f2:=S2.r2.q 2;have cl:=S2.r2.lt;go_upto_region 24 with fail;clear c1 f1 c2 f2 cl;have S3:=(S2.set 1 (by simp) (.slice a1 RR.1.length k1)).set 2 (by simp) (.slice aK RR.2.length aT);replace aF:=(aF.z (MC (BH v7 (some w.heap.size)) 1 (.slice a1 RR.1.length k1)) (λg e=>by cases e;exact S2.n.1)).z (MC (BH _ (some w.heap.size)) 2 (.slice aK RR.2.length aT)) (λg e=>by cases e;exact S2.n.1);generalize eG:World.setCell (World.setCell _ _ _) _ _=v8 at S3 aF⊢;clear eG S2;have dd:=S3.m
  cases CB with
  | true =>
   have er:aD=(x.ran e D).pow e.fs:=by rw[aP.o];exact pu dL.o dH.o HC.o dQ.o bT.o.symm
   have eO:=fV.o.le;rw[eY.o]at er eO;have CQ:=LE (CP.o { x with ss:=RR.1,ws:=RR.2,P:=PP,ts:=LL } ⟨a1,k1,aK,aT,q.s,q.cs,pa,pc,some ⟨g,0,none⟩,cap⟩ v8 ⟨dd.map λW k=>k.2.1,dd.map λW k=>k.2.2,S3.f.h3,aF,dd.map λW k=>k.1.2.strs⟩ eO (eX.o.I S3.e));rw[<-er]at CQ;unfold MD at CQ;clear er eO dd aF;have d3:=S3.r3.x 3;have dl:=S3.r3.lt;go_upto_region 25 with fail;refine BA ?_;refine AN rfl 53 _ rfl w.heap.size 0 rfl _ _ S3.r2.range underlying53 rfl MF ?_;simp only[PS];go_wp2_with fail;clear d3 dl;refine CQ.o.i ?_;rintro r9 v9 ⟨q1,rfl,bF,hb⟩;have l8:=S3.r4.lt;replace bF:=bF.i (G:=FF) (λb _ k=>k.elim id (λk=>aW.o b (by omega)));replace S3:=S3.I hb;clear hb CQ;unfold MD
   try simp only[PS]
   refine‹∀(a:Act) (w:World),wpList _ _ _ _ a w->_› _ _ ?_
   refine BI rfl 53 _ _ rfl (w.heap.size+1+1) 0 (wA aD q1) rfl rfl (S3.r4.there rfl) MF (by kernel_rfl) ?_
   try simp only[PS]
   obtain⟨y8,aA⟩:∃y9,y9=v9.setCells (w.heap.size+1+1) 0 (wL aD q1):=⟨_,rfl⟩;obtain⟨r8,bI,F8⟩:=S3.fin (bF) cQ.o (wL aD q1) rfl y8 aA;rw[<-aA];clear aA S3
   try go_wp2
   exact RY 4 53 results23 _ rfl (wL aD q1) _ r8 underlying53 rfl MF rfl ⟨q1,rfl,F8,bI⟩
  | false =>
   obtain⟨PF,dU⟩:∃y:List (List Pr),Hid (y=if e.K=2 then PP else [D.rs]):=⟨_,LE rfl⟩;have er:aD={ (x.ran e D).upS D with P:=PF }:=by rw[aP.o,dU.o,bW.o];exact Hm dL.o dH.o HC.o dQ.o bT.o.symm
   rw[eY.o]at er;have ER:=LE er;clear er dd;go_upto_region 26 with fail;refine BA ?_;refine fx rfl _ _ _ rfl (.pointer (some ⟨XB,1,none⟩)) (by have xl:=S3.m.l.1.1.2.1.lt;go_simp) ?_;simp only[PS];refine AN rfl 50 _ rfl XB 1 rfl (sJ D.W D.S D.L D.T D.H D.F D.R D.U D.O (.slice oa D.rs.length oc)) _ (Row.rangeMid (pre:=[.int .i64 D.C]) (cs:=(sJ D.W D.S D.L D.T D.H D.F D.R D.U D.O (.slice oa D.rs.length oc))) (post:=[.slice ob D.ops.length oe]) S3.m.l.1.1.2.1) underlying50 rfl ZQ ?_;simp only[PS];refine fx rfl _ _ _ rfl (.pointer (some ⟨w.heap.size,4,none⟩)) (by have cl:=S3.r2.lt;go_simp) ?_;simp only[PS];refine BI rfl 50 _ _ rfl w.heap.size 4 (sK D.W D.S D.L D.T D.H D.F D.R D.U D.O (.slice oa D.rs.length oc)) rfl rfl (Row.thereMid (pre:=[.int .i64 x.w,.slice a1 RR.1.length k1,.slice aK RR.2.length aT,.bool x.up]) (cs:=(sJ x.W x.S x.L x.T x.H x.F x.R x.U x.O (.slice q.s x.rs.length q.cs))) (post:=[.slice pa PP.length pc,.slice (some ⟨g,0,none⟩) LL.length cap]) S3.r2 rfl) ZQ (by kernel_rfl) ?_
   try simp only[PS]
   have S4:=S3.put (PJ v8 w.heap.size 4 (sJ D.W D.S D.L D.T D.H D.F D.R D.U D.O (.slice oa D.rs.length oc))) (Row.setsMid (pre:=[.int .i64 x.w,.slice a1 RR.1.length k1,.slice aK RR.2.length aT,.bool x.up]) (cs:=(sJ x.W x.S x.L x.T x.H x.F x.R x.U x.O (.slice q.s x.rs.length q.cs))) (post:=[.slice pa PP.length pc,.slice (some ⟨g,0,none⟩) LL.length cap]) S3.r2 (sJ D.W D.S D.L D.T D.H D.F D.R D.U D.O (.slice oa D.rs.length oc)) rfl);replace aF:=aF.z (PJ v8 w.heap.size 4 (sJ D.W D.S D.L D.T D.H D.F D.R D.U D.O (.slice oa D.rs.length oc))) (λg e=>by cases e;exact S3.n.1);generalize eH:v8.setCells _ _ _=v9 at S4 aF⊢;clear eH S3;have c3:=S4.r2.x 3;have f3:=S4.r2.q 3;have cl:=S4.r2.lt;have e0:=S4.r3.x 0;have el:=S4.r3.lt;go_upto_if 117 with fail;clear c3 f3 cl;have S5:=S4.set 3 (by simp) (.bool true);replace aF:=aF.z (MC (BH v9 (some w.heap.size)) 3 (.bool true)) (λg e=>by cases e;exact S4.n.1)
   generalize eI:World.setCell _ _ _=va at S5 aF⊢;clear eI S4;go_cut [] from 115 to 122 (λwx=>∃(pb:Option Addr) (pd:Nat),DoS w wx FF [.int .i64 x.w,.slice a1 RR.1.length k1,.slice aK RR.2.length aT,.bool true,.int .i64 D.W,.int .i64 D.S,.int .i64 D.L,.int .i64 D.T,.int .i64 D.H,.int .i64 D.F,.int .i64 D.R,.int .i64 D.U,.int .i64 D.O,.slice oa D.rs.length oc,.slice pb PF.length pd,.slice (some ⟨g,0,none⟩) LL.length cap] [.int .i64 e.K,.slice a e.b.length c,.int .i64 e.cut,.slice f e.fs.length d] x q (λW=>(((True/\rj W XB (dJ D.C D.W D.S D.L D.T D.H D.F D.R D.U D.O (.slice oa D.rs.length oc) (.slice ob D.ops.length oe)) D oa ob)/\Row W g (LL.map Value.string))/\(Strs W a1 RR.1/\Wrs W aK RR.2)))/\PstF wx FF pb PF)
   case first =>
    by_cases k2:e.K=2
    ·have ep:PF=PP:=by rw[dU.o,AK k2]
     have eS:(e.K == 2)=true:=by simp[k2]
     clear k2;go_wp2_with fail;go_meet;rw[ep];exact⟨pa,pc,S5,aF⟩
    have ep:PF=[D.rs]:=by rw[dU.o,AE k2]
    have eS:(e.K == 2)=false:=by simp[k2]
    clear k2;have cH:=S5.r2.x 14;have eK:=S5.r2.q 14;have cl:=S5.r2.lt;have gU:=S5.m.l.1.1.2.1.x 10;have xl:=S5.m.l.1.1.2.1.lt;go_wp2_with fail;clear cH eK cl;clear gU xl;go_meet;rw[ep];have gD:w.heap.size+1+1+1<=va.heap.size:=by have:=S5.r4.lt;omega
    have S6:=(S5.set 14 (by simp) (.slice (some ⟨va.heap.size,0,none⟩) 1 1));have zs:(va.setCell ⟨w.heap.size,14,none⟩ (.slice (some ⟨va.heap.size,0,none⟩) 1 1)).heap.size=va.heap.size:=AV _ _ _;generalize eJ:va.setCell _ _=vb at S6 zs⊢;clear eJ;have hb:=WU vb (.cells #[.slice oa D.rs.length oc] 48);have rN:=ME vb #[.slice oa D.rs.length oc] 48;rw[zs]at rN;exact⟨some ⟨va.heap.size,0,none⟩,1,S6.I hb,Aj rN (aW.o _ gD) ((S6.m.I hb).map λW k=>k.1.1.2.2.s.prs)⟩
   case rest =>
   clear S5 aF e0 el;obtain⟨pb,pd,S6,aF⟩:=hcut
   rename World=>vd
   have bF:WoF aD vd FF ⟨a1,k1,aK,aT,oa,oc,pb,pd,some ⟨g,0,none⟩,cap⟩:=by rw[ER.o];exact⟨S6.m.map λW k=>k.2.1,S6.m.map λW k=>k.2.2,S6.m.map λW k=>k.1.1.2.2.s.prs,aF,S6.m.map λW k=>k.1.2.strs⟩
   go_upto_region 30 with fail;refine BA ?_;refine AN rfl 53 _ rfl w.heap.size 0 rfl _ _ S6.r2.range underlying53 rfl MF ?_;simp only[PS];refine BI rfl 53 _ _ rfl (w.heap.size+1+1) 0 #[.int .i64 x.w,.slice a1 RR.1.length k1,.slice aK RR.2.length aT,.bool true,.int .i64 D.W,.int .i64 D.S,.int .i64 D.L,.int .i64 D.T,.int .i64 D.H,.int .i64 D.F,.int .i64 D.R,.int .i64 D.U,.int .i64 D.O,.slice oa D.rs.length oc,.slice pb PF.length pd,.slice (some ⟨g,0,none⟩) LL.length cap] rfl rfl (S6.r4.there rfl) MF (by kernel_rfl) ?_
   try simp only[PS]
   obtain⟨y8,aA⟩:∃y9,y9=vd.setCells (w.heap.size+1+1) 0 [.int .i64 x.w,.slice a1 RR.1.length k1,.slice aK RR.2.length aT,.bool true,.int .i64 D.W,.int .i64 D.S,.int .i64 D.L,.int .i64 D.T,.int .i64 D.H,.int .i64 D.F,.int .i64 D.R,.int .i64 D.U,.int .i64 D.O,.slice oa D.rs.length oc,.slice pb PF.length pd,.slice (some ⟨g,0,none⟩) LL.length cap]:=⟨_,rfl⟩;obtain⟨r8,bI,F8⟩:=S6.fin (bF) cQ.o [.int .i64 x.w,.slice a1 RR.1.length k1,.slice aK RR.2.length aT,.bool true,.int .i64 D.W,.int .i64 D.S,.int .i64 D.L,.int .i64 D.T,.int .i64 D.H,.int .i64 D.F,.int .i64 D.R,.int .i64 D.U,.int .i64 D.O,.slice oa D.rs.length oc,.slice pb PF.length pd,.slice (some ⟨g,0,none⟩) LL.length cap] rfl y8 aA;rw[<-aA];clear aA S6
   try go_wp2
   refine RY 4 53 results23 _ rfl [.int .i64 x.w,.slice a1 RR.1.length k1,.slice aK RR.2.length aT,.bool true,.int .i64 D.W,.int .i64 D.S,.int .i64 D.L,.int .i64 D.T,.int .i64 D.H,.int .i64 D.F,.int .i64 D.R,.int .i64 D.U,.int .i64 D.O,.slice oa D.rs.length oc,.slice pb PF.length pd,.slice (some ⟨g,0,none⟩) LL.length cap] _ r8 underlying53 rfl MF rfl ⟨⟨a1,k1,aK,aT,oa,oc,pb,pd,some ⟨g,0,none⟩,cap⟩,?_,F8,bI⟩;rw[ER.o];rfl
end
section
open Tryz
open Go.RowKit Go.MuLone
theorem Bg(aB:Nat)(x y:Wo)(q:Wp)(e:Ev)(a:Option Addr)(c:Nat)(f:Option Addr)(d SB:Nat)(o:Nat->Nat)(w:World)(hR:Row w SB (QM 0 x q))(h0:o SB=0)(aG:∀ar v,Sem.run prog (callFunc aB ar) v=.ok (.enter aB ar) v)
  (CF:∀w',Row w' SB (QM 1 x q)->w.grownBy w' (some SB)->Calls prog aB #[.pointer (some ⟨SB,0,none⟩),MK e a c f d] w' (λr aF=>r=.returned (.tuple #[])/\∃q' o',HpPost w' aF SB 1 o y q' o')):Calls prog 37 #[.pointer (some ⟨SB,0,none⟩),.func (.func aB) #[] #[],MK e a c f d] w λr w'=>r=.returned (.tuple #[])/\∃q' o',HpPost w w' SB 0 o y q' o':=by
 have lS:=hR.lt;have S0:=VW (M:=λ_=>True) hR (SX (λ_=>trivial));have HC:=LE CF;clear hR CF;unfold MK at HC⊢;go_enter_defers func37,ntmps37;go_upto_region 1 with fail;generalize aA:w.alloc _=v1;obtain⟨aD,aC,b2⟩:=LJ aA;clear aA;replace S0:=(S0.I aD).add (QI b2.l (by omega));clear b2 aC;have c0:=S0.r.x 0;have f0:=S0.r.q 0;have cl:=S0.r.lt;have hl:=aD.size;go_wp2_with (go_at_call 87;refine(lock_free oI ⟨SB,0,none⟩ _ c0 f0).i ?_;rintro r w2 ⟨rfl,aE⟩;have S1:=S0.set 0 (by simp) (.int .i32 1);rw[<-aE]at S1;have e0:=S1.m.l.2.x 0;have e1:=S1.m.l.2.x 1;have e2:=S1.m.l.2.x 2;have e3:=S1.m.l.2.x 3;have el:=S1.m.l.2.lt;clear aE S0 c0 f0 cl);clear e0 e1 e2 e3 el;refine(HC.o w2 S1.r S1.e).i ?_;rintro r w3 ⟨rfl,q3,o3,H3⟩;have HH:=LE H3;have HE:=LE S1.e;clear H3 S1 HC;go_wp2;refine leaves_cons (f:=88) (args:=#[.pointer (some ⟨SB,0,none⟩)]) (by simp) (by simp[go_sem]) ?_
 refine(unlock_deferred oI ⟨SB,0,none⟩ .returning _ (HH.o.r.x 0) (HH.o.r.q 0)).i ?_;rintro r u' w4 ⟨rfl,rfl,rfl⟩;refine⟨_,KA rfl _ _ _,rfl,q3,o3,?_⟩;have H:=HH.o;have E:=HE.o;have G:=MC (BH w3 (some SB)) 0 (.int .i32 0);exact⟨H.r.set 0 (by simp) (.int .i32 0),H.h.z G ((H.ag SB (AD lS E.size)).j h0),λb hb=>H.ag b (AD hb E.size),G.os.j (H.os.j E.os),G.tape.j (H.tape.j E.tape),G.output.j (H.output.j E.output),AL E.size (AL H.size G.size),λb h1 h2 h3=>(G.block b (AD h1 (AL E.size H.size)) (λe=>h2 (by injection e))).j ((H.block b (AD h1 E.size) h2 h3).j (E.block b h1 (λe=>h2 (by injection e))))⟩
end
section
open Tryz
open Go.RowKit
variable {w w':World}
theorem uW:(prog.info? 91).map (·.size)=some 6:=by kernel_rfl
def SY:Wo:=⟨0,[],[],false,0,0,0,0,0,0,0,0,0,[],[],[]⟩
def Wo.doR(x:Wo)(e:Ev):Wo:=if NR x=true then x.doE e else SY
theorem E5{v y:World}{SB:Nat}{l:Int}{o o':Nat->Nat}{x:Wo}{q:Wp}(hb:Below v.heap.size v y)(H:HpPost y w' SB l o x q o'):HpPost v w' SB l o x q o' :=⟨H.r,H.h,λb h=>H.ag b (AD h hb.size),H.os.j hb.os,H.tape.j hb.tape,H.output.j hb.output,AL hb.size H.size,λb h1 h2 h3=>(H.block b (AD h1 hb.size) h2 h3).j (hb.block b h1)⟩
theorem kq{x:Wo}(h:NR x=true):x.ok/\LS x.ss x.ws=true/\0<x.P.length:=by
 unfold NR at h;simp only[CU]at h;obtain⟨_,hd,hs,hp,ht⟩:=h;unfold QD at hp;unfold QU at ht;simp only[CU,DO,DX]at hp ht;refine⟨⟨.inl hd,?_,⟨hp.1.2,hp.2⟩,ht.1,λs aA=>by have:=ht.2 s aA;omega⟩,hd,by omega⟩;unfold PW at hs
 by_cases hu:x.up=true
 ·rw[AK hu]at hs
  unfold OF at hs;simp only[CU]at hs;exact hs.1.1.2
 rw[AE hu]at hs
 have:=AZ (by unfold PK at hs;exact hs);rw[AC this.2.2.2.2.2.2];exact UR
def dq(w w':World)(r:Ending)(y:Wo):Prop:=∃q o,r=.returned (MD y q)/\OO y w' q o/\(∀b,o b≠0->w.heap.size<=b/\b<w'.heap.size)/\Below w.heap.size w w'
theorem xS(x:Wo)(q:Wp)(e:Ev)(a:Option Addr)(c:Nat)(f:Option Addr)(d:Nat)(w:World)(h:x.at w q)(hc:x.rs.length<=q.cs)(hm:x.le 1048576)(bI:Chs w a e.b)(hi:Ints w f e.fs)(he:e.le)(ty:TypeId)(gv:Value)(bP:w.cell? ⟨1,0,none⟩=some (.iface ty gv))(bJ:w.cell? ⟨0,0,none⟩=some (.iface 318 (.agg #[.pointer (some ⟨3,223,none⟩)])))(cB:1<w.heap.size):Calls prog 9 #[MD x q,MK e a c f d] w λr w'=>dq w w' r (x.doR e):=by
 have CV:=LE (λw' k=>Gv x q w' k hc hm);have CC:=LE (λw' k (k2:LS x.ss x.ws=true) k3=>Ds x q w' k k2 k3);unfold MD at CV CC⊢;unfold MK;have HH:=LE h;have HB:=LE bI;have HI:=LE hi;have HE:=LE he;have HG:=LE (AG bP bJ);clear h bI hi he bP bJ hc hm;obtain⟨aA,aB⟩:∃y,Hid (y=x.doR e):=⟨_,LE rfl⟩;rw[<-aB.o];go_enter func9,ntmps9;go_upto_region 1 with fail;generalize aN:w.alloc _=v1;obtain⟨aX,z0,b0⟩:=LJ aN;clear aN;generalize aO:v1.alloc _=v2;obtain⟨aS,z1,b1⟩:=LJ aO;clear aO;generalize aP:v2.alloc _=v3;obtain⟨aT,z2,b2⟩:=LJ aP;clear aP;rw[z0]at b1 z1;rw[z1]at b2 z2;have hE:=aX.j ((aS.j (aT.i aS.size)).i aX.size);have rW:=((b0.I aS).I aT).l;have rE:=(b1.I aT).l;have rR:=b2.l;clear aX aS aT b0 b1 b2 z0 z1;refine BA ?_;refine AN rfl 53 _ rfl w.heap.size 0 rfl _ _ rW.range underlying53 rfl MF ?_;simp only[PS];go_wp2_with fail
 refine(CV.o _ (HH.o.I hE)).i ?_;rintro r v4 ⟨rfl,hb⟩;replace hE:=hE.j (hb.i hE.size);replace rW:=rW.I hb;replace rE:=rE.I hb;replace rR:=rR.I hb;clear hb CV;obtain⟨ok,aM⟩:∃y,Hid (y=NR x):=⟨_,LE rfl⟩;rw[<-aM.o]
 cases ok with
 | false =>
  have er:aA=SY:=by rw[aB.o];unfold Wo.doR;rw[<-aM.o,AE (by simp)]
  have ER:=LE er;clear er CC aB;go_upto_region 2 with fail;refine BA ?_;refine TD rfl (.agg #[.int .i64 0,.slice none 0 0,.slice none 0 0,.bool false,.int .i64 0,.int .i64 0,.int .i64 0,.int .i64 0,.int .i64 0,.int .i64 0,.int .i64 0,.int .i64 0,.int .i64 0,.slice none 0 0,.slice none 0 0,.slice none 0 0]) (by go_simp) ?_;simp only[PS];refine BI rfl 53 _ _ rfl (w.heap.size+1+1) 0 #[.int .i64 0,.slice none 0 0,.slice none 0 0,.bool false,.int .i64 0,.int .i64 0,.int .i64 0,.int .i64 0,.int .i64 0,.int .i64 0,.int .i64 0,.int .i64 0,.int .i64 0,.slice none 0 0,.slice none 0 0,.slice none 0 0] rfl rfl (rR.there rfl) MF (by kernel_rfl) ?_
  try simp only[PS]
  have G8:=PJ v4 (w.heap.size+1+1) 0 [.int .i64 0,.slice none 0 0,.slice none 0 0,.bool false,.int .i64 0,.int .i64 0,.int .i64 0,.int .i64 0,.int .i64 0,.int .i64 0,.int .i64 0,.int .i64 0,.int .i64 0,.slice none 0 0,.slice none 0 0,.slice none 0 0];have r8:=rR.sets [.int .i64 0,.slice none 0 0,.slice none 0 0,.bool false,.int .i64 0,.int .i64 0,.int .i64 0,.int .i64 0,.int .i64 0,.int .i64 0,.int .i64 0,.int .i64 0,.int .i64 0,.slice none 0 0,.slice none 0 0,.slice none 0 0] rfl;have E8:=hE.j (NE G8 hE.size (λx e=>by have e:=DA e;omega));generalize World.setCells _ _ _ _=y8 at r8 E8 G8⊢;clear G8 rW rE rR hE
  try go_wp2
  exact RY 4 53 results9 _ rfl [.int .i64 0,.slice none 0 0,.slice none 0 0,.bool false,.int .i64 0,.int .i64 0,.int .i64 0,.int .i64 0,.int .i64 0,.int .i64 0,.int .i64 0,.int .i64 0,.int .i64 0,.slice none 0 0,.slice none 0 0,.slice none 0 0] _ r8 underlying53 rfl MF rfl ⟨⟨none,0,none,0,none,0,none,0,none,0⟩,λ_=>0,by rw[ER.o];rfl,by rw[ER.o];exact⟨.inl rfl,.inl rfl,.inl rfl,.inl rfl,.inl rfl⟩,λb k=>absurd rfl k,E8⟩
 | true =>
  obtain⟨ho,cA,cC⟩:=kq aM.o.symm;have er:aA=x.doE e:=by rw[aB.o];unfold Wo.doR;rw[<-aM.o,AK rfl]
  have ER:=LE er;clear er aB aM;go_upto_region 3 with fail;refine BA ?_;refine AN rfl 53 _ rfl w.heap.size 0 rfl _ _ rW.range underlying53 rfl MF ?_;simp only[PS];go_wp2_with fail;refine(CC.o _ (HH.o.I hE) cA ho).i ?_;rintro r v5 ⟨q5,o5,news,rfl,W5,aU,aI,z5,hb⟩;have l5:=hb.size;have lR:=rR.lt;replace hE:=hE.j (hb.i hE.size);replace rW:=rW.I hb;replace rE:=rE.I hb;replace rR:=rR.I hb;clear hb CC;unfold MD;go_upto_region 4 with fail;generalize aQ:v5.alloc _=v6;obtain⟨hb,z6,b6⟩:=LJ aQ;have Z6:=LE z6;clear aQ z6
  iterate 6(generalize Value.agg _=A9)
  refine BA ?_;refine TD rfl (.agg #[.nilFunc,.func (.func 32) #[] #[],.func (.func 33) #[] #[],.func (.func 34) #[] #[],.func (.func 35) #[] #[],.func (.func 36) #[] #[]]) (by go_simp) ?_;simp only[PS];refine xy rfl (.pointer (some ⟨v6.heap.size,0,none⟩)) (v6.alloc (.cells #[.nilFunc,.nilFunc,.nilFunc,.nilFunc,.nilFunc,.nilFunc] 91)) (by go_simp) ?_;simp only[PS];refine BI rfl 91 _ _ rfl v6.heap.size 0 #[.nilFunc,.func (.func 32) #[] #[],.func (.func 33) #[] #[],.func (.func 34) #[] #[],.func (.func 35) #[] #[],.func (.func 36) #[] #[]] rfl rfl ((ME v6 #[.nilFunc,.nilFunc,.nilFunc,.nilFunc,.nilFunc,.nilFunc] 91).there rfl) uW (by kernel_rfl) ?_
  try simp only[PS]
  have rK:=(ME v6 #[.nilFunc,.nilFunc,.nilFunc,.nilFunc,.nilFunc,.nilFunc] 91).sets [.nilFunc,.func (.func 32) #[] #[],.func (.func 33) #[] #[],.func (.func 34) #[] #[],.func (.func 35) #[] #[],.func (.func 36) #[] #[]] rfl;have aG:Below v6.heap.size v6 ((v6.alloc (.cells #[.nilFunc,.nilFunc,.nilFunc,.nilFunc,.nilFunc,.nilFunc] 91)).setCells v6.heap.size 0 [.nilFunc,.func (.func 32) #[] #[],.func (.func 33) #[] #[],.func (.func 34) #[] #[],.func (.func 35) #[] #[],.func (.func 36) #[] #[]]):=(LG v6 _).j (NE (PJ _ _ _ _) (by simp) (λg e=>by cases e;exact AA _));generalize World.setCells _ _ _ _=v7 at rK aG⊢;obtain⟨SB,aF⟩:∃y,y=v5.heap.size:=⟨_,rfl⟩;obtain⟨KB,aE⟩:∃y,y=v6.heap.size:=⟨_,rfl⟩;have cE:=Z6.o;obtain⟨o6,aL⟩:∃y,Hid (y=λb=>if b<v5.heap.size then o5 b else 0):=⟨_,LE rfl⟩;have l4:w.heap.size+1+1<v4.heap.size:=lR
  have z6:∀b,b<v4.heap.size->o6 b=0:=λb hb=>by rw[aL.o];simp only[];rw[AK (by omega)];exact z5 b hb
  have zS:o6 SB=0:=by rw[aL.o];simp only[];rw[AE (by omega)]
  have dW:=((((W5.lab (o':=o6) (λb hb=>by rw[aL.o];exact AK hb)).depF zS).and (lm aI (λb k e=>by have:=(aI.lt b k).2;omega))).I hb).I aG;have dI:DepF w (λb=>b<w.heap.size) (λW=>Ints W f e.fs/\Chs W a e.b/\W.cell? ⟨1,0,none⟩=some (.iface ty gv)/\W.cell? ⟨0,0,none⟩=some (.iface 318 (.agg #[.pointer (some ⟨3,223,none⟩)]))):=ei ⟨HI.o,HB.o,HG.o⟩ (λw' hb=>⟨HI.o.I hb,HB.o.I hb,(hb.cell (p:=⟨1,0,none⟩) cB).j HG.o.1,(hb.cell (p:=⟨0,0,none⟩) (by show 0<_;omega)).j HG.o.2⟩);replace hE:=hE.j ((hb.j (aG.i hb.size)).i hE.size);replace dI:=(dI.step (hE.i (AH _)) (λb k _=>hE.block b k)).i (G:=λb=>b≠SB/\o6 b=0) (λb _ k=>⟨by omega,z6 b (by omega)⟩);have zK:o6 KB=0:=by rw[aL.o];simp only[];rw[AE (by omega)]
  have rS:=(b6.I aG).l;rw[<-aF]at rS;replace rE:=(rE.I hb).I aG;replace rR:=(rR.I hb).I aG;rw[<-aE]at rK;have cI:SB<v7.heap.size:=rS.lt;have nS:w.heap.size+1+1<SB/\SB<KB/\v4.heap.size<=SB:=by omega
  rw[<-aF,<-aE];clear aG hb b6 W5 aI z5 aL HI HB HG rW cE Z6 aF aE l5 z2
  have CH:Hid (1<=e.K->e.K<=5->∃aC,([.nilFunc,.func (.func 32) #[] #[],.func (.func 33) #[] #[],.func (.func 34) #[] #[],.func (.func 35) #[] #[],.func (.func 36) #[] #[]]:List Value)[e.K.toNat]?=some (.func (.func aC) #[] #[])/\(∀ar v,Sem.run prog (callFunc aC ar) v=.ok (.enter aC ar) v)/\∀w',Row w' SB (QM 1 x q5)->v7.grownBy w' (some SB)->Calls prog aC #[.pointer (some ⟨SB,0,none⟩),MK e a c f d] w' (λr aJ=>r=.returned (.tuple #[])/\∃q' o',HpPost w' aJ SB 1 o6 aA q' o')):=LE (λh1 h2=>by
   rw[ER.o];have hK:e.K=1\/e.K=2\/e.K=3\/e.K=4\/e.K=5:=by omega
   have kW:=λw' (E:v7.grownBy w' (some SB))=>dW.z E (λg e k=>by cases e;exact k rfl)
   have kI:=λw' (E:v7.grownBy w' (some SB))=>dI.z E (λg e k=>by cases e;exact k.1 rfl)
   have kJ:=λw' E=>((kI w' E).i (G:=λb=>b≠SB) (λb _ k=>k.1)).map (λW k=>k.1)
   rcases hK with hK|hK|hK|hK|hK
   ·refine⟨32,by rw[hK];rfl,λar v=>by kernel_rfl,λw' aD E=>?_⟩
    refine(wM x q5 e a c f d SB 1 o6 w' aD (kW w' E).l.1 zS aU (kJ w' E) ho HE.o hK ty gv (kI w' E).l.2.2.1 (kI w' E).l.2.2.2 (by have:=E.size;omega)).i (λr aJ k=>⟨k.1,ah k.2⟩)
   ·refine⟨33,by rw[hK];rfl,λar v=>by kernel_rfl,λw' aD E=>?_⟩
    exact vH x q5 e a c f d SB 1 o6 w' aD (kW w' E).l.1 zS aU v4.heap.size news (kW w' E).l.2 cC (by have:=E.size;omega) ((kI w' E).map (λW k=>k.1)) (kI w' E).l.2.1 ho HE.o hK
   ·refine⟨34,by rw[hK];rfl,λar v=>by kernel_rfl,λw' aD E=>?_⟩
    refine(tH x q5 e a c f d SB 1 o6 w' aD (kW w' E).l.1 zS aU (kJ w' E) ho HE.o hK).i (λr aJ k=>⟨k.1,ah k.2⟩)
   ·refine⟨35,by rw[hK];rfl,λar v=>by kernel_rfl,λw' aD E=>?_⟩
    refine(zJ x q5 e a c f d SB 1 o6 w' aD (kW w' E).l.1 zS aU (kJ w' E) ho HE.o hK).i (λr aJ k=>⟨k.1,ah k.2⟩)
   ·refine⟨36,by rw[hK];rfl,λar v=>by kernel_rfl,λw' aD E=>?_⟩
    refine(Gj x q5 e a c f d SB 1 o6 w' aD (kW w' E).l.1 zS (kJ w' E) ho HE.o hK).i (λr aJ k=>⟨k.1,ah k.2⟩))
  have kN:Hid (¬(1<=e.K/\e.K<=5)->aA=x):=LE (λhn=>by rw[ER.o];exact WN (D:=LT 0) (u:=false) (by omega) (by unfold Wo.call;rw[AE (by omega),AE (by omega),AE (by omega),AE (by omega)]) (.inl rfl));go_upto_region 5 with fail;go_cut [23] from 16 to 22 (λbv wx=>bv=.bool (decide (1<=e.K/\e.K<=5))/\wx=v7)
  case first =>
   have e0:=rE.x 0;have el:=rE.lt;clear CH dW dI
   by_cases h1:1<=e.K
   ·by_cases h2:e.K<=5
    ·go_wp2_with fail
     go_meet;exact⟨by rw[AO ⟨h1,h2⟩],rfl⟩
    go_wp2_with fail
    go_meet;exact⟨by rw[AI (λk=>by omega)],rfl⟩
   go_wp2_with fail
   go_meet;exact⟨by rw[AI (λk=>by omega)],rfl⟩
  case rest =>
  obtain⟨rfl,bE⟩:=hcut;rw[bE];clear bE;go_upto_if 23 with fail;go_cut [] from 23 to 30 (λwx=>∃q' o',HpPost v7 wx SB 0 o6 aA q' o')
  case first =>
   by_cases hk:1<=e.K/\e.K<=5
   ·rw[AO hk]
    obtain⟨h1,h2⟩:=hk;obtain⟨aC,aH,bF,CF⟩:=CH.o h1 h2;obtain⟨m,hm⟩:∃m:Nat,e.K=(m:Int):=⟨e.K.toNat,by omega⟩;have cF:m<6:=by omega
    rw[hm,DG]at aH;have cK:=rK.cell m _ aH;have HM:=LE hm;have bU:=LE bF;have bT:=LE CF;clear aH hm bF CF;go_upto_region 6 with fail;refine AP (S:=λw'=>Row w' (w.heap.size+1) [.int .i64 e.K,.slice a e.b.length c,.int .i64 e.cut,.slice f e.fs.length d]/\w'.cell? ⟨KB,m,none⟩=some (.func (.func aC) #[] #[])) (by kernel_rfl) (⟨rE.I (AB _ _).drew,LH (AB v7.heap.size v7).drew cK (by show KB<_;exact rK.lt)⟩) (λaK=>?_);refine TY 0 (.pointer (some ⟨SB,0,none⟩)) rfl aK (TK 1 (.pointer (some ⟨w.heap.size+1,0,none⟩)) rfl (BN ⟨by rfl,λw hw=>by obtain⟨z0,z1⟩:=hw;have l:=z0.lt;go_simp⟩) aK (TK 2 (.int .i64 e.K) rfl (BN ⟨by rfl,λw hw=>by obtain⟨z0,z1⟩:=hw;have c0:=z0.x 0;go_simp⟩) aK (TK 3 (.pointer (some ⟨KB,m,none⟩)) rfl (BN ⟨by rfl,λw hw=>by obtain⟨z0,z1⟩:=hw;have hm:=HM.o;have l:=BE _ _ z1;have hq:¬(6:Int)<=(m:Int):=(by omega);rw[hm];go_simp⟩) aK (TY 4 (.func (.func aC) #[] #[]) rfl aK (TK 5 (.agg #[.int .i64 e.K,.slice a e.b.length c,.int .i64 e.cut,.slice f e.fs.length d]) rfl (BN ⟨by rfl,λw hw=>by obtain⟨z0,z1⟩:=hw;exact OP 58 _ rfl _ 0 rfl _ _ z0.range underlying58 rfl XN⟩) aK ?_)))))
    simp only[PS];refine RD 6 rfl (λKq b7=>?_);have hd:Below v7.heap.size v7 v7.drew:=(AB _ _).drew;have aZ:=rS.I hd;have aR:=rE.I hd;have aV:=LH hd cK (by show KB<_;exact rK.lt);generalize v7.drew=y9 at hd aZ aR aV⊢;have lh:=hd.size;have CO:=Bg aC x aA q5 e a c f d SB o6 y9 aZ zS bU.o (λaJ k2 k3=>bT.o aJ k2 ⟨k3.os.j hd.os,k3.tape.j hd.tape,k3.output.j hd.output,AL hd.size k3.size,λb h1 h2=>(k3.block b (AD h1 hd.size) h2).j (hd.block b h1)⟩);unfold MK at CO;refine LK (by rfl) 37 #[.pointer (some ⟨SB,0,none⟩),.func (.func aC) #[] #[],.agg #[.int .i64 e.K,.slice a e.b.length c,.int .i64 e.cut,.slice f e.fs.length d]] (by go_simp) CO ?_;rintro r v8 ⟨rfl,q8,o8,H8⟩;refine⟨_,rfl,?_⟩;have bQ:=QW aR (H8.block _ aR.lt (by omega) (z6 _ (by omega))) (AD aR.lt H8.size);have bC:=(CW (a:=⟨KB,m,none⟩) (H8.block KB (AD rK.lt lh) (by omega) zK)).j aV
    refine b7.o _ _ (⟨bQ,bC⟩) (λbW=>?_)
    try simp only[PS]
    refine DN ?_;have bV:=LE H8;have HD:=LE hd;clear H8 hd CO aZ aR aV bQ bC;go_wp2_with fail;go_meet;exact⟨q8,o8,E5 HD.o bV.o⟩
   rw[AI hk]
   have er:=kN.o hk;have HS:=LE (AG rS dW.l.1);clear rS dW dI CH hk;go_wp2_with fail;go_meet;rw[er];exact⟨q5,o6,HS.o.1,HS.o.2,λ_ _=>rfl,rfl,rfl,rfl,AA _,λ_ _ _ _=>rfl⟩
  case rest =>
  obtain⟨q8,o8,H8⟩:=hcut;have lv:=H8.size;have cH:=rR.lt;have aY:=QW rR (H8.block _ rR.lt (by omega) (z6 _ l4)) (AD rR.lt H8.size);have aW:Below w.heap.size w wc:=⟨H8.os.j hE.os,H8.tape.j hE.tape,H8.output.j hE.output,AL hE.size H8.size,λb hb=>(H8.block b (by have:=hE.size;omega) (by omega) (z6 b (by omega))).j (hE.block b hb)⟩
  have zR:∀b,b<v4.heap.size->o8 b=0:=λb hb=>(H8.ag b (by omega)).j (z6 b hb)
  clear dW dI rS rE rR rK CH kN hE;go_upto_region 7 with fail;refine BA ?_;refine TD rfl (.pointer (some ⟨SB,0,none⟩)) (by go_simp) ?_;simp only[PS];refine TD rfl (.pointer (some ⟨SB,0,none⟩)) (by go_simp) ?_;simp only[PS];refine fx rfl _ _ _ rfl (.pointer (some ⟨SB,2,none⟩)) (by have l:=H8.r.lt;go_simp) ?_;simp only[PS];refine AN rfl 53 _ rfl SB 2 rfl (wL aA q8) _ (Row.rangeMid (pre:=[.int .i32 0,.int .u32 0]) (cs:=(wL aA q8)) (post:=[]) H8.r) underlying53 rfl MF ?_;simp only[PS];refine BI rfl 53 _ _ rfl (w.heap.size+1+1) 0 (wA aA q8) rfl rfl (aY.there rfl) MF (by kernel_rfl) ?_
  try simp only[PS]
  have G8:=PJ wc (w.heap.size+1+1) 0 (wL aA q8);have r8:=aY.sets (wL aA q8) rfl;have W8:=H8.h.z G8 (zR _ l4);have E8:=aW.j (NE G8 aW.size (λx e=>by have e:=DA e;omega));generalize World.setCells _ _ _ _=y8 at r8 W8 E8 G8⊢;have HW:=LE W8;clear W8 G8 H8 aW aY
  try go_wp2
  refine RY 4 53 results9 _ rfl (wL aA q8) _ r8 underlying53 rfl MF rfl ⟨q8,λb=>if w.heap.size<=b/\b<y8.heap.size then o8 b else 0,rfl,HW.o.lab (λb hb=>?_),λb k=>?_,E8⟩
  ·show(if w.heap.size<=b/\b<y8.heap.size then o8 b else 0)=o8 b
   by_cases h:w.heap.size<=b
   ·rw[AK ⟨h,hb⟩]
   rw[AE (λk=>h k.1),zR b (by omega)]
  by_cases h:w.heap.size<=b/\b<y8.heap.size
  ·exact h
  exact absurd (AE h) k
theorem C8{y:Wo}{q:Wp}{o:Nat->Nat}(h:OO y w' q o)(hz:∀b,b<w.heap.size->o b=0)(hb:Below w.heap.size w w'):dq w w' (.returned (MD y q)) y:=by
 refine⟨q,λb=>if w.heap.size<=b/\b<w'.heap.size then o b else 0,rfl,h.lab (λb hb=>?_),λb k=>?_,hb⟩
 ·show(if w.heap.size<=b/\b<w'.heap.size then o b else 0)=o b
  by_cases h:w.heap.size<=b
  ·rw[AK ⟨h,hb⟩]
  rw[AE (λk=>h k.1),hz b (by omega)]
 by_cases h:w.heap.size<=b/\b<w'.heap.size
 ·exact h
 exact absurd (AE h) k
theorem Ft(x:Wo)(q:Wp)(e:Ev)(a:Option Addr)(c:Nat)(f:Option Addr)(d:Nat)(w:World)(h:x.at w q)(hm:x.le 1048576)(aM:Chs w a e.b)(hi:Ints w f e.fs)(he:e.le):Calls prog 6 #[MD x q,MK e a c f d] w λr w'=>dq w w' r (x.doR e):=by
 have CV:=LE (λw' k=>Ig x q w' k hm);unfold MD at CV⊢;unfold MK;have HH:=LE h;have HB:=LE aM;have HI:=LE hi;have HE:=LE he;clear h aM hi he hm;obtain⟨aB,aA⟩:∃y,Hid (y=x.doR e):=⟨_,LE rfl⟩;rw[<-aA.o];go_enter func6,ntmps6;go_upto_region 1 with fail;generalize aE:w.alloc _=v1;obtain⟨aK,z0,b0⟩:=LJ aE;clear aE;generalize aF:v1.alloc _=v2;obtain⟨aH,z1,b1⟩:=LJ aF;clear aF;generalize aG:v2.alloc _=v3;obtain⟨aI,z2,b2⟩:=LJ aG;clear aG;rw[z0]at b1 z1;rw[z1]at b2 z2;have hE:=aK.j ((aH.j (aI.i aH.size)).i aK.size);have rW:=((b0.I aH).I aI).l;have rE:=(b1.I aI).l;have rR:=b2.l;clear aK aH aI b0 b1 b2 z0 z1 z2;refine BA ?_;refine AN rfl 53 _ rfl w.heap.size 0 rfl _ _ rW.range underlying53 rfl MF ?_;simp only[PS];go_wp2_with fail;refine(CV.o _ (HH.o.I hE)).i ?_;rintro r v4 ⟨rfl,hb⟩;replace hE:=hE.j (hb.i hE.size);replace rW:=rW.I hb
 replace rE:=rE.I hb;replace rR:=rR.I hb;clear hb CV;obtain⟨ok,aD⟩:∃y,Hid (y=NR x):=⟨_,LE rfl⟩;rw[<-aD.o]
 cases ok with
 | false =>
  have er:aB=SY:=by rw[aA.o];unfold Wo.doR;rw[<-aD.o,AE (by simp)]
  have ER:=LE er;clear er aA;go_upto_region 2 with fail;refine BA ?_;refine TD rfl (.agg #[.int .i64 0,.slice none 0 0,.slice none 0 0,.bool false,.int .i64 0,.int .i64 0,.int .i64 0,.int .i64 0,.int .i64 0,.int .i64 0,.int .i64 0,.int .i64 0,.int .i64 0,.slice none 0 0,.slice none 0 0,.slice none 0 0]) (by go_simp) ?_;simp only[PS];refine BI rfl 53 _ _ rfl (w.heap.size+1+1) 0 #[.int .i64 0,.slice none 0 0,.slice none 0 0,.bool false,.int .i64 0,.int .i64 0,.int .i64 0,.int .i64 0,.int .i64 0,.int .i64 0,.int .i64 0,.int .i64 0,.int .i64 0,.slice none 0 0,.slice none 0 0,.slice none 0 0] rfl rfl (rR.there rfl) MF (by kernel_rfl) ?_
  try simp only[PS]
  have G8:=PJ v4 (w.heap.size+1+1) 0 [.int .i64 0,.slice none 0 0,.slice none 0 0,.bool false,.int .i64 0,.int .i64 0,.int .i64 0,.int .i64 0,.int .i64 0,.int .i64 0,.int .i64 0,.int .i64 0,.int .i64 0,.slice none 0 0,.slice none 0 0,.slice none 0 0];have r8:=rR.sets [.int .i64 0,.slice none 0 0,.slice none 0 0,.bool false,.int .i64 0,.int .i64 0,.int .i64 0,.int .i64 0,.int .i64 0,.int .i64 0,.int .i64 0,.int .i64 0,.int .i64 0,.slice none 0 0,.slice none 0 0,.slice none 0 0] rfl;have E8:=hE.j (NE G8 hE.size (λx e=>by have e:=DA e;omega));generalize World.setCells _ _ _ _=y8 at r8 E8 G8⊢;clear G8 rW rE rR hE
  try go_wp2
  exact RY 4 53 results6 _ rfl _ _ r8 underlying53 rfl MF rfl ⟨⟨none,0,none,0,none,0,none,0,none,0⟩,λ_=>0,by rw[ER.o];rfl,by rw[ER.o];exact⟨.inl rfl,.inl rfl,.inl rfl,.inl rfl,.inl rfl⟩,λb k=>absurd rfl k,E8⟩
 | true =>
  obtain⟨ho,aS,aT⟩:=kq aD.o.symm;have er:aB=x.doE e:=by rw[aA.o];unfold Wo.doR;rw[<-aD.o,AK rfl]
  have aJ:=LE (ho.doE e);rw[<-er]at aJ;have C1:=LE (λw' k=>pE x q w' k ho);have C2:=LE (λq1 F w' k1 k2 k3=>Ir x q1 e a c f d F w' k1 ho k2 k3 HE.o);have C3:=LE (λq1 w' k=>pE aB q1 w' k aJ.o);rw[<-er]at C2;unfold MD at C1 C2 C3;unfold MK at C2;clear er aA aD aS aT ho aJ;go_upto_region 3 with fail;refine UV (5) (S:=λw'=>Row w' w.heap.size (wL x q)/\Row w' (w.heap.size+1) [.int .i64 e.K,.slice a e.b.length c,.int .i64 e.cut,.slice f e.fs.length d]) (by kernel_rfl) (⟨rW.I (AB _ _).drew,rE.I (AB _ _).drew⟩) (λaL=>?_);refine MY 0 (.agg (wA x q)) rfl (BN ⟨by rfl,λw hw=>by obtain⟨z0,z1⟩:=hw;exact OP 53 _ rfl _ 0 rfl _ _ z0.range underlying53 rfl MF⟩) aL (MY 2 (.agg #[.int .i64 e.K,.slice a e.b.length c,.int .i64 e.cut,.slice f e.fs.length d]) rfl (BN ⟨by rfl,λw hw=>by obtain⟨z0,z1⟩:=hw;exact OP 58 _ rfl _ 0 rfl _ _ z1.range underlying58 rfl XN⟩) aL ?_)
  simp only[PS];refine ND 1 rfl (λKq aC=>?_);have hb:=(AB v4.heap.size v4).drew;replace hE:=hE.j (hb.i hE.size);replace rW:=rW.I hb;replace rE:=rE.I hb;replace rR:=rR.I hb;generalize aO:v4.drew=y0 at hE rW rE rR⊢;clear aO hb;refine LK (by rfl) 22 #[.agg (wA x q)] (by go_simp) (C1.o _ (HH.o.I hE)) ?_;rintro r y1 ⟨q1,o1,rfl,W1,z1,hb⟩;have F1:=W1.woF (F:=λb=>y0.heap.size<=b) (λb k=>IW λh=>k (z1 b (by omega)));refine⟨_,rfl,?_⟩;unfold MD;replace hE:=hE.j (hb.i hE.size);replace rW:=rW.I hb;replace rE:=rE.I hb;replace rR:=rR.I hb;clear hb C1 W1 z1;refine aC.o _ _ (⟨rW,rE⟩) (λaP=>?_)
  try simp only[PS]
  refine ND 3 rfl (λKq aC=>?_);refine LK (by rfl) 23 #[.agg (wA x q1),.agg #[.int .i64 e.K,.slice a e.b.length c,.int .i64 e.cut,.slice f e.fs.length d]] (by go_simp) (C2.o q1 _ _ F1 (HB.o.I hE) (HI.o.I hE)) ?_;rintro r y2 ⟨q2,rfl,F2,hb⟩;refine⟨_,rfl,?_⟩;unfold MD;replace hE:=hE.j (hb.i hE.size);replace rW:=rW.I hb;replace rE:=rE.I hb;replace rR:=rR.I hb;clear hb C2 F1;refine aC.o _ _ (⟨rW,rE⟩) (λaQ=>?_)
  try simp only[PS]
  refine ND 4 rfl (λKq aC=>?_);refine LK (by rfl) _ _ (by go_simp) (C3.o q2 _ F2.at) ?_;rintro r y3 ⟨q3,o3,rfl,F3,z3,hb⟩;refine⟨_,rfl,?_⟩;unfold MD;have l2:=hE.size;have l3:=rR.lt;replace hE:=hE.j (hb.i hE.size);replace rW:=rW.I hb;replace rE:=rE.I hb;replace rR:=rR.I hb;clear hb C3 F2;refine aC.o _ _ (⟨rW,rE⟩) (λaR=>?_)
  try simp only[PS]
  refine PD (rs:=[5]) (by kernel_rfl) (by simp) ?_;refine AllReadyT.last rfl (λKq aC=>?_);refine UK rfl 53 _ _ rfl (w.heap.size+1+1) 0 (wA aB q3) rfl rfl (rR.there rfl) MF (by kernel_rfl) ?_;refine aC.o _ _ trivial (λ_=>?_)
  try simp only[PS]
  refine UN (by kernel_rfl) ?_ _;have G8:=PJ y3 (w.heap.size+1+1) 0 (wL aB q3);have r8:=rR.sets (wL aB q3) rfl;have F8:=F3.z G8 (z3 _ l3);have E8:=hE.j (NE G8 hE.size (λx e=>by have e:=DA e;omega));generalize World.setCells _ _ _ _=y8 at r8 F8 E8 G8⊢;have aN:=LE F8;clear G8 F8 F3 rW rE rR hE
  try go_wp2
  exact RY 4 53 results6 _ rfl (wL aB q3) _ r8 underlying53 rfl MF rfl (C8 aN.o (λb hb=>z3 b (by omega)) E8)
theorem ZN:(prog.info? 58).map (·.size)=some 4:=by kernel_rfl
def TR(e:Ev):List Nat:=(e.b.length::e.b.flatMap SU)++[e.fs.length]
structure OwnE(e:Ev)(w:World)(lo g1 g2:Nat):Prop where
 r1:Row w g1 (LZ e.b)
 r2:Row w g2 (UQ e.fs)
 l1:lo<=g1
 l2:g1<g2
theorem OwnE.dep{e:Ev}{lo g1 g2:Nat}(h:OwnE e w lo g1 g2):Dep w lo w.heap.size (λW=>OwnE e W lo g1 g2) :=⟨h,AA _,λw' k1 k2=>⟨QW h.r1 (k1 g1 h.l1 h.r1.lt) (AD h.r1.lt k2),QW h.r2 (k1 g2 (by have:=h.l1;have:=h.l2;omega) h.r2.lt) (AD h.r2.lt k2),h.l1,h.l2⟩⟩
theorem Iz(a:Option Addr)(zs:List Int)(c:Nat)(aA:Int)(w:World)(h0:0<=aA)(h1:aA<=1048576)(hl:zs.length<=maxLen):Calls prog 20 #[.slice a zs.length c,.int .i64 aA] w λe w'=>e=.returned (.int .i64 (LO [zs.length] aA))/\w'=w:=by
 unfold maxLen at hl;go_enter func20,ntmps20
 by_cases hc:aA-(zs.length:Int)<0
 ·rw[UF _ hc]
  go_wp2;go_ret;exact⟨rfl,rfl⟩
 rw[TI _ hc]
 go_wp2;go_ret;exact⟨rfl,rfl⟩
theorem tU(e:Ev)(a:Option Addr)(c:Nat)(f:Option Addr)(d:Nat)(aA:Int)(w:World)(h:Chs w a e.b)(h0:0<=aA)(h1:aA<=1048576)(hl:e.b.length<=maxLen)(hs:∀s∈e.b,s.1.size<=maxLen/\s.2.1.size<=maxLen)(hf:e.fs.length<=maxLen):Calls prog 5 #[MK e a c f d,.int .i64 aA] w λr w'=>r=.returned (.int .i64 (LO (TR e) aA))/\Below w.heap.size w w':=by
 obtain⟨R1,aD⟩:∃R,Hid (R=LO (e.b.length::e.b.flatMap SU) aA):=⟨_,LE rfl⟩
 have aH:Hid (R1<0->LO (TR e) aA=-1):=λhc=>by unfold TR;exact VY _ _ _ h0 (by rw[<-aD.o];exact hc)
 have aG:Hid (0<=R1->LO (TR e) aA=LO [e.fs.length] R1):=λhc=>by unfold TR;rw[UD _ _ _ h0 (by rw[<-aD.o];exact hc),<-aD.o]
 have b1:=RV (e.b.length::e.b.flatMap SU) aA h0;have C1:=LE (λw' k=>vX a e.b c aA w' k h0 h1 hl hs);rw[<-aD.o]at C1 b1;unfold MK;go_enter func5,ntmps5;go_wp2_with fail;generalize aB:w.alloc _=v1;obtain⟨hb,z,bA⟩:=LJ aB;clear aB z;refine(C1.o _ (h.I hb)).i ?_;rintro r v2 ⟨rfl,aF⟩;replace bA:=bA.I aF;replace hb:=hb.j (aF.i hb.size);clear aF C1
 by_cases c1:R1<0
 ·obtain rfl:R1=-1:=by omega
  go_wp2;go_ret;exact⟨MU (aH.o c1).symm,hb⟩
 have p1:0<=R1:=by omega
 have C2:=LE (λw'=>Iz f e.fs d R1 w' p1 (by omega) hf);obtain⟨R2,aE⟩:∃R,Hid (R=LO [e.fs.length] R1):=⟨_,LE rfl⟩;have b2:=RV [e.fs.length] R1 p1;rw[<-aE.o]at C2 b2;have d3:=bA.l.x 3;have dl:=bA.l.lt;clear b1 bA
 by_cases c2:R2<0
 ·obtain rfl:R2=-1:=by omega
  go_wp2_with (go_at_call 20;refine(C2.o _).i ?_;rintro r w3 ⟨rfl,aC⟩;rw[aC];clear aC w3);go_ret;exact⟨MU (by rw[aG.o p1];exact aE.o),hb⟩
 have p2:¬R2<0:=c2
 go_wp2_with (go_at_call 20;refine(C2.o _).i ?_;rintro r w3 ⟨rfl,aC⟩;rw[aC];clear aC w3);go_ret;exact⟨MU (by rw[aG.o p1];exact aE.o),hb⟩
theorem sO(e:Ev)(a:Option Addr)(c:Nat)(f:Option Addr)(d:Nat)(w:World)(h:Chs w a e.b)(hi:Ints w f e.fs)(hl:e.b.length<=1048576)(hf:e.fs.length<=1048576):Calls prog 8 #[MK e a c f d] w λr w'=>∃g1 g2,r=.returned (MK e (some ⟨g1,0,none⟩) e.b.length (some ⟨g2,0,none⟩) e.fs.length)/\OwnE e w' w.heap.size g1 g2/\Below w.heap.size w w':=by
 have C1:=LE (λw' k=>Fa a e.b c w' k hl);have C2:=LE (λw' k=>vS f e.fs d w' k hf);have aJ:DepF w (λb=>b≠w.heap.size+1+1) (λW=>Chs W a e.b/\Ints W f e.fs):=(ei ⟨h,hi⟩ (λw' hb=>⟨h.I hb,hi.I hb⟩)).i (λb hb _=>by omega);unfold MK;clear h hi hl hf;go_enter func8,ntmps8;go_upto_region 2 with fail;generalize aA:w.alloc _=v1;obtain⟨aF,z0,b0⟩:=LJ aA;clear aA;generalize aB:v1.alloc _=v2;obtain⟨aD,z1,b1⟩:=LJ aB;clear aB;generalize aC:v2.alloc _=v3;obtain⟨aE,z2,b2⟩:=LJ aC;clear aC;rw[z0]at b1 z1;rw[z1]at b2 z2;have hb:=aF.j ((aD.j (aE.i aD.size)).i aF.size);have S0:Sc w v3 (w.heap.size+1+1) [.int .i64 0,.slice none 0 0,.int .i64 0,.slice none 0 0] _:=⟨⟨hb.os,hb.tape,hb.output,hb.size,λb h1 _=>hb.block b h1⟩,b2.l,(((aJ.I aF).I aD).I aE).and ((QI ((b0.I aD).I aE).l (by omega)).and (QI (b1.I aE).l (by omega)))⟩;have l3:w.heap.size+1+1<v3.heap.size:=S0.r.lt
 clear hb aF aD aE b0 b1 b2 z0 z1 z2 aJ;have c0:=S0.r.x 0;have f0:=S0.r.q 0;have p0:=S0.m.l.2.1.x 0;have p1:=S0.m.l.2.1.x 1;have cl:=S0.r.lt;have pl:=S0.m.l.2.1.lt;go_wp2_with fail;clear c0 f0 p0 p1 cl pl;replace S0:=S0.set 0 (by simp) (.int .i64 e.K);have z4:(v3.setCell ⟨w.heap.size+1+1,0,none⟩ (.int .i64 e.K)).heap.size=v3.heap.size:=AV _ _ _;generalize aG:World.setCell _ _ _=v4 at S0 z4⊢;clear aG;refine(C1.o _ S0.m.l.1.1).i ?_;rintro r v5 ⟨g1,rfl,l1,r1,hb⟩;have l5:=hb.size;replace S0:=(S0.I hb).add (QI r1 (by omega));clear hb r1 C1;have c1:=S0.r.x 1;have c2:=S0.r.x 2;have f1:=S0.r.q 1;have f2:=S0.r.q 2;have p2:=S0.m.l.1.2.1.x 2;have p3:=S0.m.l.1.2.1.x 3;have cl:=S0.r.lt;have pl:=S0.m.l.1.2.1.lt;go_wp2_with fail;clear c1 f1 c2 f2 p2 p3 cl pl;replace S0:=(S0.set 1 (by simp) (.slice (some ⟨g1,0,none⟩) e.b.length e.b.length)).set 2 (by simp) (.int .i64 e.cut)
 have z6:((v5.setCell ⟨w.heap.size+1+1,1,none⟩ (.slice (some ⟨g1,0,none⟩) e.b.length e.b.length)).setCell ⟨w.heap.size+1+1,2,none⟩ (.int .i64 e.cut)).heap.size=v5.heap.size:=by rw[AV,AV]
 generalize aH:World.setCell (World.setCell _ _ _) _ _=v6 at S0 z6⊢;clear aH;have aK:=S0.m.l.2.lt;refine(C2.o _ S0.m.l.1.1.2).i ?_;rintro r v7 ⟨g2,rfl,l2,r2,hb⟩;replace S0:=(S0.I hb).add (QI r2 (by omega));clear hb r2 C2;have c3:=S0.r.x 3;have f3:=S0.r.q 3;have cl:=S0.r.lt;have pl:=S0.m.l.1.1.2.1.lt;go_upto_region 6 with fail;clear c3 f3 cl pl;replace S0:=S0.set 3 (by simp) (.slice (some ⟨g2,0,none⟩) e.fs.length e.fs.length);generalize aI:World.setCell _ _ _=v8 at S0⊢;clear aI;refine BA ?_;refine AN rfl 58 _ rfl (w.heap.size+1+1) 0 rfl _ _ S0.r.range underlying58 rfl ZN ?_;simp only[PS];refine BI rfl 58 _ _ rfl (w.heap.size+1) 0 #[.int .i64 e.K,.slice (some ⟨g1,0,none⟩) e.b.length e.b.length,.int .i64 e.cut,.slice (some ⟨g2,0,none⟩) e.fs.length e.fs.length] rfl rfl (S0.m.l.1.1.2.2.there rfl) ZN (by kernel_rfl) ?_
 try simp only[PS]
 have G8:=PJ v8 (w.heap.size+1) 0 [.int .i64 e.K,.slice (some ⟨g1,0,none⟩) e.b.length e.b.length,.int .i64 e.cut,.slice (some ⟨g2,0,none⟩) e.fs.length e.fs.length];have r8:=S0.m.l.1.1.2.2.sets [.int .i64 e.K,.slice (some ⟨g1,0,none⟩) e.b.length e.b.length,.int .i64 e.cut,.slice (some ⟨g2,0,none⟩) e.fs.length e.fs.length] rfl;have O8:OwnE e (v8.setCells (w.heap.size+1) 0 [.int .i64 e.K,.slice (some ⟨g1,0,none⟩) e.b.length e.b.length,.int .i64 e.cut,.slice (some ⟨g2,0,none⟩) e.fs.length e.fs.length]) w.heap.size g1 g2:=⟨S0.m.l.1.2.z G8 (λe=>by injection e;omega),S0.m.l.2.z G8 (λe=>by injection e;omega),by omega,by omega⟩;have E8:Below w.heap.size w (v8.setCells (w.heap.size+1) 0 [.int .i64 e.K,.slice (some ⟨g1,0,none⟩) e.b.length e.b.length,.int .i64 e.cut,.slice (some ⟨g2,0,none⟩) e.fs.length e.fs.length]):=⟨G8.os.j S0.e.os,G8.tape.j S0.e.tape,G8.output.j S0.e.output,AL S0.e.size G8.size,λb hb=>(G8.block b (by have:=S0.e.size;omega) (λe=>by injection e;omega)).j (S0.e.block b hb (λe=>by injection e;omega))⟩
 generalize World.setCells _ _ _ _=y8 at r8 O8 E8⊢;clear S0 G8
 try go_wp2
 exact RY 2 58 results8 _ rfl [.int .i64 e.K,.slice (some ⟨g1,0,none⟩) e.b.length e.b.length,.int .i64 e.cut,.slice (some ⟨g2,0,none⟩) e.fs.length e.fs.length] _ r8 underlying58 rfl ZN rfl ⟨g1,g2,rfl,O8,E8⟩
theorem Ii(e:Ev)(a:Option Addr)(c:Nat)(f:Option Addr)(d:Nat)(a2:Option Addr)(c2:Nat)(f2:Option Addr)(d2:Nat)(w:World)(h:Chs w a e.b)(h2:Chs w a2 e.b)(hi:Ints w f e.fs)(aF:Ints w f2 e.fs)(hl:e.b.length<=1048576)(hf:e.fs.length<=1048576):Calls prog 11 #[MK e a c f d,MK e a2 c2 f2 d2] w λr w'=>r=.returned (.bool true)/\Below w.heap.size w w':=by
 have C1:=LE (λw' k k2=>uQ a a2 e.b c c2 w' k k2 hl);have C2:=LE (λw' k k2=>Hy f f2 e.fs d d2 w' k k2 hf);unfold MK;go_enter func11,ntmps11;go_upto_region 1 with fail;generalize aB:w.alloc _=v1;obtain⟨aD,z0,b0⟩:=LJ aB;clear aB;generalize aC:v1.alloc _=v2;obtain⟨aE,z1,b1⟩:=LJ aC;clear aC;rw[z0]at b1 z1;have hb:=aD.j (aE.i aD.size);have rA:=(b0.I aE).l;have rB:=b1.l;clear aD aE b0 b1 z0 z1;have p0:=rA.x 0;have q0:=rB.x 0;have p1:=rA.x 1;have q1:=rB.x 1;have pl:=rA.lt;have ql:=rB.lt;go_wp2_with fail;clear p0 q0 p1 q1 pl ql;refine(C1.o _ (h.I hb) (h2.I hb)).i ?_;rintro r v3 ⟨rfl,aA⟩;replace rA:=rA.I aA;replace rB:=rB.I aA;replace hb:=hb.j (aA.i hb.size);clear aA;have p2:=rA.x 2;have q2:=rB.x 2;have p3:=rA.x 3;have q3:=rB.x 3;have pl:=rA.lt;have ql:=rB.lt;go_wp2_with fail;clear p2 q2 p3 q3 pl ql
 refine(C2.o _ (hi.I hb) (aF.I hb)).i ?_;rintro r v4 ⟨rfl,aA⟩;have HB:=LE (hb.j (aA.i hb.size));clear hb aA rA rB C1 C2;go_wp2;go_ret;exact⟨rfl,HB.o⟩
theorem Il(e:Ev)(lo hi g1 g2 k:Nat)(w:World)(h:OwnE e w lo g1 g2)(hh:g2<hi)(hk:0<k)(hl:k+3*e.b.length+e.fs.length<=100000000)(hw:hi<=w.heap.size):Calls prog 13 #[MK e (some ⟨g1,0,none⟩) e.b.length (some ⟨g2,0,none⟩) e.fs.length,.int .i64 (k:Int)] w λr w'=>(∃n:Nat,r=.returned (.int .i64 (n:Int)))/\Win lo hi w w':=by
 obtain⟨m,HM⟩:∃m,Hid (m=k+3*e.b.length):=⟨_,LE rfl⟩;have C1:=LE (λw' k1=>Bv (some ⟨g1,0,none⟩) e.b e.b.length k w' k1 hk (by omega));have C2:=LE (λw' k1=>C7 g2 e.fs.length e.fs.length m (UQ e.fs) (by simp[UQ]) w' k1 (by rw[HM.o];omega));rw[<-HM.o]at C1;unfold MK;have l1:=h.l1;have l2:=h.l2;go_enter func13,ntmps13;go_wp2_with fail;generalize aA:w.alloc _=v1;obtain⟨hb,z,b0⟩:=LJ aA;clear aA z;have W1:Win lo hi w v1:=G7 hb;refine(C1.o v1 (.inr ⟨g1,rfl,h.r1.I hb⟩)).i ?_;rintro r v2 ⟨rfl,hg,_⟩;have V:Win lo hi v1 v2:=pO hg (λx e=>by have:=WJ e;omega);have rA:=b0.l.win V (.inr (by omega));have r2:=(h.r2.I hb).z hg (λe=>by have:=WJ e.symm;omega);replace W1:=W1.j V;clear V hg hb b0;have p3:=rA.x 3;have pl:=rA.lt;go_wp2_with fail;clear p3 pl;refine(C2.o v2 r2).i ?_;rintro r v3 ⟨rfl,hg⟩;have HW:=LE (W1.j (pO (lo:=lo) (hi:=hi) hg (λx e=>by cases e;omega)))
 clear hg W1 rA r2 C1 C2;go_wp2;go_ret;exact⟨⟨_,rfl⟩,HW.o⟩
section
theorem nQ:∀(P:List (List Pr)) (n:Nat),(∀r∈P,r.length<=n)->NL P<=n*P.length
 | [],n,_=>by simp[NL]
 | r::P,n,h=>by
  have h1:=nQ P n (λx hx=>h x (by simp[hx]));have h2:=h r (by simp);unfold NL at h1⊢;simp only[FD,List.sum_cons,BY,Nat.mul_add,IP];omega
theorem wQ(x:Wo)(e:Ev):(x.doR e).le 1048576/\NL (x.doR e).P<=1048576:=by
 unfold Wo.doR
 by_cases h:NR x=true
 ·rw[AK h]
  have ho:=(kq h).1.doE e;have h1:=nQ (x.doE e).P 100 (λr hr=>(SG (ho.p.2 r hr)).1);have h2:=ho.p.1;exact⟨ho.le,by omega⟩
 rw[AE h]
 exact⟨⟨by simp[SY],by simp[SY],by simp[SY],by simp[SY],by simp[SY],by simp[SY],by simp[SY],by simp[SY],by simp[SY],by simp[SY]⟩,by simp[SY,NL]⟩
theorem wI{e:Ev}{R:Int}(h0:0<=R)(hR:R<=1048576)(h:0<=LO (TR e) R):e.le:=by
 have hm:=ku (TR e) R h0 h;have h1:=hm e.b.length (by simp[TR]);have h2:=hm e.fs.length (by simp[TR]);refine⟨⟨by omega,λs hs=>?_⟩,by omega⟩;have h3:=hm s.1.size (by simp only[TR,BP,DK,EE];exact .inl (.inr ⟨s,hs,by simp[SU]⟩));have h4:=hm s.2.1.size (by simp only[TR,BP,DK,EE];exact .inl (.inr ⟨s,hs,by simp[SU]⟩));omega
theorem WB{y:Wo}{q:Wp}{o:Nat->Nat}(h:OO y w' q o)(ho:∀b,o b≠0->w.heap.size<=b/\b<w'.heap.size):Dep w' w.heap.size w'.heap.size (λW=>OO y W q o):=h.dep ho (AA _)
open Classical in
theorem OwnW.woo{x:Wo}{base g1 g2 g3 g4 g5:Nat}{gs:Nat->Nat}(h:OwnW x w base g1 g2 g3 g4 g5 gs):∃o:Nat->Nat,OO x w (SC x g1 g2 g3 g4 g5) o/\∀b,o b≠0->base<=b/\b<=g5:=by
 obtain⟨r1,r2,r3,r4,r5,b1,b2,aD,aE,aF,aG,aH,aA⟩:=h
 have aB:∀i j,i<x.P.length->j<x.P.length->gs i=gs j->i=j:=λi j hi hj e=>by
  rcases Nat.lt_trichotomy i j with k|k|k
  ·have:=r4.asc i j k hj;omega
  ·exact k
  have:=r4.asc j i k hi;omega
 refine⟨λb=>if b=g1 then 1 else if b=g2 then 2 else if b=g3 then 3 else if b=g4 then 5 else if b=g5 then 4 else if k:∃i,i<x.P.length/\gs i=b then 7+k.choose else 0,⟨.inr ⟨g1,rfl,r1,by simp⟩,.inr ⟨g2,rfl,r2,?_⟩,.inr ⟨g3,rfl,r3,?_⟩,.inr ⟨g4,rfl,r4.row.lt,?_,λi hi=>?_⟩,.inr ⟨g5,rfl,r5,?_⟩⟩,λb k=>?_⟩
 ·simp only[];rw[AE (by omega),AK trivial]
 ·simp only[];rw[AE (by omega),AE (by omega),AK trivial]
 ·simp only[];rw[AE (by omega),AE (by omega),AE (by omega),AK trivial]
 ·have aC:=r4.st i hi
  have hg:=aA i hi;refine⟨some ⟨gs i,0,none⟩,(x.P.getD i []).length,r4.row.cell i _ (by simp[TT,hi]),.inr ⟨gs i,rfl,aC.1,?_⟩⟩;have hk:∃j,j<x.P.length/\gs j=gs i:=⟨i,hi,rfl⟩;simp only[];rw[AE (by omega),AE (by omega),AE (by omega),AE (by omega),AE (by omega),dif_pos hk,aB _ _ hk.choose_spec.1 hi hk.choose_spec.2]
 ·simp only[];rw[AE (by omega),AE (by omega),AE (by omega),AE (by omega),AK trivial]
 simp only[]at k
 by_cases e1:b=g1
 ·omega
 by_cases e2:b=g2
 ·omega
 by_cases e3:b=g3
 ·omega
 by_cases e4:b=g4
 ·omega
 by_cases e5:b=g5
 ·omega
 rw[AE e1,AE e2,AE e3,AE e4,AE e5]at k
 by_cases hk:∃i,i<x.P.length/\gs i=b
 ·obtain⟨i,hi,rfl⟩:=hk
  have:=(r4.st i hi).2;have:=aA i hi;omega
 exact absurd (dif_neg hk) k
theorem Gy{x:Wo}(hm:x.le 1048576)(ht:NL x.P<=1048576):0<wk4 x/\wk4 x<=10000000:=by
 have h1:=hm.l1;have h2:=hm.l2;have h3:=hm.l3;have h5:=hm.l5;unfold wk4 wk3 wk2 wk1;omega
end
end
section
open Tryz
open Go.ChangeShapes Go.WideShapes Go.ChangeAt Go.RowKit Go.Joins
section
variable {H:Type} {enc:TypeId×Value->H} {w:World} {base:Nat} {spare:Nat->Bool} {XbJ:Bool}
theorem tE{P:Program}{t:TypeId}{f0 f1 f2 f3:Field}{n:Nat}{cs:List Value}{x:DataW H×List MemPlace}(hs:P.underlying t=some (.struct #[f0,f1,f2,f3]))(o0:f0.offset=0)(o1:f1.offset=1)(o2:f2.offset=2)(o3:f3.offset=3)(k0:P.cellsOf f0.type=1)(k1:P.cellsOf f1.type=1)(k2:P.cellsOf f2.type=1)(k3:P.cellsOf f3.type=1)(hC:P.cellsOf t=4)(h:DataW.trod enc P w base spare XbJ n t cs=some x):∃(c0 c1 c2 c3:Value) (y0 y1 y2 y3:DataW H×List MemPlace) (m:Nat),cs=[c0,c1,c2,c3]/\DataW.trod enc P w base spare XbJ m f0.type [c0]=some y0/\DataW.trod enc P w base spare XbJ m f1.type [c1]=some y1/\DataW.trod enc P w base spare XbJ m f2.type [c2]=some y2/\DataW.trod enc P w base spare XbJ m f3.type [c3]=some y3:=by
 obtain⟨xs,m,_,_,hl,aA,hf⟩:=FL hs h;rw[hC]at hl
 match cs,hl,xs,aA with
 | [c0,c1,c2,c3],_,[y0,y1,y2,y3],_ =>
  have g0:=hf 0 f0 rfl;rw[o0,k0]at g0;have g1:=hf 1 f1 rfl;rw[o1,k1]at g1;have g2:=hf 2 f2 rfl;rw[o2,k2]at g2;have g3:=hf 3 f3 rfl;rw[o3,k3]at g3;exact⟨c0,c1,c2,c3,y0,y1,y2,y3,m,rfl,g0,g1,g2,g3⟩
theorem sE{n:Nat}{cs:List Value}{y:DataW H×List MemPlace}(h:DataW.trod enc prog w base spare XbJ n 39 cs=some y):∃(e:Ev) (a:Option Addr) (c:Nat) (f:Option Addr) (d:Nat),MK e a c f d=.agg cs.toArray/\Chs w a e.b/\Ints w f e.fs/\e.b.length<=maxLen/\(∀s∈e.b,s.1.size<=maxLen/\s.2.1.size<=maxLen)/\e.fs.length<=maxLen:=by
 obtain⟨c0,c1,c2,c3,y0,y1,y2,y3,m,rfl,g0,g1,g2,g3⟩:=tE underlying39 rfl rfl rfl rfl (by kernel_rfl) (by kernel_rfl) (by kernel_rfl) (by kernel_rfl) (by kernel_rfl) h;obtain⟨K,rfl⟩:=TV g0;obtain⟨a,b,c,rfl,h1,l1,s1⟩:=Hn underlying36 underlying107 (by kernel_rfl) rfl rfl rfl (by kernel_rfl) (by kernel_rfl) (by kernel_rfl) underlying9 underlying9 underlying4 g1;obtain⟨aA,rfl⟩:=TV g2;obtain⟨f,fs,d,rfl,h3,l3⟩:=xO underlying37 underlying3 (by kernel_rfl) g3;exact⟨⟨K,b,aA,fs⟩,a,c,f,d,rfl,h1,h3,l1,s1,l3⟩
end
