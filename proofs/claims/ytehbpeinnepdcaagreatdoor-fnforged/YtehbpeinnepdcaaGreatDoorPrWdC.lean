import Derived.Test.YtehbpeinnepdcaaGreatDoorPrG41
import Derived.Test.YtehbpeinnepdcaaGreatDoorPrG31
set_option maxHeartbeats 16000000
namespace Go.Proofs.YtehbpeinnepdcaaGreatDoor
open Go.RowKit
set_option maxRecDepth 8000
set_option linter.unusedVariables false
set_option linter.unusedSimpArgs false
structure WcO (w w':World) (x:Wo) (q:Wp):Prop where
 cs:x.rs.length<=q.cs
 tt:w'.ownsRow w.heap.size 9 1 (.slice q.t x.ts.length q.ct) x.ts.length (x.ts.map Value.string)/\DepF w' (fun b=>w.heap.size<=b/\(Value.slice q.t x.ts.length q.ct).ownBlock≠some b) (fun W=>Strs W q.a x.ss/\Wrs W q.a' x.ws/\Prs W q.s x.rs)/\PstF w' (fun b=>w.heap.size<=b/\(Value.slice q.t x.ts.length q.ct).ownBlock≠some b) q.p x.P
 pp:∃ news,w'.ownsRow w.heap.size 31 1 (.slice q.p x.P.length q.cp) x.P.length news/\DepF w' (fun b=>w.heap.size<=b/\(Value.slice q.p x.P.length q.cp).ownBlock≠some b) (fun W=>Strs W q.a x.ss/\Wrs W q.a' x.ws/\Prs W q.s x.rs/\Strs W q.t x.ts)/\∀ i,i<x.P.length->∃ p c,news[i]?=some (.slice p (x.P.getD i []).length c)/\DepF w' (fun b=>w.heap.size<=b/\(Value.slice q.p x.P.length q.cp).ownBlock≠some b) (fun W=>Prs W p (x.P.getD i []))
def Z71 (w w':World) (r:Ending) (x:Wo):Prop:=∃ q g g',r=.returned (Zov x q)/\WoF x w' (fun b=>w.heap.size<=b) q/\q.a=some ⟨g,0,none⟩/\q.a'=some ⟨g',0,none⟩/\w'.ownsRow w.heap.size 9 1 (.slice q.a x.ss.length q.c) x.ss.length (x.ss.map Value.string)/\w'.ownsRow w.heap.size 74 2 (.slice q.a' x.ws.length q.c') x.ws.length (yaV x.ws)/\g≠g'/\Below w.heap.size w w'/\WcO w w' x q
theorem XLr {V w w':World} {r r':Option Nat} (h:V.grownBy w r) (hg:w.grownBy w' r') (hr:∀ g,r'=some g->V.heap.size<=g):V.grownBy w' r :=
 ⟨hg.os.trans h.os,hg.tape.trans h.tape,hg.output.trans h.output,Nat.le_trans h.size hg.size,fun i hi aA=>(hg.block i (Nat.lt_of_lt_of_le hi h.size) (fun e=>by have:=hr i e.symm;omega)).trans (h.block i hi aA)⟩
theorem xk7 {V w w':World} {X b i:Nat} (h1:V.grownBy w (some X)) (h2:V.grownBy w' (some X)) (hb:b<V.heap.size) (hx:b≠X):w'.cell? ⟨b,i,none⟩=w.cell? ⟨b,i,none⟩ :=
 World.cell?_of_block (a:=⟨b,i,none⟩) ((h2.block b hb (fun e=>hx (by injection e))).trans (h1.block b hb (fun e=>hx (by injection e))).symm)
structure PcS (W w:World) (G:Nat->Prop) (v:Value) (P:List (List Pr)) (j:Nat) (news:List Value):Prop where
 own:w.ownsRow W.heap.size 31 1 v j news
 len:news.length=j
 low:∀ b,G b->W.heap.size<=b/\b<w.heap.size
 out:∀ b,v.ownBlock=some b->¬ G b
 ech:∀ i,i<j->∃ p c,news[i]?=some (.slice p (P.getD i []).length c)/\DepF w G (fun U=>Prs U p (P.getD i []))
section
variable {W w w':World} {G:Nat->Prop} {v:Value} {P:List (List Pr)} {j:Nat} {news:List Value}
theorem PcS.below (h:PcS W w G v P j news) (hb:Below w.heap.size w w'):PcS W w' G v P j news :=
 ⟨jcb h.own hb,h.len,fun b k=>⟨(h.low b k).1,Nat.lt_of_lt_of_le (h.low b k).2 hb.size⟩,h.out,fun i hi=>by obtain ⟨p,c,k1,k2⟩:=h.ech i hi;exact ⟨p,c,k1,k2.below hb⟩⟩
theorem PcS.set (h:PcS W w G v P j news) (X i:Nat) (u:Value) (hX:X<W.heap.size):PcS W (w.setCell ⟨X,i,none⟩ u) G v P j news:=by
 have hg:=XGx w X i u;refine ⟨ownsRow_setCell_other h.own (fun e=>by have:=(h.own.lt _ e).1;exact absurd this (Nat.not_le.2 hX)) u,h.len,fun b k=>⟨(h.low b k).1,by rw [World.size_setCell];exact (h.low b k).2⟩,h.out,fun k hk=>?_⟩;obtain ⟨p,c,k1,k2⟩:=h.ech k hk
 exact ⟨p,c,k1,k2.grown hg (fun g e=>by cases e;exact fun k=>absurd (h.low _ k).1 (by omega))⟩
theorem PcS.push {g cap B:Nat} {p1:Option Addr} {c1:Nat} (h:PcS W w G v P j news) (hd:DepF w (fun b=>B<=b/\b<w.heap.size) (fun U=>Prs U p1 (P.getD j []))) (hB:W.heap.size<=B) (hv:∀ b,v.ownBlock=some b->b<B) (aB:w'.ownsRow W.heap.size 31 1 (.slice (some ⟨g,0,none⟩) (j+1) cap) (j+1) (news++[.slice p1 (P.getD j []).length c1])) (hg:w.grownBy w' v.ownBlock) (aC:v.ownBlock=some g\/w.heap.size<=g) :
  PcS W w' (fun b=>G b\/(B<=b/\b<w.heap.size)) (.slice (some ⟨g,0,none⟩) (j+1) cap) P (j+1) (news++[.slice p1 (P.getD j []).length c1]):=by
 have aA:∀ k,v.ownBlock=some k->¬ (G k\/(B<=k/\k<w.heap.size)):=fun k e hh=>by
  rcases hh with hh | hh
  ·exact h.out k e hh
  ·have:=hv k e;omega
 refine ⟨aB,by rw [List.length_append,h.len];rfl,fun b k=>?_,fun b e k=>?_,fun i hi=>?_⟩
 ·have:=hg.size
  rcases k with k | k
  ·have:=h.low b k;omega
  ·omega
 ·have e':g=b:=by injection e
  subst e';rcases aC with e2 | e2
  ·exact aA g e2 k
  ·rcases k with k | k
   ·have:=(h.low g k).2;omega
   ·omega
 ·by_cases h2:i<j
  ·obtain ⟨p,c,k1,k2⟩:=h.ech i h2
   exact ⟨p,c,by rw [List.getElem?_append_left (by rw [h.len];exact h2)];exact k1,(k2.mono (fun b _ k=>.inl k)).grown hg aA⟩
  ·obtain rfl:i=j:=by omega
   exact ⟨p1,c1,by rw [<-h.len];simp,(hd.mono (fun b _ k=>.inr k)).grown hg aA⟩
theorem PcS.pst (h:PcS W w G v P P.length news) (hW:W.heap.size<=w.heap.size) (a:Option Addr) (m c:Nat) (e:v=.slice a m c) (F:Nat->Prop) (hF:∀ b,W.heap.size<=b->F b):PstF w F a P:=by
 subst e
 by_cases h0:P=[]
 ·exact .inl h0
 ·rcases yUO h.own with ⟨h1,h2⟩ | ⟨g,cap,h1,h2⟩
  ·exact absurd (List.eq_nil_of_length_eq_zero h2) h0
  ·cases h1
   have hr:=kX5 h.own;refine .inr ⟨g,0,rfl,hr.lt,hF g (h.own.lt g rfl).1,fun i hi=>?_⟩;obtain ⟨p,c,k1,k2⟩:=h.ech i hi;exact ⟨p,c,by rw [Nat.zero_add];exact hr.cell i _ k1,k2.mono (fun b _ k=>hF b (h.low b k).1)⟩
end
def PcL (V w:World) (OB:Nat) (row:Value->List Value) (P:List (List Pr)) (j:Nat):Prop:=∃ (G:Nat->Prop) (Y:Value) (news:List Value),PcS V w G Y P j news/\Dep w OB (OB+1) (fun U=>Row U OB (row Y))/\V.grownBy w (some OB)
theorem J5i {w:World} {B B':Nat} {e:TypeId} {k:Nat} {v:Value} {m:Nat} {cs:List Value} (h:w.ownsRow B e k v m cs) (hB:B'<=B):w.ownsRow B' e k v m cs:=by
 refine ⟨h.1,?_⟩;rcases h.2 with h3 | ⟨g,cap,aA,k1,k2,k3⟩
 ·exact .inl h3
 ·exact .inr ⟨g,cap,aA,k1,Nat.le_trans hB k2,k3⟩
theorem JJW {w:World} {B:Nat} {e:TypeId} {k g c m:Nat} {cs:List Value} (h:w.ownsRow B e k (.slice (some ⟨g,0,none⟩) m c) m cs):OwnS w (some ⟨g,0,none⟩) cs:=.inr ⟨g,rfl,kX5 h⟩
theorem kag (x:Wo) (q:Wp) (w:World) (h:x.at w q) (hm:x.le 1048576):Calls Tryz.prog 42 #[Zov x q] w fun r w'=>Z71 w w' r x:=by
 have m1:=hm.l1;have m2:=hm.l2;have m3:=hm.l3;have m4:=hm.l4;have m5:=hm.l5;have iD:=hid hm.s4;obtain ⟨i0,fC,fH,fI,fJ⟩:=vHq kML;have HI:=hid (And.intro fC (And.intro fH (And.intro fI fJ)));clear fC fH fI fJ;obtain ⟨i1,fC,fH,fI,fJ⟩:=vHq q7E;have HJ:=hid (And.intro fC (And.intro fH (And.intro fI fJ)));clear fC fH fI fJ hm;have CD:=hid (fun w' k1 k2=>X4E q.a x.ss q.c q.a' x.ws q.c' w' k1 k2 m1 m2);unfold Zoj at CD;have CS:=hid (fun a rs c w' k1 k2=>Znr a rs c w' k1 k2);unfold stV at CS;unfold Zov;have hE:Below w.heap.size w w:=Below.refl _ _;go_enter Tryz.func42,Tryz.ntmps42;go_upto_region 1 with fail;generalize eW:w.alloc _=v1;obtain ⟨hb,gH,bA⟩:=bx1 eW;clear eW;replace hE:=hE.trans (hb.mono hE.size);clear hb;generalize eX:v1.alloc _=v2;obtain ⟨hb,fS,bR⟩:=bx1 eX;clear eX;rw [gH] at bR fS;replace bA:=bA.below hb;replace hE:=hE.trans (hb.mono hE.size);clear hb;obtain ⟨aJ,aK,aL,aM,aN,aO,aP,aQ,aR,aS,aD,aE,aF,aG,aH,aI,aT⟩:=c16 bA.now
 go_upto_region 2 with fail;clear aJ aK aL aM aN aO aP aQ aR aS aD aE aF aG aH aI aT;generalize eY:v2.alloc _=v3;obtain ⟨hb,gI,bO⟩:=bx1 eY;have iR:v2.heap.size+1<=v3.heap.size:=by omega
 clear eY gI;replace bA:=bA.below hb;replace bR:=bR.below hb;replace hE:=hE.trans (hb.mono hE.size);clear hb;obtain ⟨OB,eM⟩:∃ y,y=w.heap.size+1+1:=⟨_,rfl⟩;rw [fS,<-eM] at bO;rw [<-eM];have jF:w.heap.size+1<OB:=by omega
 have jG:OB<v3.heap.size:=bO.now.lt;clear eM;obtain ⟨aJ,aK,aL,aM,aN,aO,aP,aQ,aR,aS,aD,aE,aF,aG,aH,aI,aT⟩:=c16 bA.now;go_wp2_with fail;clear aJ aK aL aM aN aO aP aQ aR aS aD aE aF aG aH aI aT;refine (CD.out _ (h.below hE).h1 (h.below hE).h2).mono ?_;rintro e v4 ⟨g,c1,g',dM,rfl,oS,oW,iM,hb⟩;have iS:v3.heap.size<=v4.heap.size:=hb.size;replace bA:=bA.below hb;replace bR:=bR.below hb;replace bO:=bO.below hb;replace hE:=hE.trans (hb.mono hE.size);have dS:=JOt oS;have dW:=JOt oW;have lD:OB<v3.heap.size:=by omega
 clear oS oW;clear hb;unfold Zoj;obtain ⟨cM,cN,cO,cP,cQ,cS,cT,cU,cV,cW,bC,bG,bH,bI,bJ,bQ⟩:=bO.now.k16;obtain ⟨bY,bZ,b7,b8,cC,cE,cF,cH,cI,cJ,aU,aV,aW,aX,aY,aZ⟩:=bO.now.z16;have cY:=bO.now.lt;go_upto_region 3 with fail;clear cM bY cN bZ cO b7 cP b8 cQ cC cS cE cT cF cU cH cV cI cW cJ bC aU bG aV bH aW bI aX bJ aY bQ aZ cY;generalize eN:((v4.setCell _ _).setCell _ _)=v5;have aB:v4.grownBy v5 (some (OB)):=by rw [<-eN];exact y09 (y09 (World.grownBy.refl _ _) _ _) _ _
 have aA:=eN ▸ ((bO.now.set 1 (by simp) (.slice (some ⟨g,0,none⟩) x.ss.length c1)).set 2 (by simp) (.slice (some ⟨g',0,none⟩) x.ws.length dM));have iT:v4.heap.size<=v5.heap.size:=aB.size
 have aC:∀ g,(some (OB):Option Nat)=some g->OB<=g/\g<OB+1:=fun g hg=>by injection hg with hg;omega
 clear eN;replace bA:=bA.grown aB (fun g hg=>by have:=aC g hg;omega);replace bR:=bR.grown aB (fun g hg=>by have:=aC g hg;omega);replace dS:=dS.grown aB (fun g hg=>by have:=aC g hg;omega);replace dW:=dW.grown aB (fun g hg=>by have:=aC g hg;omega);replace hE:=hE.trans (jJX aB hE.size (fun g hg=>by have:=aC g hg;omega));have cL:=aA.lt;clear bO;have bO:=qXs aA;clear aA aB aC cL;obtain ⟨aJ,aK,aL,aM,aN,aO,aP,aQ,aR,aS,aD,aE,aF,aG,aH,aI,aT⟩:=c16 bA.now;go_wp2_with fail;clear aJ aK aL aM aN aO aP aQ aR aS aD aE aF aG aH aI aT;refine (CS.out q.s x.rs q.cs _ (h.below hE).h3 m3).mono ?_;rintro e v6 ⟨s1,dV,rfl,gY,oP,gV,hb⟩;have iU:v5.heap.size<=v6.heap.size:=hb.size;replace bA:=bA.below hb;replace bR:=bR.below hb;replace bO:=bO.below hb;replace dS:=dS.below hb;replace dW:=dW.below hb;replace hE:=hE.trans (hb.mono hE.size);have dP:=JKD (lo:=v5.heap.size) oP Xnn gV;have iE:=hid gY;clear oP gV gY;clear hb;unfold stV;obtain ⟨cM,cN,cO,cP,cQ,cS,cT,cU,cV,cW,bC,bG,bH,bI,bJ,bQ⟩:=bO.now.k16
 obtain ⟨bY,bZ,b7,b8,cC,cE,cF,cH,cI,cJ,aU,aV,aW,aX,aY,aZ⟩:=bO.now.z16;have cY:=bO.now.lt;go_upto_region 4 with fail;clear cM bY cN bZ cO b7 cP b8 cQ cC cS cE cT cF cU cH cV cI cW cJ bC aU bG aV bH aW bI aX bJ aY bQ aZ cY;generalize eO:(v6.setCell _ _)=v7;have aB:v6.grownBy v7 (some (OB)):=by rw [<-eO];exact y09 (World.grownBy.refl _ _) _ _
 have aA:=eO ▸ (bO.now.set 13 (by simp) (.slice s1 x.rs.length dV));have iV:v6.heap.size<=v7.heap.size:=aB.size
 have aC:∀ g,(some (OB):Option Nat)=some g->OB<=g/\g<OB+1:=fun g hg=>by injection hg with hg;omega
 clear eO;replace bA:=bA.grown aB (fun g hg=>by have:=aC g hg;omega);replace bR:=bR.grown aB (fun g hg=>by have:=aC g hg;omega);replace dS:=dS.grown aB (fun g hg=>by have:=aC g hg;omega);replace dW:=dW.grown aB (fun g hg=>by have:=aC g hg;omega);replace dP:=dP.grown aB (fun g hg=>by have:=aC g hg;omega);replace hE:=hE.trans (jJX aB hE.size (fun g hg=>by have:=aC g hg;omega));have cL:=aA.lt;clear bO;have bO:=qXs aA;clear aA aB aC cL;obtain ⟨cM,cN,cO,cP,cQ,cS,cT,cU,cV,cW,bC,bG,bH,bI,bJ,bQ⟩:=bO.now.k16;obtain ⟨bY,bZ,b7,b8,cC,cE,cF,cH,cI,cJ,aU,aV,aW,aX,aY,aZ⟩:=bO.now.z16;have cY:=bO.now.lt;go_upto_region 5 with fail;clear cM bY cN bZ cO b7 cP b8 cQ cC cS cE cT cF cU cH cV cI cW cJ bC aU bG aV bH aW bI aX bJ aY bQ aZ cY;obtain ⟨PB,eC⟩:∃ y,y=v7.heap.size:=⟨_,rfl⟩;rw [<-eC];generalize eD:(v7.setCell _ _)=v8;have aB:v7.grownBy v8 (some (OB)):=by rw [<-eD];exact y09 (World.grownBy.refl _ _) _ _
 have aA:=eD ▸ (bO.now.set 14 (by simp) (.slice (some ⟨PB,0,none⟩) 0 0));have iW:v7.heap.size<=v8.heap.size:=aB.size
 have aC:∀ g,(some (OB):Option Nat)=some g->OB<=g/\g<OB+1:=fun g hg=>by injection hg with hg;omega
 have zs:v8.heap.size=v7.heap.size:=by rw [<-eD,World.size_setCell]
 clear eD;replace bA:=bA.grown aB (fun g hg=>by have:=aC g hg;omega);replace bR:=bR.grown aB (fun g hg=>by have:=aC g hg;omega);replace dS:=dS.grown aB (fun g hg=>by have:=aC g hg;omega);replace dW:=dW.grown aB (fun g hg=>by have:=aC g hg;omega);replace dP:=dP.grown aB (fun g hg=>by have:=aC g hg;omega);replace hE:=hE.trans (jJX aB hE.size (fun g hg=>by have:=aC g hg;omega));have cL:=aA.lt;clear bO;have bO:=qXs aA;clear aA aB aC cL;have gE:=World.ownsRow_lit (w:=v8) (e:=31) (size:=1) (base:=v8.heap.size) #[] 0 (Nat.le_refl _) (by simp) (by simp);generalize eF:v8.alloc _=v9;have hb:Below v8.heap.size v8 v9:=by rw [<-eF];exact xCS _ _
 rw [eF] at gE;have iB:v9.heap.size=v8.heap.size+1:=by rw [<-eF];simp
 clear eF;have gO:v8.grownBy v9 (some OB):=Qbp _ hb;have gS:=hb;clear hb;have gR:PcS v8 v9 (fun _=>False) (.slice (some ⟨PB,0,none⟩) 0 0) x.P 0 []:=⟨by rw [<-zs] at eC;rw [eC];exact gE,rfl,fun b k=>k.elim,fun b _ k=>k.elim,fun i hi=>absurd hi (by omega)⟩;have fV:OB<v8.heap.size:=by omega
 have gM:=bO.below gS;have i9:=hid iB;clear gE zs iB eC;go_wp2;go_loopw [4] (fun iv wr=>∃ (j:Nat),j<=x.P.length/\iv=.int .i64 (j:Int)/\PcL v8 wr OB (fun Y=>[.int .i64 x.w,.slice (some ⟨g,0,none⟩) x.ss.length c1,.slice (some ⟨g',0,none⟩) x.ws.length dM,.bool x.up,.int .i64 x.W,.int .i64 x.S,.int .i64 x.L,.int .i64 x.T,.int .i64 x.H,.int .i64 x.F,.int .i64 x.R,.int .i64 x.U,.int .i64 x.O,.slice s1 x.rs.length dV,Y,.slice q.t x.ts.length q.ct]) x.P j) (fun iv _=>x.P.length-(intOf iv).toNat)
 case atStart=>exact ⟨0,Nat.zero_le _,rfl,⟨_,_,[],gR,gM,gO⟩⟩
 case round =>
  clear gR gM gO gS;obtain ⟨j,hj,rfl,fX⟩:=hrel;obtain ⟨G,Y,news,hP,fT,hG⟩:=fX;replace fT:Dep wr OB (OB+1) (fun U=>Row U OB [.int .i64 x.w,.slice (some ⟨g,0,none⟩) x.ss.length c1,.slice (some ⟨g',0,none⟩) x.ws.length dM,.bool x.up,.int .i64 x.W,.int .i64 x.S,.int .i64 x.L,.int .i64 x.T,.int .i64 x.H,.int .i64 x.F,.int .i64 x.R,.int .i64 x.U,.int .i64 x.O,.slice s1 x.rs.length dV,Y,.slice q.t x.ts.length q.ct]):=fT;clear bO;obtain ⟨ya,yc,rfl⟩:=q6I hP.own;have jC:=hG.size;have gN:Below w.heap.size w wr:=hE.trans (jJX hG hE.size (fun g hg=>by injection hg with hg;omega));have rA:=(bA.grown hG (fun g hg=>by injection hg with hg;omega)).now;have eS:=rA.cell 14 _ rfl;have g6:=rA.lt;have eT:=hid gN;have HG:=hid hG;have HP:=hid hP;have HO:=hid fT;clear hG hP fT gN
  by_cases fU:j<x.P.length
  ·have iL:(j:Int)<(x.P.length:Int):=by omega
   have jA:(0:Int)<=(j:Int):=by omega
   have jE:IntKind.i64.wrap ((j:Int)+1)=((j+1:Nat):Int):=by rw [JWx _ (by omega) (by omega)];omega
   obtain ⟨pb,po,p1,eK,iO,gG,fG,gL⟩:=h.h4.at fU;have jD:=eT.out.size;have iP:pb<wr.heap.size:=by omega
   have fF:=(eT.out.cell (p:=⟨pb,po+j,none⟩) gG).trans fG;clear fG;have eQ:=(iD.out _ (show x.P.getD j []∈x.P by rw [List.getD,List.getElem?_eq_getElem fU];exact List.getElem_mem fU)).1;obtain ⟨n1,eG⟩:∃ y,Hid (y=x.P.getD j []):=⟨_,hid rfl⟩;rw [<-eG.out] at fF eQ;have eL:=gL.out.below eT.out;rw [<-eG.out] at eL;have gK:=hid eL;clear gL eL;rw [iO] at eS;clear rA
   have HK:Hid (∀ U,Below wr.heap.size wr U->U.cell? ⟨w.heap.size,14,none⟩=some (.slice (some ⟨pb,po,none⟩) x.P.length q.cp)/\U.cell? ⟨pb,po+j,none⟩=some (.slice p1 n1.length eK)):=fun U hb=>⟨(hb.cell (p:=⟨w.heap.size,14,none⟩) g6).trans eS,(hb.cell (p:=⟨pb,po+j,none⟩) iP).trans fF⟩
   go_upto_region 8 with fail;refine wp_region_held_drew (S:=fun w'=>w'.cell? ⟨w.heap.size,14,none⟩=some (.slice (some ⟨pb,po,none⟩) x.P.length q.cp)/\w'.cell? ⟨pb,po+j,none⟩=some (.slice p1 n1.length eK)) (by kernel_rfl) (HK.out _ (Below.refl _ _).drew) (fun eP=>?_);refine TY 0 (.pointer (some ⟨OB,14,none⟩)) rfl eP (TY 2 (.pointer (some ⟨w.heap.size,14,none⟩)) rfl eP (TY 3 (.slice (some ⟨pb,po,none⟩) x.P.length q.cp) rfl eP (TY 4 (.int .i64 (j:Int)) rfl eP (TY 5 (.pointer (some ⟨pb,po+j,none⟩)) rfl eP (TY 6 (.agg #[.slice p1 n1.length eK]) rfl eP ?_)))));simp only [PS];refine wpAnyH_ready (rs:=[1,7]) (by kernel_rfl) (by simp) ?_;refine AllReadyH.cons rfl (fun Kq bU=>?_) (AllReadyH.cons rfl (fun Kq bU=>?_) AllReadyH.nil)
   ·have gZ:=(HO.out.below (Below.refl _ _).drew).now.cell 14 _ rfl
    go_simp;refine bU.out _ _ eP (fun _=>?_)
    try simp only [PS]
    refine RD 7 rfl (fun Kq bU=>?_);obtain ⟨y0,dI⟩:∃ y,y=wr.drew:=⟨_,rfl⟩;rw [<-dI];have dL:Below wr.heap.size wr y0:=by rw [dI];exact (Below.refl _ _).drew
    clear dI;refine XRf (by rfl) _ _ (by go_simp) (CS.out p1 n1 eK _ (gK.out.below dL) eQ) ?_;rintro e y1 ⟨s2,dH,rfl,eR,fO,dR,gF⟩;refine ⟨_,rfl,?_⟩;have dZ:=dL.trans (gF.mono dL.size);have dY:=JKD (lo:=y0.heap.size) fO Xnn dR;clear fO dR eR;refine bU.out _ _ (HK.out _ dZ) (fun iG=>?_)
    try simp only [PS]
    refine RD 8 rfl (fun Kq bU=>?_);go_simp;have dK:=xCS y1 (.cells #[.slice s2 n1.length dH] 31);have rN:=xER y1 #[.slice s2 n1.length dH] 31;obtain ⟨y2,eI⟩:∃ y,y=y1.alloc (.cells #[.slice s2 n1.length dH] 31):=⟨_,rfl⟩;obtain ⟨NB,eH⟩:∃ y,y=y1.heap.size:=⟨_,rfl⟩;rw [<-eI] at dK rN ⊢;rw [<-eH] at rN ⊢;have bV:=dZ.trans (dK.mono dZ.size);have dY:=dY.below dK;clear eI eH;refine bU.out _ _ (HK.out _ bV) (fun iH=>?_)
    try simp only [PS]
    refine RD 9 rfl (fun Kq bU=>?_);have gX:=bV.size;refine SAL _ (by rfl) _ _ _ (by rfl) v8.heap.size Tryz.underlying34 HJ.out rfl (by omega) (.slice ya j yc) j _ (by rfl) (jcb HP.out.own bV) ⟨NB,0,none⟩ 1 1 [.slice s2 n1.length dH] (by rfl) rfl (fun j u hu=>by rw [JoX];exact rN.cell j u hu) (by intro u hu;simp at hu;subst hu;rfl) (by have:=bV.size;omega) _ rfl ?_;intro g9 bW y3 o9 cK dQ fE;have fB:=(HP.out.below bV).push (B:=y0.heap.size) (p1:=s2) (c1:=dH) (by rw [<-eG.out];exact (xat dY (fun b k1 k2=>⟨k1,by have:=dK.size;omega⟩)).map fun U k=>k.prs) (by have:=dL.size;omega) (fun b e=>by have:=(HP.out.own.lt _ e).2;have:=dL.size;omega) (by rw [<-eG.out];exact o9) cK (dQ.imp id (fun e=>by omega));have dJ:=(HO.out.below bV).grown cK (fun g e=>by have:=(HP.out.own.lt _ e).1;omega);have dO:v8.grownBy y3 (some OB):=XLr (ZpU HG.out (Qbp _ bV)) cK (fun g e=>(HP.out.own.lt _ e).1);have dU:y3.cell? ⟨w.heap.size,14,none⟩=some (.slice (some ⟨pb,po,none⟩) x.P.length q.cp)/\y3.cell? ⟨pb,po+j,none⟩=some (.slice p1 n1.length eK):=⟨(xk7 HG.out dO (by omega) (by omega)).trans eS,(xk7 HG.out dO (by omega) (by omega)).trans fF⟩
    refine bU.out _ _ (dU) (fun fY=>?_)
    try simp only [PS]
    refine TY 10 (.pointer (some ⟨OB,14,none⟩)) rfl fY ?_;simp only [PS];refine RD 11 rfl (fun Kq bU=>?_);have l3:=dJ.now.cell 14 _ rfl;have f3:=dJ.now.froz 14 (by simp);have t3:=dJ.now.lt;go_simp;refine bU.out _ _ (⟨(World.cell?_setCell_far _ _ _ _ (by show OB≠w.heap.size;omega)).trans dU.1,(World.cell?_setCell_far _ _ _ _ (by show OB≠pb;omega)).trans dU.2⟩) (fun iI=>?_)
    try simp only [PS]
    refine DN ?_;have HF:PcL v8 (y3.setCell ⟨OB,14,none⟩ (.slice (some ⟨g9,0,none⟩) (j+1) bW)) OB (fun Y=>[.int .i64 x.w,.slice (some ⟨g,0,none⟩) x.ss.length c1,.slice (some ⟨g',0,none⟩) x.ws.length dM,.bool x.up,.int .i64 x.W,.int .i64 x.S,.int .i64 x.L,.int .i64 x.T,.int .i64 x.H,.int .i64 x.F,.int .i64 x.R,.int .i64 x.U,.int .i64 x.O,.slice s1 x.rs.length dV,Y,.slice q.t x.ts.length q.ct]) x.P (j+1):=⟨_,.slice (some ⟨g9,0,none⟩) (j+1) bW,_,fB.set OB 14 _ fV,qXs (dJ.now.set 14 (by simp) (.slice (some ⟨g9,0,none⟩) (j+1) bW)),ZpU dO (XGx y3 OB 14 _)⟩;go_wp2;exact ⟨⟨j+1,by omega,by go_num,HF⟩,by simp [intOf];omega⟩
   ·obtain ⟨y0,dI⟩:∃ y,y=wr.drew:=⟨_,rfl⟩
    rw [<-dI];have dL:Below wr.heap.size wr y0:=by rw [dI];exact (Below.refl _ _).drew
    clear dI;refine XRf (by rfl) _ _ (by go_simp) (CS.out p1 n1 eK _ (gK.out.below dL) eQ) ?_;rintro e y1 ⟨s2,dH,rfl,eR,fO,dR,gF⟩;refine ⟨_,rfl,?_⟩;have dZ:=dL.trans (gF.mono dL.size);have dY:=JKD (lo:=y0.heap.size) fO Xnn dR;clear fO dR eR;refine bU.out _ _ (HK.out _ dZ) (fun fZ=>?_)
    try simp only [PS]
    refine wpAnyH_ready (rs:=[1,8]) (by kernel_rfl) (by simp) ?_;refine AllReadyH.cons rfl (fun Kq bU=>?_) (AllReadyH.cons rfl (fun Kq bU=>?_) AllReadyH.nil)
    ·have gZ:=(HO.out.below dZ).now.cell 14 _ rfl
     go_simp;refine bU.out _ _ fZ (fun _=>?_)
     try simp only [PS]
     refine RD 8 rfl (fun Kq bU=>?_);go_simp;have dK:=xCS y1 (.cells #[.slice s2 n1.length dH] 31);have rN:=xER y1 #[.slice s2 n1.length dH] 31;obtain ⟨y2,eI⟩:∃ y,y=y1.alloc (.cells #[.slice s2 n1.length dH] 31):=⟨_,rfl⟩;obtain ⟨NB,eH⟩:∃ y,y=y1.heap.size:=⟨_,rfl⟩;rw [<-eI] at dK rN ⊢;rw [<-eH] at rN ⊢;have bV:=dZ.trans (dK.mono dZ.size);have dY:=dY.below dK;clear eI eH;refine bU.out _ _ (HK.out _ bV) (fun iJ=>?_)
     try simp only [PS]
     refine RD 9 rfl (fun Kq bU=>?_);have gX:=bV.size;refine SAL _ (by rfl) _ _ _ (by rfl) v8.heap.size Tryz.underlying34 HJ.out rfl (by omega) (.slice ya j yc) j _ (by rfl) (jcb HP.out.own bV) ⟨NB,0,none⟩ 1 1 [.slice s2 n1.length dH] (by rfl) rfl (fun j u hu=>by rw [JoX];exact rN.cell j u hu) (by intro u hu;simp at hu;subst hu;rfl) (by have:=bV.size;omega) _ rfl ?_;intro g9 bW y3 o9 cK dQ fE;have fB:=(HP.out.below bV).push (B:=y0.heap.size) (p1:=s2) (c1:=dH) (by rw [<-eG.out];exact (xat dY (fun b k1 k2=>⟨k1,by have:=dK.size;omega⟩)).map fun U k=>k.prs) (by have:=dL.size;omega) (fun b e=>by have:=(HP.out.own.lt _ e).2;have:=dL.size;omega) (by rw [<-eG.out];exact o9) cK (dQ.imp id (fun e=>by omega));have dJ:=(HO.out.below bV).grown cK (fun g e=>by have:=(HP.out.own.lt _ e).1;omega);have dO:v8.grownBy y3 (some OB):=XLr (ZpU HG.out (Qbp _ bV)) cK (fun g e=>(HP.out.own.lt _ e).1);have dU:y3.cell? ⟨w.heap.size,14,none⟩=some (.slice (some ⟨pb,po,none⟩) x.P.length q.cp)/\y3.cell? ⟨pb,po+j,none⟩=some (.slice p1 n1.length eK):=⟨(xk7 HG.out dO (by omega) (by omega)).trans eS,(xk7 HG.out dO (by omega) (by omega)).trans fF⟩
     refine bU.out _ _ (dU) (fun gD=>?_)
     try simp only [PS]
     refine TY 10 (.pointer (some ⟨OB,14,none⟩)) rfl gD ?_;simp only [PS];refine RD 11 rfl (fun Kq bU=>?_);have l3:=dJ.now.cell 14 _ rfl;have f3:=dJ.now.froz 14 (by simp);have t3:=dJ.now.lt;go_simp;refine bU.out _ _ (⟨(World.cell?_setCell_far _ _ _ _ (by show OB≠w.heap.size;omega)).trans dU.1,(World.cell?_setCell_far _ _ _ _ (by show OB≠pb;omega)).trans dU.2⟩) (fun gP=>?_)
     try simp only [PS]
     refine DN ?_;have HF:PcL v8 (y3.setCell ⟨OB,14,none⟩ (.slice (some ⟨g9,0,none⟩) (j+1) bW)) OB (fun Y=>[.int .i64 x.w,.slice (some ⟨g,0,none⟩) x.ss.length c1,.slice (some ⟨g',0,none⟩) x.ws.length dM,.bool x.up,.int .i64 x.W,.int .i64 x.S,.int .i64 x.L,.int .i64 x.T,.int .i64 x.H,.int .i64 x.F,.int .i64 x.R,.int .i64 x.U,.int .i64 x.O,.slice s1 x.rs.length dV,Y,.slice q.t x.ts.length q.ct]) x.P (j+1):=⟨_,.slice (some ⟨g9,0,none⟩) (j+1) bW,_,fB.set OB 14 _ fV,qXs (dJ.now.set 14 (by simp) (.slice (some ⟨g9,0,none⟩) (j+1) bW)),ZpU dO (XGx y3 OB 14 _)⟩;go_wp2;exact ⟨⟨j+1,by omega,by go_num,HF⟩,by simp [intOf];omega⟩
    ·go_simp
     have dK:=xCS y1 (.cells #[.slice s2 n1.length dH] 31);have rN:=xER y1 #[.slice s2 n1.length dH] 31;obtain ⟨y2,eI⟩:∃ y,y=y1.alloc (.cells #[.slice s2 n1.length dH] 31):=⟨_,rfl⟩;obtain ⟨NB,eH⟩:∃ y,y=y1.heap.size:=⟨_,rfl⟩;rw [<-eI] at dK rN ⊢;rw [<-eH] at rN ⊢;have bV:=dZ.trans (dK.mono dZ.size);have dY:=dY.below dK;clear eI eH;refine bU.out _ _ (HK.out _ bV) (fun eZ=>?_)
     try simp only [PS]
     refine RD 1 rfl (fun Kq bU=>?_);have gZ:=(HO.out.below bV).now.cell 14 _ rfl;go_simp;refine bU.out _ _ eZ (fun _=>?_)
     try simp only [PS]
     refine RD 9 rfl (fun Kq bU=>?_);have gX:=bV.size;refine SAL _ (by rfl) _ _ _ (by rfl) v8.heap.size Tryz.underlying34 HJ.out rfl (by omega) (.slice ya j yc) j _ (by rfl) (jcb HP.out.own bV) ⟨NB,0,none⟩ 1 1 [.slice s2 n1.length dH] (by rfl) rfl (fun j u hu=>by rw [JoX];exact rN.cell j u hu) (by intro u hu;simp at hu;subst hu;rfl) (by have:=bV.size;omega) _ rfl ?_;intro g9 bW y3 o9 cK dQ fE;have fB:=(HP.out.below bV).push (B:=y0.heap.size) (p1:=s2) (c1:=dH) (by rw [<-eG.out];exact (xat dY (fun b k1 k2=>⟨k1,by have:=dK.size;omega⟩)).map fun U k=>k.prs) (by have:=dL.size;omega) (fun b e=>by have:=(HP.out.own.lt _ e).2;have:=dL.size;omega) (by rw [<-eG.out];exact o9) cK (dQ.imp id (fun e=>by omega));have dJ:=(HO.out.below bV).grown cK (fun g e=>by have:=(HP.out.own.lt _ e).1;omega);have dO:v8.grownBy y3 (some OB):=XLr (ZpU HG.out (Qbp _ bV)) cK (fun g e=>(HP.out.own.lt _ e).1);have dU:y3.cell? ⟨w.heap.size,14,none⟩=some (.slice (some ⟨pb,po,none⟩) x.P.length q.cp)/\y3.cell? ⟨pb,po+j,none⟩=some (.slice p1 n1.length eK):=⟨(xk7 HG.out dO (by omega) (by omega)).trans eS,(xk7 HG.out dO (by omega) (by omega)).trans fF⟩
     refine bU.out _ _ (dU) (fun fA=>?_)
     try simp only [PS]
     refine TY 10 (.pointer (some ⟨OB,14,none⟩)) rfl fA ?_;simp only [PS];refine RD 11 rfl (fun Kq bU=>?_);have l3:=dJ.now.cell 14 _ rfl;have f3:=dJ.now.froz 14 (by simp);have t3:=dJ.now.lt;go_simp;refine bU.out _ _ (⟨(World.cell?_setCell_far _ _ _ _ (by show OB≠w.heap.size;omega)).trans dU.1,(World.cell?_setCell_far _ _ _ _ (by show OB≠pb;omega)).trans dU.2⟩) (fun gQ=>?_)
     try simp only [PS]
     refine DN ?_;have HF:PcL v8 (y3.setCell ⟨OB,14,none⟩ (.slice (some ⟨g9,0,none⟩) (j+1) bW)) OB (fun Y=>[.int .i64 x.w,.slice (some ⟨g,0,none⟩) x.ss.length c1,.slice (some ⟨g',0,none⟩) x.ws.length dM,.bool x.up,.int .i64 x.W,.int .i64 x.S,.int .i64 x.L,.int .i64 x.T,.int .i64 x.H,.int .i64 x.F,.int .i64 x.R,.int .i64 x.U,.int .i64 x.O,.slice s1 x.rs.length dV,Y,.slice q.t x.ts.length q.ct]) x.P (j+1):=⟨_,.slice (some ⟨g9,0,none⟩) (j+1) bW,_,fB.set OB 14 _ fV,qXs (dJ.now.set 14 (by simp) (.slice (some ⟨g9,0,none⟩) (j+1) bW)),ZpU dO (XGx y3 OB 14 _)⟩;go_wp2;exact ⟨⟨j+1,by omega,by go_num,HF⟩,by simp [intOf];omega⟩
  have gW:j=x.P.length:=by omega
  have hP:=HP.out;rw [gW] at hP;have gJ:=(hP.pst (by omega) ya x.P.length yc rfl (fun b=>v8.heap.size<=b) (fun b k=>k)).mono (G:=fun b=>v8.heap.size<=b/\b<wr.heap.size) (fun b hl k=>⟨k,hl⟩);have eU:=hid gJ;have iC:Hid (∀ b,(Value.slice ya x.P.length yc).ownBlock=some b->b<wr.heap.size):=hid (fun b e=>(hP.own.lt b e).2);clear gJ;have eV:=hid hP;have jB:¬ ((j:Int)<(x.P.length:Int)):=by omega
  have hG:=HG.out;have bO:=HO.out;clear hP HP HO HG fU;replace bA:=bA.grown hG (fun g hg=>by injection hg with hg;omega);replace bR:=bR.grown hG (fun g hg=>by injection hg with hg;omega);replace dS:=dS.grown hG (fun g hg=>by injection hg with hg;omega);replace dW:=dW.grown hG (fun g hg=>by injection hg with hg;omega);replace dP:=dP.grown hG (fun g hg=>by injection hg with hg;omega);replace hE:=eT.out;have iX:=hG.size;clear hG eT rA eS g6;obtain ⟨aJ,aK,aL,aM,aN,aO,aP,aQ,aR,aS,aD,aE,aF,aG,aH,aI,aT⟩:=c16 bA.now;go_upto_region 10 with (at_builtin;refine Z4q rfl _ _ 23 rfl 9 i0 (.string ByteArray.empty) 1 16 Tryz.underlying23 HI.out.1 HI.out.2.1 HI.out.2.2.1 HI.out.2.2.2 rfl wr.heap.size wr.heap.size rfl (World.ownsRow_lit _ #[] 0 (Nat.le_refl _) (by simp) (by simp)) _ rfl x.ts.length _ (src_strs ((h.below hE).h5.below (xCS _ _)) _ _ Tryz.underlying23 q.ct) (by omega) (by omega) (by simp) ?_;intro g0 cZ ws eJ iK gU;have hb:Below wr.heap.size wr ws:=(xCS _ _).trans (gU.mono (by simp));have iF:=(bO.below hb).now.froz 15 (by simp);have iQ:=(bO.below hb).now.cell 15 _ rfl;have kl:=(bO.below hb).now.lt;clear gU iK)
  clear aJ aK aL aM aN aO aP aQ aR aS aD aE aF aG aH aI aT;have dT:=JOt eJ;clear eJ iF iQ kl;have iY:wr.heap.size<=ws.heap.size:=hb.size;replace eV:=hid (eV.out.below hb);replace eU:=hid (eU.out.below hb);have jH:wr.heap.size<=g0:=(dT.now.lt g0 rfl).1;replace bA:=bA.below hb;replace bR:=bR.below hb;replace bO:=bO.below hb;replace dS:=dS.below hb;replace dW:=dW.below hb;replace dP:=dP.below hb;replace hE:=hE.trans (hb.mono hE.size);clear hb;generalize dE:(ws.setCell _ _)=fW;have aB:ws.grownBy fW (some (OB)):=by rw [<-dE];exact y09 (World.grownBy.refl _ _) _ _
  have aA:=dE ▸ (bO.now.set 15 (by simp) (.slice (some ⟨g0,0,none⟩) x.ts.length cZ));have hI:ws.heap.size<=fW.heap.size:=aB.size
  have aC:∀ g,(some (OB):Option Nat)=some g->OB<=g/\g<OB+1:=fun g hg=>by injection hg with hg;omega
  replace eU:=hid (by have:=eU.out.grown (XGx _ OB 15 (.slice (some ⟨g0,0,none⟩) x.ts.length cZ)) (fun g e k=>by cases e;omega);rw [dE] at this;exact this);replace eV:=hid (by have:=eV.out.set OB 15 (.slice (some ⟨g0,0,none⟩) x.ts.length cZ) fV;rw [dE] at this;exact this);clear dE;replace bA:=bA.grown aB (fun g hg=>by have:=aC g hg;omega);replace bR:=bR.grown aB (fun g hg=>by have:=aC g hg;omega);replace dS:=dS.grown aB (fun g hg=>by have:=aC g hg;omega);replace dW:=dW.grown aB (fun g hg=>by have:=aC g hg;omega);replace dP:=dP.grown aB (fun g hg=>by have:=aC g hg;omega);replace dT:=dT.grown aB (fun g hg=>by have:=aC g hg;omega);replace hE:=hE.trans (jJX aB hE.size (fun g hg=>by have:=aC g hg;omega));have cL:=aA.lt;clear bO;have bO:=qXs aA;clear aA aB aC cL;refine wp_region_lit ?_;refine wpList_load_mid rfl 36 _ rfl OB 0 rfl [.int .i64 x.w,.slice (some ⟨g,0,none⟩) x.ss.length c1,.slice (some ⟨g',0,none⟩) x.ws.length dM,.bool x.up,.int .i64 x.W,.int .i64 x.S,.int .i64 x.L,.int .i64 x.T,.int .i64 x.H,.int .i64 x.F,.int .i64 x.R,.int .i64 x.U,.int .i64 x.O,.slice s1 x.rs.length dV,.slice ya j yc,.slice (some ⟨g0,0,none⟩) x.ts.length cZ] _ bO.now.range Tryz.underlying36 rfl ZAx ?_
  simp only [PS];refine wpList_store_mid rfl 36 _ _ rfl (w.heap.size+1) 0 #[.int .i64 x.w,.slice (some ⟨g,0,none⟩) x.ss.length c1,.slice (some ⟨g',0,none⟩) x.ws.length dM,.bool x.up,.int .i64 x.W,.int .i64 x.S,.int .i64 x.L,.int .i64 x.T,.int .i64 x.H,.int .i64 x.F,.int .i64 x.R,.int .i64 x.U,.int .i64 x.O,.slice s1 x.rs.length dV,.slice ya j yc,.slice (some ⟨g0,0,none⟩) x.ts.length cZ] rfl rfl (bR.now.there rfl) ZAx (by kernel_rfl) ?_
  try simp only [PS]
  generalize dN:fW.setCells _ _ _=iZ;have aB:fW.grownBy iZ (some (w.heap.size+1)):=by rw [<-dN];exact Qvn _ _ _ _
  have aA:=dN ▸ bR.now.sets [.int .i64 x.w,.slice (some ⟨g,0,none⟩) x.ss.length c1,.slice (some ⟨g',0,none⟩) x.ws.length dM,.bool x.up,.int .i64 x.W,.int .i64 x.S,.int .i64 x.L,.int .i64 x.T,.int .i64 x.H,.int .i64 x.F,.int .i64 x.R,.int .i64 x.U,.int .i64 x.O,.slice s1 x.rs.length dV,.slice ya j yc,.slice (some ⟨g0,0,none⟩) x.ts.length cZ] rfl;clear dN;have iA:=aB.size
  have aC:∀ g,(some (w.heap.size+1):Option Nat)=some g->w.heap.size+1<=g/\g<w.heap.size+1+1:=fun g hg=>by injection hg with hg;omega
  have eB:=eV.out;replace dS:=dS.grown aB (fun g hg=>by have:=aC g hg;omega);replace dW:=dW.grown aB (fun g hg=>by have:=aC g hg;omega);replace dP:=dP.grown aB (fun g hg=>by have:=aC g hg;omega);replace dT:=dT.grown aB (fun g hg=>by have:=aC g hg;omega);replace hE:=hE.trans (jJX aB hE.size (fun g hg=>by have:=aC g hg;omega));go_wp2;have fQ:=c16 aA;obtain ⟨z0,z1,z2,z3,z4,z5,z6,z7,z8,z9,i3,i4,i5,i6,i7,i8,jI⟩:=fQ;have F4:=((eB.pst (by omega) ya x.P.length yc rfl (fun b=>v8.heap.size<=b) (fun b k=>k)).grown aB (fun g hg k=>by have:=aC g hg;omega)).mono (G:=fun b=>w.heap.size<=b) (fun b _ k=>by omega);refine bodyPost_ret (v:=.agg #[.int .i64 x.w,.slice (some ⟨g,0,none⟩) x.ss.length c1,.slice (some ⟨g',0,none⟩) x.ws.length dM,.bool x.up,.int .i64 x.W,.int .i64 x.S,.int .i64 x.L,.int .i64 x.T,.int .i64 x.H,.int .i64 x.F,.int .i64 x.R,.int .i64 x.U,.int .i64 x.O,.slice s1 x.rs.length dV,.slice ya j yc,.slice (some ⟨g0,0,none⟩) x.ts.length cZ]) (by simp [results,Tryz.results42,go_sem,z0,z1,z2,z3,z4,z5,z6,z7,z8,z9,i3,i4,i5,i6,i7,i8]) rfl ⟨⟨some ⟨g,0,none⟩,c1,some ⟨g',0,none⟩,dM,s1,dV,ya,yc,some ⟨g0,0,none⟩,cZ⟩,g,g',by unfold Zov;rw [gW],⟨?_,?_,?_,F4,?_⟩,rfl,rfl,J5i dS.now (by omega),J5i dW.now (by omega),iM,hE,⟨iE.out,?_,?_⟩⟩
  ·exact (xat dS (fun b hb _=>by omega)).map fun U k=>(JJW k).strs
  ·exact (xat dW (fun b hb _=>by omega)).map fun U k=>(JJW k).wrs
  ·exact (xat dP (fun b hb _=>by omega)).map fun U k=>k.prs
  ·exact (xat dT (fun b hb _=>by omega)).map fun U k=>(JJW k).strs
  ·have F5:=(eU.out.grown aB (fun g hg k=>by have:=aC g hg;omega)).mono (G:=fun b=>w.heap.size<=b/\(Value.slice (some ⟨g0,0,none⟩) x.ts.length cZ).ownBlock≠some b) (fun b _ k=>⟨by omega,fun e=>by have e:g0=b:=Option.some.inj e;omega⟩)
   refine ⟨J5i dT.now (by omega),?_,F5⟩
   exact (xat (F:=fun b=>w.heap.size<=b/\(Value.slice (some ⟨g0,0,none⟩) x.ts.length cZ).ownBlock≠some b) dS (fun b h1 h2=>⟨by omega,fun e=>by have e:g0=b:=Option.some.inj e;omega⟩)).and ((xat dW (fun b h1 h2=>⟨by omega,fun e=>by have e:g0=b:=Option.some.inj e;omega⟩)).and (xat dP (fun b h1 h2=>⟨by omega,fun e=>by have e:g0=b:=Option.some.inj e;omega⟩))) |>.map fun U k=>⟨(JJW k.1).strs,(JJW k.2.1).wrs,k.2.2.prs⟩
  ·have iN:=eB.own.kept aB (.inr (fun e=>by have e2:=(eB.own.lt _ e).1;omega))
   refine ⟨_,J5i iN (by omega),?_,fun i hi=>?_⟩
   ·exact (xat (F:=fun b=>w.heap.size<=b/\(Value.slice ya x.P.length yc).ownBlock≠some b) dS (fun b h1 h2=>⟨by omega,fun e=>by have:=(eB.own.lt _ e).1;omega⟩)).and ((xat dW (fun b h1 h2=>⟨by omega,fun e=>by have:=(eB.own.lt _ e).1;omega⟩)).and ((xat dP (fun b h1 h2=>⟨by omega,fun e=>by have:=(eB.own.lt _ e).1;omega⟩)).and (xat dT (fun b h1 h2=>⟨by omega,fun e=>by have:=iC.out b e;omega⟩)))) |>.map fun U k=>⟨(JJW k.1).strs,(JJW k.2.1).wrs,k.2.2.1.prs,(JJW k.2.2.2).strs⟩
   ·obtain ⟨p1,c9,e1,e2⟩:=eB.ech i hi
    exact ⟨p1,c9,e1,(e2.grown aB (fun g hg k=>by have:=aC g hg;have:=(eB.low g k).1;omega)).mono (G:=fun b=>w.heap.size<=b/\(Value.slice ya x.P.length yc).ownBlock≠some b) (fun b _ k=>⟨by have:=(eB.low b k).1;omega,fun e=>eB.out b e k⟩)⟩
end Go.Proofs.YtehbpeinnepdcaaGreatDoor
