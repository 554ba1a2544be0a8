import Derived.Test.YtcdojnnkjeakmaaGreatDoorPrWdD0
set_option maxHeartbeats 16000000
namespace Go.Proofs.YtcdojnnkjeakmaaGreatDoor
open Go.RowKit
set_option maxRecDepth 8000
set_option linter.unusedVariables false
set_option linter.unusedSimpArgs false
def z18 (w w':World) (r:Ending) (x:Wo):Prop:=∃ q g g',r=.returned (Zov x q)/\WoF x w' (fun b=>w.heap.size<=b) q/\q.a=some ⟨g,0,none⟩/\q.a'=some ⟨g',0,none⟩/\w'.ownsRow w.heap.size 9 1 (.slice q.a x.ss.length q.c) x.ss.length (x.ss.map Value.string)/\w'.ownsRow w.heap.size 97 2 (.slice q.a' x.ws.length q.c') x.ws.length (yaV x.ws)/\g≠g'/\Below w.heap.size w w'
theorem XLr {V w w':World} {r r':Option Nat} (h:V.grownBy w r) (hg:w.grownBy w' r') (hr:∀ g,r'=some g->V.heap.size<=g):V.grownBy w' r :=
 ⟨hg.os.trans h.os,hg.tape.trans h.tape,hg.output.trans h.output,Nat.le_trans h.size hg.size,fun i hi aA=>(hg.block i (Nat.lt_of_lt_of_le hi h.size) (fun e=>by have:=hr i e.symm;omega)).trans (h.block i hi aA)⟩
theorem xk7 {V w w':World} {X b i:Nat} (h1:V.grownBy w (some X)) (h2:V.grownBy w' (some X)) (hb:b<V.heap.size) (hx:b≠X):w'.cell? ⟨b,i,none⟩=w.cell? ⟨b,i,none⟩ :=
 World.cell?_of_block (a:=⟨b,i,none⟩) ((h2.block b hb (fun e=>hx (by injection e))).trans (h1.block b hb (fun e=>hx (by injection e))).symm)
structure PcS (W w:World) (G:Nat->Prop) (v:Value) (P:List (List Pr)) (j:Nat) (news:List Value):Prop where
 own:w.ownsRow W.heap.size 57 1 v j news
 len:news.length=j
 low:∀ b,G b->W.heap.size<=b/\b<w.heap.size
 out:∀ b,v.ownBlock=some b->¬ G b
 ech:∀ i,i<j->∃ p c,news[i]?=some (.slice p (P.getD i []).length c)/\DepF w G (fun U=>Prs U p (P.getD i []))
section
variable {W w w':World} {G:Nat->Prop} {v:Value} {P:List (List Pr)} {j:Nat} {news:List Value}
theorem PcS.below (h:PcS W w G v P j news) (hb:Below w.heap.size w w'):PcS W w' G v P j news :=
 ⟨jcb h.own hb,h.len,fun b k=>⟨(h.low b k).1,Nat.lt_of_lt_of_le (h.low b k).2 hb.size⟩,h.out,fun i hi=>by obtain ⟨p,c,k1,k2⟩:=h.ech i hi;exact ⟨p,c,k1,k2.below hb⟩⟩
theorem PcS.set (h:PcS W w G v P j news) (X i:Nat) (u:Value) (hX:X<W.heap.size):PcS W (w.setCell ⟨X,i,none⟩ u) G v P j news:=by
 have hg:=XGx w X i u;refine ⟨ownsRow_setCell_other h.own (fun e=>by have:=(h.own.lt _ e).1;exact absurd this (Nat.not_le.2 hX)) u,h.len,fun b k=>⟨(h.low b k).1,by rw [World.size_setCell];exact (h.low b k).2⟩,h.out,fun k hk=>?_⟩;obtain ⟨p,c,k1,k2⟩:=h.ech k hk
 exact ⟨p,c,k1,k2.grown hg (fun g e=>by cases e;exact fun k=>absurd (h.low _ k).1 (by omega))⟩
theorem PcS.push {g cap B:Nat} {p1:Option Addr} {c1:Nat} (h:PcS W w G v P j news) (hd:DepF w (fun b=>B<=b/\b<w.heap.size) (fun U=>Prs U p1 (P.getD j []))) (hB:W.heap.size<=B) (hv:∀ b,v.ownBlock=some b->b<B) (aB:w'.ownsRow W.heap.size 57 1 (.slice (some ⟨g,0,none⟩) (j+1) cap) (j+1) (news++[.slice p1 (P.getD j []).length c1])) (hg:w.grownBy w' v.ownBlock) (aC:v.ownBlock=some g\/w.heap.size<=g) :
  PcS W w' (fun b=>G b\/(B<=b/\b<w.heap.size)) (.slice (some ⟨g,0,none⟩) (j+1) cap) P (j+1) (news++[.slice p1 (P.getD j []).length c1]):=by
 have aA:∀ k,v.ownBlock=some k->¬ (G k\/(B<=k/\k<w.heap.size)):=fun k e hh=>by
  rcases hh with hh | hh
  ·exact h.out k e hh
  ·have:=hv k e;omega
 refine ⟨aB,by rw [List.length_append,h.len];rfl,fun b k=>?_,fun b e k=>?_,fun i hi=>?_⟩
 ·have:=hg.size
  rcases k with k | k
  ·have:=h.low b k;omega
  ·omega
 ·have e':g=b:=by injection e
  subst e';rcases aC with e2 | e2
  ·exact aA g e2 k
  ·rcases k with k | k
   ·have:=(h.low g k).2;omega
   ·omega
 ·by_cases h2:i<j
  ·obtain ⟨p,c,k1,k2⟩:=h.ech i h2
   exact ⟨p,c,by rw [List.getElem?_append_left (by rw [h.len];exact h2)];exact k1,(k2.mono (fun b _ k=>.inl k)).grown hg aA⟩
  ·obtain rfl:i=j:=by omega
   exact ⟨p1,c1,by rw [<-h.len];simp,(hd.mono (fun b _ k=>.inr k)).grown hg aA⟩
theorem PcS.pst (h:PcS W w G v P P.length news) (hW:W.heap.size<=w.heap.size) (a:Option Addr) (m c:Nat) (e:v=.slice a m c) (F:Nat->Prop) (hF:∀ b,W.heap.size<=b->F b):PstF w F a P:=by
 subst e
 by_cases h0:P=[]
 ·exact .inl h0
 ·rcases yUO h.own with ⟨h1,h2⟩ | ⟨g,cap,h1,h2⟩
  ·exact absurd (List.eq_nil_of_length_eq_zero h2) h0
  ·cases h1
   have hr:=kX5 h.own;refine .inr ⟨g,0,rfl,hr.lt,hF g (h.own.lt g rfl).1,fun i hi=>?_⟩;obtain ⟨p,c,k1,k2⟩:=h.ech i hi;exact ⟨p,c,by rw [Nat.zero_add];exact hr.cell i _ k1,k2.mono (fun b _ k=>hF b (h.low b k).1)⟩
end
def PcL (V w:World) (OB:Nat) (row:Value->List Value) (P:List (List Pr)) (j:Nat):Prop:=∃ (G:Nat->Prop) (Y:Value) (news:List Value),PcS V w G Y P j news/\Dep w OB (OB+1) (fun U=>Row U OB (row Y))/\V.grownBy w (some OB)
theorem J5i {w:World} {B B':Nat} {e:TypeId} {k:Nat} {v:Value} {m:Nat} {cs:List Value} (h:w.ownsRow B e k v m cs) (hB:B'<=B):w.ownsRow B' e k v m cs:=by
 refine ⟨h.1,?_⟩;rcases h.2 with h3 | ⟨g,cap,aA,k1,k2,k3⟩
 ·exact .inl h3
 ·exact .inr ⟨g,cap,aA,k1,Nat.le_trans hB k2,k3⟩
theorem JJW {w:World} {B:Nat} {e:TypeId} {k g c m:Nat} {cs:List Value} (h:w.ownsRow B e k (.slice (some ⟨g,0,none⟩) m c) m cs):OwnS w (some ⟨g,0,none⟩) cs:=.inr ⟨g,rfl,kX5 h⟩
theorem kAL (x:Wo) (q:Wp) (w:World) (h:x.at w q) (hm:x.le 1048576):Calls Tryz.prog 41 #[Zov x q] w fun r w'=>z18 w w' r x:=by
 have m1:=hm.l1;have m2:=hm.l2;have m3:=hm.l3;have m4:=hm.l4;have m5:=hm.l5;have iA:=hid hm.s4;obtain ⟨i0,fG,fA,fE,eS⟩:=vHq kML;have HI:=hid (And.intro fG (And.intro fA (And.intro fE eS)));clear fG fA fE eS;obtain ⟨i1,fG,fA,fE,eS⟩:=vHq q7E;have HJ:=hid (And.intro fG (And.intro fA (And.intro fE eS)));clear fG fA fE eS hm;have CD:=hid (fun w' k1 k2=>X4E q.a x.ss q.c q.a' x.ws q.c' w' k1 k2 m1 m2);unfold Zoj at CD;have CS:=hid (fun a rs c w' k1 k2=>Znr a rs c w' k1 k2);unfold stV at CS;unfold Zov;have hE:Below w.heap.size w w:=Below.refl _ _;go_enter Tryz.func41,Tryz.ntmps41;go_upto_region 1 with fail;generalize fJ:w.alloc _=v1;obtain ⟨hb,fZ,bA⟩:=bx1 fJ;clear fJ;replace hE:=hE.trans (hb.mono hE.size);clear hb;generalize eY:v1.alloc _=v2;obtain ⟨hb,fB,bR⟩:=bx1 eY;clear eY;rw [fZ] at bR fB;replace bA:=bA.below hb;replace hE:=hE.trans (hb.mono hE.size);clear hb;obtain ⟨aN,aQ,aR,aO,aM,aJ,aK,aT,aP,aS,aC,aE,aG,aH,aF,aD,aL⟩:=c16 bA.now
 go_upto_region 2 with fail;clear aN aQ aR aO aM aJ aK aT aP aS aC aE aG aH aF aD aL;generalize eT:v2.alloc _=v3;obtain ⟨hb,gF,bO⟩:=bx1 eT;have iD:v2.heap.size+1<=v3.heap.size:=by omega
 clear eT gF;replace bA:=bA.below hb;replace bR:=bR.below hb;replace hE:=hE.trans (hb.mono hE.size);clear hb;obtain ⟨OB,eO⟩:∃ y,y=w.heap.size+1+1:=⟨_,rfl⟩;rw [fB,<-eO] at bO;rw [<-eO];have jB:w.heap.size+1<OB:=by omega
 have i7:OB<v3.heap.size:=bO.now.lt;clear eO;obtain ⟨aN,aQ,aR,aO,aM,aJ,aK,aT,aP,aS,aC,aE,aG,aH,aF,aD,aL⟩:=c16 bA.now;go_wp2_with fail;clear aN aQ aR aO aM aJ aK aT aP aS aC aE aG aH aF aD aL;refine (CD.out _ (h.below hE).h1 (h.below hE).h2).mono ?_;rintro e v4 ⟨g,c1,g',dR,rfl,oS,oW,iM,hb⟩;have iJ:v3.heap.size<=v4.heap.size:=hb.size;replace bA:=bA.below hb;replace bR:=bR.below hb;replace bO:=bO.below hb;replace hE:=hE.trans (hb.mono hE.size);have dS:=JOt oS;have dW:=JOt oW;have lD:OB<v3.heap.size:=by omega
 clear oS oW;clear hb;unfold Zoj;obtain ⟨cW,cK,cN,cH,cM,cQ,b7,cE,cC,cS,bQ,aU,bI,aY,bC,bH⟩:=bO.now.k16;obtain ⟨cL,bZ,cV,cP,bW,cO,cY,cT,cF,cJ,aV,aX,bJ,aZ,aW,bG⟩:=bO.now.z16;have b8:=bO.now.lt;go_upto_region 3 with fail;clear cW cL cK bZ cN cV cH cP cM bW cQ cO b7 cY cE cT cC cF cS cJ bQ aV aU aX bI bJ aY aZ bC aW bH bG b8;generalize eM:((v4.setCell _ _).setCell _ _)=v5;have aB:v4.grownBy v5 (some (OB)):=by rw [<-eM];exact y09 (y09 (World.grownBy.refl _ _) _ _) _ _
 have aA:=eM ▸ ((bO.now.set 1 (by simp) (.slice (some ⟨g,0,none⟩) x.ss.length c1)).set 2 (by simp) (.slice (some ⟨g',0,none⟩) x.ws.length dR));have iY:v4.heap.size<=v5.heap.size:=aB.size
 have aI:∀ g,(some (OB):Option Nat)=some g->OB<=g/\g<OB+1:=fun g hg=>by injection hg with hg;omega
 clear eM;replace bA:=bA.grown aB (fun g hg=>by have:=aI g hg;omega);replace bR:=bR.grown aB (fun g hg=>by have:=aI g hg;omega);replace dS:=dS.grown aB (fun g hg=>by have:=aI g hg;omega);replace dW:=dW.grown aB (fun g hg=>by have:=aI g hg;omega);replace hE:=hE.trans (jJX aB hE.size (fun g hg=>by have:=aI g hg;omega));have cU:=aA.lt;clear bO;have bO:=qXs aA;clear aA aB aI cU;obtain ⟨aN,aQ,aR,aO,aM,aJ,aK,aT,aP,aS,aC,aE,aG,aH,aF,aD,aL⟩:=c16 bA.now;go_wp2_with fail;clear aN aQ aR aO aM aJ aK aT aP aS aC aE aG aH aF aD aL;refine (CS.out q.s x.rs q.cs _ (h.below hE).h3 m3).mono ?_;rintro e v6 ⟨s1,dN,rfl,iR,oP,gS,hb⟩;have iE:v5.heap.size<=v6.heap.size:=hb.size;replace bA:=bA.below hb;replace bR:=bR.below hb;replace bO:=bO.below hb;replace dS:=dS.below hb;replace dW:=dW.below hb;replace hE:=hE.trans (hb.mono hE.size);have dP:=JKD (lo:=v5.heap.size) oP Xnn gS;clear oP gS iR;clear hb;unfold stV;obtain ⟨cW,cK,cN,cH,cM,cQ,b7,cE,cC,cS,bQ,aU,bI,aY,bC,bH⟩:=bO.now.k16
 obtain ⟨cL,bZ,cV,cP,bW,cO,cY,cT,cF,cJ,aV,aX,bJ,aZ,aW,bG⟩:=bO.now.z16;have b8:=bO.now.lt;go_upto_region 4 with fail;clear cW cL cK bZ cN cV cH cP cM bW cQ cO b7 cY cE cT cC cF cS cJ bQ aV aU aX bI bJ aY aZ bC aW bH bG b8;generalize eN:(v6.setCell _ _)=v7;have aB:v6.grownBy v7 (some (OB)):=by rw [<-eN];exact y09 (World.grownBy.refl _ _) _ _
 have aA:=eN ▸ (bO.now.set 13 (by simp) (.slice s1 x.rs.length dN));have i3:v6.heap.size<=v7.heap.size:=aB.size
 have aI:∀ g,(some (OB):Option Nat)=some g->OB<=g/\g<OB+1:=fun g hg=>by injection hg with hg;omega
 clear eN;replace bA:=bA.grown aB (fun g hg=>by have:=aI g hg;omega);replace bR:=bR.grown aB (fun g hg=>by have:=aI g hg;omega);replace dS:=dS.grown aB (fun g hg=>by have:=aI g hg;omega);replace dW:=dW.grown aB (fun g hg=>by have:=aI g hg;omega);replace dP:=dP.grown aB (fun g hg=>by have:=aI g hg;omega);replace hE:=hE.trans (jJX aB hE.size (fun g hg=>by have:=aI g hg;omega));have cU:=aA.lt;clear bO;have bO:=qXs aA;clear aA aB aI cU;obtain ⟨cW,cK,cN,cH,cM,cQ,b7,cE,cC,cS,bQ,aU,bI,aY,bC,bH⟩:=bO.now.k16;obtain ⟨cL,bZ,cV,cP,bW,cO,cY,cT,cF,cJ,aV,aX,bJ,aZ,aW,bG⟩:=bO.now.z16;have b8:=bO.now.lt;go_upto_region 5 with fail;clear cW cL cK bZ cN cV cH cP cM bW cQ cO b7 cY cE cT cC cF cS cJ bQ aV aU aX bI bJ aY aZ bC aW bH bG b8;obtain ⟨PB,eB⟩:∃ y,y=v7.heap.size:=⟨_,rfl⟩;rw [<-eB];generalize eC:(v7.setCell _ _)=v8;have aB:v7.grownBy v8 (some (OB)):=by rw [<-eC];exact y09 (World.grownBy.refl _ _) _ _
 have aA:=eC ▸ (bO.now.set 14 (by simp) (.slice (some ⟨PB,0,none⟩) 0 0));have iO:v7.heap.size<=v8.heap.size:=aB.size
 have aI:∀ g,(some (OB):Option Nat)=some g->OB<=g/\g<OB+1:=fun g hg=>by injection hg with hg;omega
 have zs:v8.heap.size=v7.heap.size:=by rw [<-eC,World.size_setCell]
 clear eC;replace bA:=bA.grown aB (fun g hg=>by have:=aI g hg;omega);replace bR:=bR.grown aB (fun g hg=>by have:=aI g hg;omega);replace dS:=dS.grown aB (fun g hg=>by have:=aI g hg;omega);replace dW:=dW.grown aB (fun g hg=>by have:=aI g hg;omega);replace dP:=dP.grown aB (fun g hg=>by have:=aI g hg;omega);replace hE:=hE.trans (jJX aB hE.size (fun g hg=>by have:=aI g hg;omega));have cU:=aA.lt;clear bO;have bO:=qXs aA;clear aA aB aI cU;have fY:=World.ownsRow_lit (w:=v8) (e:=57) (size:=1) (base:=v8.heap.size) #[] 0 (Nat.le_refl _) (by simp) (by simp);generalize eD:v8.alloc _=v9;have hb:Below v8.heap.size v8 v9:=by rw [<-eD];exact xCS _ _
 rw [eD] at fY;have gZ:v9.heap.size=v8.heap.size+1:=by rw [<-eD];simp
 clear eD;have gW:v8.grownBy v9 (some OB):=Qbp _ hb;have gJ:=hb;clear hb;have gU:PcS v8 v9 (fun _=>False) (.slice (some ⟨PB,0,none⟩) 0 0) x.P 0 []:=⟨by rw [<-zs] at eB;rw [eB];exact fY,rfl,fun b k=>k.elim,fun b _ k=>k.elim,fun i hi=>absurd hi (by omega)⟩;have fS:OB<v8.heap.size:=by omega
 have gO:=bO.below gJ;have jC:=hid gZ;clear fY zs gZ eB;go_wp2;go_loopw [4] (fun iv wr=>∃ (j:Nat),j<=x.P.length/\iv=.int .i64 (j:Int)/\PcL v8 wr OB (fun Y=>[.int .i64 x.w,.slice (some ⟨g,0,none⟩) x.ss.length c1,.slice (some ⟨g',0,none⟩) x.ws.length dR,.bool x.up,.int .i64 x.W,.int .i64 x.S,.int .i64 x.L,.int .i64 x.T,.int .i64 x.H,.int .i64 x.F,.int .i64 x.R,.int .i64 x.U,.int .i64 x.O,.slice s1 x.rs.length dN,Y,.slice q.t x.ts.length q.ct]) x.P j) (fun iv _=>x.P.length-(intOf iv).toNat)
 case atStart=>exact ⟨0,Nat.zero_le _,rfl,⟨_,_,[],gU,gO,gW⟩⟩
 case round =>
  clear gU gO gW gJ;obtain ⟨j,hj,rfl,fW⟩:=hrel;obtain ⟨G,Y,news,hP,fT,hG⟩:=fW;replace fT:Dep wr OB (OB+1) (fun U=>Row U OB [.int .i64 x.w,.slice (some ⟨g,0,none⟩) x.ss.length c1,.slice (some ⟨g',0,none⟩) x.ws.length dR,.bool x.up,.int .i64 x.W,.int .i64 x.S,.int .i64 x.L,.int .i64 x.T,.int .i64 x.H,.int .i64 x.F,.int .i64 x.R,.int .i64 x.U,.int .i64 x.O,.slice s1 x.rs.length dN,Y,.slice q.t x.ts.length q.ct]):=fT;clear bO;obtain ⟨ya,yc,rfl⟩:=q6I hP.own;have i4:=hG.size;have gY:Below w.heap.size w wr:=hE.trans (jJX hG hE.size (fun g hg=>by injection hg with hg;omega));have rA:=(bA.grown hG (fun g hg=>by injection hg with hg;omega)).now;have eR:=rA.cell 14 _ rfl;have gR:=rA.lt;have fO:=hid gY;have HG:=hid hG;have HP:=hid hP;have HO:=hid fT;clear hG hP fT gY
  by_cases fQ:j<x.P.length
  ·have iL:(j:Int)<(x.P.length:Int):=by omega
   have jA:(0:Int)<=(j:Int):=by omega
   have i5:IntKind.i64.wrap ((j:Int)+1)=((j+1:Nat):Int):=by rw [JWx _ (by omega) (by omega)];omega
   obtain ⟨pb,po,p1,eF,iV,gD,fF,gX⟩:=h.h4.at fQ;have i8:=fO.out.size;have iT:pb<wr.heap.size:=by omega
   have eW:=(fO.out.cell (p:=⟨pb,po+j,none⟩) gD).trans fF;clear fF;have eL:=(iA.out _ (show x.P.getD j []∈x.P by rw [List.getD,List.getElem?_eq_getElem fQ];exact List.getElem_mem fQ)).1;obtain ⟨n1,eI⟩:∃ y,Hid (y=x.P.getD j []):=⟨_,hid rfl⟩;rw [<-eI.out] at eW eL;have eQ:=gX.out.below fO.out;rw [<-eI.out] at eQ;have gN:=hid eQ;clear gX eQ;rw [iV] at eR;clear rA
   have HK:Hid (∀ U,Below wr.heap.size wr U->U.cell? ⟨w.heap.size,14,none⟩=some (.slice (some ⟨pb,po,none⟩) x.P.length q.cp)/\U.cell? ⟨pb,po+j,none⟩=some (.slice p1 n1.length eF)):=fun U hb=>⟨(hb.cell (p:=⟨w.heap.size,14,none⟩) gR).trans eR,(hb.cell (p:=⟨pb,po+j,none⟩) iT).trans eW⟩
   go_upto_region 8 with fail;refine wp_region_held_drew (S:=fun w'=>w'.cell? ⟨w.heap.size,14,none⟩=some (.slice (some ⟨pb,po,none⟩) x.P.length q.cp)/\w'.cell? ⟨pb,po+j,none⟩=some (.slice p1 n1.length eF)) (by kernel_rfl) (HK.out _ (Below.refl _ _).drew) (fun eP=>?_);refine TY 0 (.pointer (some ⟨OB,14,none⟩)) rfl eP (TY 2 (.pointer (some ⟨w.heap.size,14,none⟩)) rfl eP (TY 3 (.slice (some ⟨pb,po,none⟩) x.P.length q.cp) rfl eP (TY 4 (.int .i64 (j:Int)) rfl eP (TY 5 (.pointer (some ⟨pb,po+j,none⟩)) rfl eP (TY 6 (.agg #[.slice p1 n1.length eF]) rfl eP ?_)))));simp only [PS];refine wpAnyH_ready (rs:=[1,7]) (by kernel_rfl) (by simp) ?_;refine AllReadyH.cons rfl (fun Kq bU=>?_) (AllReadyH.cons rfl (fun Kq bU=>?_) AllReadyH.nil)
   ·have gL:=(HO.out.below (Below.refl _ _).drew).now.cell 14 _ rfl
    go_simp;refine bU.out _ _ eP (fun _=>?_)
    try simp only [PS]
    refine RD 7 rfl (fun Kq bU=>?_);obtain ⟨y0,dE⟩:∃ y,y=wr.drew:=⟨_,rfl⟩;rw [<-dE];have dL:Below wr.heap.size wr y0:=by rw [dE];exact (Below.refl _ _).drew
    clear dE;refine XRf (by rfl) _ _ (by go_simp) (CS.out p1 n1 eF _ (gN.out.below dL) eL) ?_;rintro e y1 ⟨s2,cZ,rfl,eK,fI,dM,gG⟩;refine ⟨_,rfl,?_⟩;have dY:=dL.trans (gG.mono dL.size);have dZ:=JKD (lo:=y0.heap.size) fI Xnn dM;clear fI dM eK;refine bU.out _ _ (HK.out _ dY) (fun iC=>?_)
    try simp only [PS]
    refine RD 8 rfl (fun Kq bU=>?_);go_simp;have dK:=xCS y1 (.cells #[.slice s2 n1.length cZ] 57);have rN:=xER y1 #[.slice s2 n1.length cZ] 57;obtain ⟨y2,eG⟩:∃ y,y=y1.alloc (.cells #[.slice s2 n1.length cZ] 57):=⟨_,rfl⟩;obtain ⟨NB,eH⟩:∃ y,y=y1.heap.size:=⟨_,rfl⟩;rw [<-eG] at dK rN ⊢;rw [<-eH] at rN ⊢;have bV:=dY.trans (dK.mono dY.size);have dZ:=dZ.below dK;clear eG eH;refine bU.out _ _ (HK.out _ bV) (fun iU=>?_)
    try simp only [PS]
    refine RD 9 rfl (fun Kq bU=>?_);have gH:=bV.size;refine SAL _ (by rfl) _ _ _ (by rfl) v8.heap.size Tryz.underlying60 HJ.out rfl (by omega) (.slice ya j yc) j _ (by rfl) (jcb HP.out.own bV) ⟨NB,0,none⟩ 1 1 [.slice s2 n1.length cZ] (by rfl) rfl (fun j u hu=>by rw [JoX];exact rN.cell j u hu) (by intro u hu;simp at hu;subst hu;rfl) (by have:=bV.size;omega) _ rfl ?_;intro g9 bY y3 o9 cI dU eZ;have eU:=(HP.out.below bV).push (B:=y0.heap.size) (p1:=s2) (c1:=cZ) (by rw [<-eI.out];exact (xat dZ (fun b k1 k2=>⟨k1,by have:=dK.size;omega⟩)).map fun U k=>k.prs) (by have:=dL.size;omega) (fun b e=>by have:=(HP.out.own.lt _ e).2;have:=dL.size;omega) (by rw [<-eI.out];exact o9) cI (dU.imp id (fun e=>by omega));have dJ:=(HO.out.below bV).grown cI (fun g e=>by have:=(HP.out.own.lt _ e).1;omega);have dV:v8.grownBy y3 (some OB):=XLr (ZpU HG.out (Qbp _ bV)) cI (fun g e=>(HP.out.own.lt _ e).1);have dQ:y3.cell? ⟨w.heap.size,14,none⟩=some (.slice (some ⟨pb,po,none⟩) x.P.length q.cp)/\y3.cell? ⟨pb,po+j,none⟩=some (.slice p1 n1.length eF):=⟨(xk7 HG.out dV (by omega) (by omega)).trans eR,(xk7 HG.out dV (by omega) (by omega)).trans eW⟩
    refine bU.out _ _ (dQ) (fun gE=>?_)
    try simp only [PS]
    refine TY 10 (.pointer (some ⟨OB,14,none⟩)) rfl gE ?_;simp only [PS];refine RD 11 rfl (fun Kq bU=>?_);have l3:=dJ.now.cell 14 _ rfl;have f3:=dJ.now.froz 14 (by simp);have t3:=dJ.now.lt;go_simp;refine bU.out _ _ (⟨(World.cell?_setCell_far _ _ _ _ (by show OB≠w.heap.size;omega)).trans dQ.1,(World.cell?_setCell_far _ _ _ _ (by show OB≠pb;omega)).trans dQ.2⟩) (fun iN=>?_)
    try simp only [PS]
    refine DN ?_;have HF:PcL v8 (y3.setCell ⟨OB,14,none⟩ (.slice (some ⟨g9,0,none⟩) (j+1) bY)) OB (fun Y=>[.int .i64 x.w,.slice (some ⟨g,0,none⟩) x.ss.length c1,.slice (some ⟨g',0,none⟩) x.ws.length dR,.bool x.up,.int .i64 x.W,.int .i64 x.S,.int .i64 x.L,.int .i64 x.T,.int .i64 x.H,.int .i64 x.F,.int .i64 x.R,.int .i64 x.U,.int .i64 x.O,.slice s1 x.rs.length dN,Y,.slice q.t x.ts.length q.ct]) x.P (j+1):=⟨_,.slice (some ⟨g9,0,none⟩) (j+1) bY,_,eU.set OB 14 _ fS,qXs (dJ.now.set 14 (by simp) (.slice (some ⟨g9,0,none⟩) (j+1) bY)),ZpU dV (XGx y3 OB 14 _)⟩;go_wp2;exact ⟨⟨j+1,by omega,by go_num,HF⟩,by simp [intOf];omega⟩
   ·obtain ⟨y0,dE⟩:∃ y,y=wr.drew:=⟨_,rfl⟩
    rw [<-dE];have dL:Below wr.heap.size wr y0:=by rw [dE];exact (Below.refl _ _).drew
    clear dE;refine XRf (by rfl) _ _ (by go_simp) (CS.out p1 n1 eF _ (gN.out.below dL) eL) ?_;rintro e y1 ⟨s2,cZ,rfl,eK,fI,dM,gG⟩;refine ⟨_,rfl,?_⟩;have dY:=dL.trans (gG.mono dL.size);have dZ:=JKD (lo:=y0.heap.size) fI Xnn dM;clear fI dM eK;refine bU.out _ _ (HK.out _ dY) (fun fX=>?_)
    try simp only [PS]
    refine wpAnyH_ready (rs:=[1,8]) (by kernel_rfl) (by simp) ?_;refine AllReadyH.cons rfl (fun Kq bU=>?_) (AllReadyH.cons rfl (fun Kq bU=>?_) AllReadyH.nil)
    ·have gL:=(HO.out.below dY).now.cell 14 _ rfl
     go_simp;refine bU.out _ _ fX (fun _=>?_)
     try simp only [PS]
     refine RD 8 rfl (fun Kq bU=>?_);go_simp;have dK:=xCS y1 (.cells #[.slice s2 n1.length cZ] 57);have rN:=xER y1 #[.slice s2 n1.length cZ] 57;obtain ⟨y2,eG⟩:∃ y,y=y1.alloc (.cells #[.slice s2 n1.length cZ] 57):=⟨_,rfl⟩;obtain ⟨NB,eH⟩:∃ y,y=y1.heap.size:=⟨_,rfl⟩;rw [<-eG] at dK rN ⊢;rw [<-eH] at rN ⊢;have bV:=dY.trans (dK.mono dY.size);have dZ:=dZ.below dK;clear eG eH;refine bU.out _ _ (HK.out _ bV) (fun iK=>?_)
     try simp only [PS]
     refine RD 9 rfl (fun Kq bU=>?_);have gH:=bV.size;refine SAL _ (by rfl) _ _ _ (by rfl) v8.heap.size Tryz.underlying60 HJ.out rfl (by omega) (.slice ya j yc) j _ (by rfl) (jcb HP.out.own bV) ⟨NB,0,none⟩ 1 1 [.slice s2 n1.length cZ] (by rfl) rfl (fun j u hu=>by rw [JoX];exact rN.cell j u hu) (by intro u hu;simp at hu;subst hu;rfl) (by have:=bV.size;omega) _ rfl ?_;intro g9 bY y3 o9 cI dU eZ;have eU:=(HP.out.below bV).push (B:=y0.heap.size) (p1:=s2) (c1:=cZ) (by rw [<-eI.out];exact (xat dZ (fun b k1 k2=>⟨k1,by have:=dK.size;omega⟩)).map fun U k=>k.prs) (by have:=dL.size;omega) (fun b e=>by have:=(HP.out.own.lt _ e).2;have:=dL.size;omega) (by rw [<-eI.out];exact o9) cI (dU.imp id (fun e=>by omega));have dJ:=(HO.out.below bV).grown cI (fun g e=>by have:=(HP.out.own.lt _ e).1;omega);have dV:v8.grownBy y3 (some OB):=XLr (ZpU HG.out (Qbp _ bV)) cI (fun g e=>(HP.out.own.lt _ e).1);have dQ:y3.cell? ⟨w.heap.size,14,none⟩=some (.slice (some ⟨pb,po,none⟩) x.P.length q.cp)/\y3.cell? ⟨pb,po+j,none⟩=some (.slice p1 n1.length eF):=⟨(xk7 HG.out dV (by omega) (by omega)).trans eR,(xk7 HG.out dV (by omega) (by omega)).trans eW⟩
     refine bU.out _ _ (dQ) (fun fV=>?_)
     try simp only [PS]
     refine TY 10 (.pointer (some ⟨OB,14,none⟩)) rfl fV ?_;simp only [PS];refine RD 11 rfl (fun Kq bU=>?_);have l3:=dJ.now.cell 14 _ rfl;have f3:=dJ.now.froz 14 (by simp);have t3:=dJ.now.lt;go_simp;refine bU.out _ _ (⟨(World.cell?_setCell_far _ _ _ _ (by show OB≠w.heap.size;omega)).trans dQ.1,(World.cell?_setCell_far _ _ _ _ (by show OB≠pb;omega)).trans dQ.2⟩) (fun gI=>?_)
     try simp only [PS]
     refine DN ?_;have HF:PcL v8 (y3.setCell ⟨OB,14,none⟩ (.slice (some ⟨g9,0,none⟩) (j+1) bY)) OB (fun Y=>[.int .i64 x.w,.slice (some ⟨g,0,none⟩) x.ss.length c1,.slice (some ⟨g',0,none⟩) x.ws.length dR,.bool x.up,.int .i64 x.W,.int .i64 x.S,.int .i64 x.L,.int .i64 x.T,.int .i64 x.H,.int .i64 x.F,.int .i64 x.R,.int .i64 x.U,.int .i64 x.O,.slice s1 x.rs.length dN,Y,.slice q.t x.ts.length q.ct]) x.P (j+1):=⟨_,.slice (some ⟨g9,0,none⟩) (j+1) bY,_,eU.set OB 14 _ fS,qXs (dJ.now.set 14 (by simp) (.slice (some ⟨g9,0,none⟩) (j+1) bY)),ZpU dV (XGx y3 OB 14 _)⟩;go_wp2;exact ⟨⟨j+1,by omega,by go_num,HF⟩,by simp [intOf];omega⟩
    ·go_simp
     have dK:=xCS y1 (.cells #[.slice s2 n1.length cZ] 57);have rN:=xER y1 #[.slice s2 n1.length cZ] 57;obtain ⟨y2,eG⟩:∃ y,y=y1.alloc (.cells #[.slice s2 n1.length cZ] 57):=⟨_,rfl⟩;obtain ⟨NB,eH⟩:∃ y,y=y1.heap.size:=⟨_,rfl⟩;rw [<-eG] at dK rN ⊢;rw [<-eH] at rN ⊢;have bV:=dY.trans (dK.mono dY.size);have dZ:=dZ.below dK;clear eG eH;refine bU.out _ _ (HK.out _ bV) (fun eV=>?_)
     try simp only [PS]
     refine RD 1 rfl (fun Kq bU=>?_);have gL:=(HO.out.below bV).now.cell 14 _ rfl;go_simp;refine bU.out _ _ eV (fun _=>?_)
     try simp only [PS]
     refine RD 9 rfl (fun Kq bU=>?_);have gH:=bV.size;refine SAL _ (by rfl) _ _ _ (by rfl) v8.heap.size Tryz.underlying60 HJ.out rfl (by omega) (.slice ya j yc) j _ (by rfl) (jcb HP.out.own bV) ⟨NB,0,none⟩ 1 1 [.slice s2 n1.length cZ] (by rfl) rfl (fun j u hu=>by rw [JoX];exact rN.cell j u hu) (by intro u hu;simp at hu;subst hu;rfl) (by have:=bV.size;omega) _ rfl ?_;intro g9 bY y3 o9 cI dU eZ;have eU:=(HP.out.below bV).push (B:=y0.heap.size) (p1:=s2) (c1:=cZ) (by rw [<-eI.out];exact (xat dZ (fun b k1 k2=>⟨k1,by have:=dK.size;omega⟩)).map fun U k=>k.prs) (by have:=dL.size;omega) (fun b e=>by have:=(HP.out.own.lt _ e).2;have:=dL.size;omega) (by rw [<-eI.out];exact o9) cI (dU.imp id (fun e=>by omega));have dJ:=(HO.out.below bV).grown cI (fun g e=>by have:=(HP.out.own.lt _ e).1;omega);have dV:v8.grownBy y3 (some OB):=XLr (ZpU HG.out (Qbp _ bV)) cI (fun g e=>(HP.out.own.lt _ e).1);have dQ:y3.cell? ⟨w.heap.size,14,none⟩=some (.slice (some ⟨pb,po,none⟩) x.P.length q.cp)/\y3.cell? ⟨pb,po+j,none⟩=some (.slice p1 n1.length eF):=⟨(xk7 HG.out dV (by omega) (by omega)).trans eR,(xk7 HG.out dV (by omega) (by omega)).trans eW⟩
     refine bU.out _ _ (dQ) (fun fC=>?_)
     try simp only [PS]
     refine TY 10 (.pointer (some ⟨OB,14,none⟩)) rfl fC ?_;simp only [PS];refine RD 11 rfl (fun Kq bU=>?_);have l3:=dJ.now.cell 14 _ rfl;have f3:=dJ.now.froz 14 (by simp);have t3:=dJ.now.lt;go_simp;refine bU.out _ _ (⟨(World.cell?_setCell_far _ _ _ _ (by show OB≠w.heap.size;omega)).trans dQ.1,(World.cell?_setCell_far _ _ _ _ (by show OB≠pb;omega)).trans dQ.2⟩) (fun gP=>?_)
     try simp only [PS]
     refine DN ?_;have HF:PcL v8 (y3.setCell ⟨OB,14,none⟩ (.slice (some ⟨g9,0,none⟩) (j+1) bY)) OB (fun Y=>[.int .i64 x.w,.slice (some ⟨g,0,none⟩) x.ss.length c1,.slice (some ⟨g',0,none⟩) x.ws.length dR,.bool x.up,.int .i64 x.W,.int .i64 x.S,.int .i64 x.L,.int .i64 x.T,.int .i64 x.H,.int .i64 x.F,.int .i64 x.R,.int .i64 x.U,.int .i64 x.O,.slice s1 x.rs.length dN,Y,.slice q.t x.ts.length q.ct]) x.P (j+1):=⟨_,.slice (some ⟨g9,0,none⟩) (j+1) bY,_,eU.set OB 14 _ fS,qXs (dJ.now.set 14 (by simp) (.slice (some ⟨g9,0,none⟩) (j+1) bY)),ZpU dV (XGx y3 OB 14 _)⟩;go_wp2;exact ⟨⟨j+1,by omega,by go_num,HF⟩,by simp [intOf];omega⟩
  have gV:j=x.P.length:=by omega
  have hP:=HP.out;rw [gV] at hP;have eX:=hid hP;have i6:¬ ((j:Int)<(x.P.length:Int)):=by omega
  have hG:=HG.out;have bO:=HO.out;clear hP HP HO HG fQ;replace bA:=bA.grown hG (fun g hg=>by injection hg with hg;omega);replace bR:=bR.grown hG (fun g hg=>by injection hg with hg;omega);replace dS:=dS.grown hG (fun g hg=>by injection hg with hg;omega);replace dW:=dW.grown hG (fun g hg=>by injection hg with hg;omega);replace dP:=dP.grown hG (fun g hg=>by injection hg with hg;omega);replace hE:=fO.out;have iI:=hG.size;clear hG fO rA eR gR;obtain ⟨aN,aQ,aR,aO,aM,aJ,aK,aT,aP,aS,aC,aE,aG,aH,aF,aD,aL⟩:=c16 bA.now;go_upto_region 10 with (at_builtin;refine Z4q rfl _ _ 28 rfl 9 i0 (.string ByteArray.empty) 1 16 Tryz.underlying28 HI.out.1 HI.out.2.1 HI.out.2.2.1 HI.out.2.2.2 rfl wr.heap.size wr.heap.size rfl (World.ownsRow_lit _ #[] 0 (Nat.le_refl _) (by simp) (by simp)) _ rfl x.ts.length _ (QKc ((h.below hE).h5.below (xCS _ _)) _ _ Tryz.underlying28 q.ct) (by omega) (by omega) (by simp) ?_;intro g0 dH ws eJ hY gK;have hb:Below wr.heap.size wr ws:=(xCS _ _).trans (gK.mono (by simp));have iF:=(bO.below hb).now.froz 15 (by simp);have iB:=(bO.below hb).now.cell 15 _ rfl;have kl:=(bO.below hb).now.lt;clear gK hY)
  clear aN aQ aR aO aM aJ aK aT aP aS aC aE aG aH aF aD aL;have dT:=JOt eJ;clear eJ iF iB kl;have iG:wr.heap.size<=ws.heap.size:=hb.size;replace eX:=hid (eX.out.below hb);replace bA:=bA.below hb;replace bR:=bR.below hb;replace bO:=bO.below hb;replace dS:=dS.below hb;replace dW:=dW.below hb;replace dP:=dP.below hb;replace hE:=hE.trans (hb.mono hE.size);clear hb;generalize dI:(ws.setCell _ _)=fU;have aB:ws.grownBy fU (some (OB)):=by rw [<-dI];exact y09 (World.grownBy.refl _ _) _ _
  have aA:=dI ▸ (bO.now.set 15 (by simp) (.slice (some ⟨g0,0,none⟩) x.ts.length dH));have gM:ws.heap.size<=fU.heap.size:=aB.size
  have aI:∀ g,(some (OB):Option Nat)=some g->OB<=g/\g<OB+1:=fun g hg=>by injection hg with hg;omega
  replace eX:=hid (by have:=eX.out.set OB 15 (.slice (some ⟨g0,0,none⟩) x.ts.length dH) fS;rw [dI] at this;exact this);clear dI;replace bA:=bA.grown aB (fun g hg=>by have:=aI g hg;omega);replace bR:=bR.grown aB (fun g hg=>by have:=aI g hg;omega);replace dS:=dS.grown aB (fun g hg=>by have:=aI g hg;omega);replace dW:=dW.grown aB (fun g hg=>by have:=aI g hg;omega);replace dP:=dP.grown aB (fun g hg=>by have:=aI g hg;omega);replace dT:=dT.grown aB (fun g hg=>by have:=aI g hg;omega);replace hE:=hE.trans (jJX aB hE.size (fun g hg=>by have:=aI g hg;omega));have cU:=aA.lt;clear bO;have bO:=qXs aA;clear aA aB aI cU;refine wp_region_lit ?_;refine wpList_load_mid rfl 62 _ rfl OB 0 rfl [.int .i64 x.w,.slice (some ⟨g,0,none⟩) x.ss.length c1,.slice (some ⟨g',0,none⟩) x.ws.length dR,.bool x.up,.int .i64 x.W,.int .i64 x.S,.int .i64 x.L,.int .i64 x.T,.int .i64 x.H,.int .i64 x.F,.int .i64 x.R,.int .i64 x.U,.int .i64 x.O,.slice s1 x.rs.length dN,.slice ya j yc,.slice (some ⟨g0,0,none⟩) x.ts.length dH] _ bO.now.range Tryz.underlying62 rfl ZAx ?_
  simp only [PS];refine wpList_store_mid rfl 62 _ _ rfl (w.heap.size+1) 0 #[.int .i64 x.w,.slice (some ⟨g,0,none⟩) x.ss.length c1,.slice (some ⟨g',0,none⟩) x.ws.length dR,.bool x.up,.int .i64 x.W,.int .i64 x.S,.int .i64 x.L,.int .i64 x.T,.int .i64 x.H,.int .i64 x.F,.int .i64 x.R,.int .i64 x.U,.int .i64 x.O,.slice s1 x.rs.length dN,.slice ya j yc,.slice (some ⟨g0,0,none⟩) x.ts.length dH] rfl rfl (bR.now.there rfl) ZAx (by kernel_rfl) ?_
  try simp only [PS]
  generalize dO:fU.setCells _ _ _=iW;have aB:fU.grownBy iW (some (w.heap.size+1)):=by rw [<-dO];exact Qvn _ _ _ _
  have aA:=dO ▸ bR.now.sets [.int .i64 x.w,.slice (some ⟨g,0,none⟩) x.ss.length c1,.slice (some ⟨g',0,none⟩) x.ws.length dR,.bool x.up,.int .i64 x.W,.int .i64 x.S,.int .i64 x.L,.int .i64 x.T,.int .i64 x.H,.int .i64 x.F,.int .i64 x.R,.int .i64 x.U,.int .i64 x.O,.slice s1 x.rs.length dN,.slice ya j yc,.slice (some ⟨g0,0,none⟩) x.ts.length dH] rfl;clear dO;have gQ:=aB.size
  have aI:∀ g,(some (w.heap.size+1):Option Nat)=some g->w.heap.size+1<=g/\g<w.heap.size+1+1:=fun g hg=>by injection hg with hg;omega
  have iQ:=eX.out;replace dS:=dS.grown aB (fun g hg=>by have:=aI g hg;omega);replace dW:=dW.grown aB (fun g hg=>by have:=aI g hg;omega);replace dP:=dP.grown aB (fun g hg=>by have:=aI g hg;omega);replace dT:=dT.grown aB (fun g hg=>by have:=aI g hg;omega);replace hE:=hE.trans (jJX aB hE.size (fun g hg=>by have:=aI g hg;omega));go_wp2;have fH:=c16 aA;obtain ⟨z0,z1,z2,z3,z4,z5,z6,z7,z8,z9,hI,iX,iH,iZ,iS,iP,i9⟩:=fH;have F4:=((iQ.pst (by omega) ya x.P.length yc rfl (fun b=>v8.heap.size<=b) (fun b k=>k)).grown aB (fun g hg k=>by have:=aI g hg;omega)).mono (G:=fun b=>w.heap.size<=b) (fun b _ k=>by omega);refine bodyPost_ret (v:=.agg #[.int .i64 x.w,.slice (some ⟨g,0,none⟩) x.ss.length c1,.slice (some ⟨g',0,none⟩) x.ws.length dR,.bool x.up,.int .i64 x.W,.int .i64 x.S,.int .i64 x.L,.int .i64 x.T,.int .i64 x.H,.int .i64 x.F,.int .i64 x.R,.int .i64 x.U,.int .i64 x.O,.slice s1 x.rs.length dN,.slice ya j yc,.slice (some ⟨g0,0,none⟩) x.ts.length dH]) (by simp [results,Tryz.results41,go_sem,z0,z1,z2,z3,z4,z5,z6,z7,z8,z9,hI,iX,iH,iZ,iS,iP]) rfl ⟨⟨some ⟨g,0,none⟩,c1,some ⟨g',0,none⟩,dR,s1,dN,ya,yc,some ⟨g0,0,none⟩,dH⟩,g,g',by unfold Zov;rw [gV],⟨?_,?_,?_,F4,?_⟩,rfl,rfl,J5i dS.now (by omega),J5i dW.now (by omega),iM,hE⟩
  ·exact (xat dS (fun b hb _=>by omega)).map fun U k=>(JJW k).strs
  ·exact (xat dW (fun b hb _=>by omega)).map fun U k=>(JJW k).wrs
  ·exact (xat dP (fun b hb _=>by omega)).map fun U k=>k.prs
  ·exact (xat dT (fun b hb _=>by omega)).map fun U k=>(JJW k).strs
end Go.Proofs.YtcdojnnkjeakmaaGreatDoor
