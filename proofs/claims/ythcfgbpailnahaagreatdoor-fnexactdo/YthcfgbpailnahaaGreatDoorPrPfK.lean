import Derived.Test.YthcfgbpailnahaaGreatDoorPrG39
set_option maxHeartbeats 16000000
namespace Go.Proofs.YthcfgbpailnahaaGreatDoor
open Tryz
open Go.RowKit
set_option linter.all false
def DV.push{w w3:World}{base X g n H g9 cap:Nat}{v:Value}{ps:List (List Int)}{ws:List (Int×ByteArray)}{x:Int×ByteArray}(h:DV w base X g n v ps (LP ws))(aA:w3.ownsRow base 171 65 (.slice (some ⟨g9,0,none⟩) ((LP ws).length+1) cap) ((LP ws).length+1) (NB (LP ws)++Value.int .i64 x.1::(LF x.2).map (Value.int .u8)))(aC:w.grownBy w3 v.ownBlock)(aB:v.ownBlock=some g9\/g9=H)(hX:X<H)(hg:g<H):DV (w3.setCell ⟨X,1,none⟩ (.slice (some ⟨g9,0,none⟩) (ws.length+1) cap)) base X g n (.slice (some ⟨g9,0,none⟩) (ws.length+1) cap) ps (LP (ws++[x])):=by
 have e1:LP (ws++[x])=LP ws++[(x.1,LF x.2)]:=by simp[LP]
 have e2:(LP (ws++[x])).length=ws.length+1:=by rw[PL];simp
 have e3:NB (LP (ws++[x]))=NB (LP ws)++Value.int .i64 x.1::(LF x.2).map (Value.int .u8):=by rw[e1,oA];simp[NB]
 have aD:g9≠X:=by rcases aB with h1|h1;exactλe=>h.nx (by rw[h1,e]);omega
 have aE:g9≠g:=by rcases aB with h1|h1;exactλe=>h.ng (by rw[h1,e]);omega
 rw[PL]at aA;have hs:=aA.kept (w':=w3.setCell ⟨X,1,none⟩ (.slice (some ⟨g9,0,none⟩) (ws.length+1) cap)) (row:=some X) (MC (BH _ _) _ _) (.inr (λe=>aD (by injection e)));refine⟨(h.rx.z aC (λe=>h.nx e.symm)).set 1 (by simp) _,(h.pr.z aC (λe=>h.ng e.symm)).other _ h.xg _,?_,λe=>aD (by injection e),λe=>aE (by injection e),h.xg,h.bx,h.bg⟩;rw[e2,e3];exact hs
set_option maxRecDepth 100000 in
def Iv(base X g n:Nat)(v:Value)(ss:List ByteArray)(ws:List (Int×ByteArray))(aB:Int)(d:ByteArray)(w:World)(h:DV w base X g n v (ss.map LF) (LP ws))(hn:ss.length=n)(bE:LS ss ws=true)(aK:OI ss.length (aB,d)=true)(cA:ws.length<300)(aN:base<=w.heap.size):Calls prog 184 #[.pointer (some ⟨X,0,none⟩),.agg #[.bool false,.int .i64 aB,.string d]] w λe w'=>(∃x,e=.returned x)/\(∃v',DV w' base X g n v' (ss.map LF) (LP (ws++[(aB,d)])))/\Below base w w':=by
 obtain⟨i0,bC,bF,bI,bJ⟩:=XW n4;have HI:=LE (AG bC (AG bF (AG bI bJ)));clear bC bF bI bJ;obtain⟨⟨cM,cN,cO⟩,bV,hw⟩:=OZ bE;have aJ:d.size=64:=by have h1:(d.size:Int)=64:=(ZE aK).2;omega
 have aR:(LF d).length=64:=by rw[ML,aJ]
 have b7:∀o,Below w.heap.size w (w.alloc o):=λo=>LG _ _
 obtain⟨av,cv,hv⟩:∃a c,v=.slice a ws.length c:=by
  rw[<-PL];rcases MM h.own with ⟨e,h0⟩|⟨g,c,e,_⟩
  ·exact⟨_,_,by rw[e,h0]⟩
  exact⟨_,_,e⟩
 have x0:=h.rx.x 0;have x1:=h.rx.x 1;subst hv;have cJ:=h.rx.lt;have HD:=LE h;subst hn
 have aG:∀w',Calls prog 115 #[.int .i64 (ss.length:Int),.int .i64 aB,.string d] w' λe cH=>e=.returned (.bool true)/\cH=w':=λw'=>by
  have:=gj ss.length aB d w' (by omega) (by omega);rw[aK]at this;exact this
 have cL:(decide ((ws.length:Int)<300))=true:=AO (by omega);go_enter func184,ntmps184;go_wp2_with fail;go_quiet ((go_at_call 115;exact Calls.quiet_of_same (aG _)));go_wp2_with fail;have aM:Hid (Below w.heap.size w ((w.alloc (.cells #[.bool false,.int .i64 aB,.string d] 122)).drewN nq)):=below_drewN (b7 _) _;obtain⟨wy,aF⟩:∃wy,wy=(w.alloc (.cells #[.bool false,.int .i64 aB,.string d] 122)).drewN nq:=⟨_,rfl⟩;have cE:wy.cell? ⟨w.heap.size,1,none⟩=some (.int .i64 aB):=by rw[aF];simp[go_sem]
 have cP:wy.cell? ⟨w.heap.size,2,none⟩=some (.string d):=by rw[aF];simp[go_sem]
 have cC:w.heap.size<wy.heap.size:=by rw[aF];simp
 rw[<-aF]at aM⊢;clear aF;have aO:=LE (HD.o.I aM.o);clear x0 x1;have q1:=aO.o.rx.x 1;have q2:=aO.o.rx.q 1;have cF:=cn;have aS:=br;have aT:=tq;have aH:=pG (.int .i64 aB) ((LF d).map (Value.int .u8)) WY (by rw[br,BJ,aR]);have aD:=yr (.int .i64 aB) ((LF d).map (Value.int .u8)) 65 (by rw[BJ,aR]);have aZ:(LP ws).length=ws.length:=PL ws;have aL:Hid (DV wy.drew base X g ss.length (.slice av ws.length cv) (ss.map LF) (LP ws)):=aO.o.I ((AB _ _).drew);have bU:=LE cE;have HY:=LE cC;have aQ:=LE aJ;clear HD h bE aG hw bV
 go_region_law (first|(refine step_append_lies _ (by rfl) _ _ _ (by rfl) base 171 i0 (.agg WY) 65 72 underlying134 HI.o.1 HI.o.2.1 HI.o.2.2.1 HI.o.2.2.2 (by kernel_rfl) (by omega) (.slice av ws.length cv) (LP ws).length (NB (LP ws)) (by rfl) HO.o ⟨w2.heap.size,0,none⟩ 1 1 (Value.int .i64 aB::(LF d).map (Value.int .u8)) (by rfl) (by simp[aR]) (World.news_of_block (AY w2 _)) (bw aB (LF d)) (by omega) (by rw[aZ];unfold maxLen;omega) (by rw[aZ];omega) (by simp<;>omega) (w2.heap.size+1) (by simp) ?_;intro g9 cap w3 aI aA aY cB;have q4:=(aC.o.rx.z aA (λe=>aC.o.nx e.symm)).x 1;have q5:=(aC.o.rx.z aA (λe=>aC.o.nx e.symm)).q 1;have q6:=(aC.o.rx.z aA (λe=>aC.o.nx e.symm)).lt;have bT:=LE aI;have aV:=LE aA;have bP:=LE aY;clear aI aA aY)|(refine LK (by rfl) 119 #[.string d] (by go_simp) (bk d _ aQ.o) ?_;rintro e w2 ⟨rfl,aE⟩;refine⟨_,rfl,?_⟩;have y0:=(aE.cell (p:=⟨w.heap.size,1,none⟩) HY.o).j bU.o;have y1:=(aL.o.I aE).rx.x 1;have y2:=(aL.o.I aE).rx.lt;have y3:w.heap.size<w2.heap.size:=AD HY.o aE.size;have aU:=LE aE;have aC:=LE ((aL.o.I aE).I (MB w2 (.cells (Value.int .i64 aB::(LF d).map (Value.int .u8)).toArray 171)));have HO:=LE aC.o.own))
 all_goals
  have cI:g<w2.heap.size:=(aL.o.I aU.o).pr.lt;have aP:=LE (aC.o.push (x:=(aB,d)) bT.o aV.o bP.o (by omega) (by omega))
  have bQ:Hid (Below base w (w3.setCell ⟨X,1,none⟩ (.slice (some ⟨g9,0,none⟩) (ws.length+1) cap))):=by
   have aW:Below base w w2:=(aM.o.i aN).j (((AB wy.heap.size wy).drew.j aU.o).i (AL aN aM.o.size));have aX:=aW.j ((MB w2 (.cells (Value.int .i64 aB::(LF d).map (Value.int .u8)).toArray 171)).i (AL aN aW.size));have bW:=aX.j (NE aV.o (AL aN aX.size) (λk hk=>(aC.o.own.lt k hk).1));exact bW.setCell aC.o.bx _
  clear aH aD aS aT cF;go_wp2;go_end0;exact⟨⟨_,rfl⟩,⟨_,aP.o⟩,bQ.o⟩
