import Derived.Test.YtcdojnnkjeakmaaGreatDoorPrG50
set_option maxHeartbeats 16000000
namespace Go.Proofs.YtcdojnnkjeakmaaGreatDoor
open Go.RowKit
set_option linter.unusedVariables false
set_option linter.unusedSimpArgs false
theorem DV.push {w w3:World} {base X g n H g9 cap:Nat} {v:Value} {ps:List (List Int)} {ws:List (Int×ByteArray)} {x:Int×ByteArray} (h:DV w base X g n v ps (ZiU ws)) (aA:w3.ownsRow base 101 65 (.slice (some ⟨g9,0,none⟩) ((ZiU ws).length+1) cap) ((ZiU ws).length+1) (qOX (ZiU ws)++Value.int .i64 x.1::(zFD x.2).map (Value.int .u8))) (aD:w.grownBy w3 v.ownBlock) (aC:v.ownBlock=some g9\/g9=H) (hX:X<H) (hg:g<H) :
  DV (w3.setCell ⟨X,1,none⟩ (.slice (some ⟨g9,0,none⟩) (ws.length+1) cap)) base X g n (.slice (some ⟨g9,0,none⟩) (ws.length+1) cap) ps (ZiU (ws++[x])):=by
 have e1:ZiU (ws++[x])=ZiU ws++[(x.1,zFD x.2)]:=by simp [ZiU]
 have e2:(ZiU (ws++[x])).length=ws.length+1:=by rw [qOd];simp
 have e3:qOX (ZiU (ws++[x]))=qOX (ZiU ws)++Value.int .i64 x.1::(zFD x.2).map (Value.int .u8):=by rw [e1,vIR];simp [qOX]
 have aB:g9≠X:=by rcases aC with h1 | h1;exact fun e=>h.nx (by rw [h1,e]);omega
 have aE:g9≠g:=by rcases aC with h1 | h1;exact fun e=>h.ng (by rw [h1,e]);omega
 rw [qOd] at aA;have hs:=aA.kept (w':=w3.setCell ⟨X,1,none⟩ (.slice (some ⟨g9,0,none⟩) (ws.length+1) cap)) (row:=some X) (y09 (World.grownBy.refl _ _) _ _) (.inr (fun e=>aB (by injection e)));refine ⟨(h.rx.grown aD (fun e=>h.nx e.symm)).set 1 (by simp) _,(h.pr.grown aD (fun e=>h.ng e.symm)).other _ h.xg _,?_,fun e=>aB (by injection e),fun e=>aE (by injection e),h.xg,h.bx,h.bg⟩;rw [e2,e3];exact hs
set_option maxRecDepth 100000 in
theorem zph (base X g n:Nat) (v:Value) (ss:List ByteArray) (ws:List (Int×ByteArray)) (aB:Int) (d:ByteArray) (w:World) (h:DV w base X g n v (ss.map zFD) (ZiU ws)) (hn:ss.length=n) (aW:vlG ss ws=true) (aI:wOk ss.length (aB,d)=true) (b8:ws.length<300) (aL:base<=w.heap.size) :
  Calls Tryz.prog 34 #[.pointer (some ⟨X,0,none⟩),.agg #[.bool false,.int .i64 aB,.string d]] w fun e w'=>(∃ x,e=.returned x)/\(∃ v',DV w' base X g n v' (ss.map zFD) (ZiU (ws++[(aB,d)])))/\Below base w w':=by
 obtain ⟨i0,aY,bJ,bH,aV⟩:=q00 v53;have HI:=hid (And.intro aY (And.intro bJ (And.intro bH aV)));clear aY bJ bH aV;obtain ⟨⟨cN,cJ,cP⟩,b7,hw⟩:=q67 aW;have aK:d.size=64:=by have h1:(d.size:Int)=64:=(Zc1 aI).2;omega
 have aQ:(zFD d).length=64:=by rw [vgz,aK]
 have cC:∀ o,Below w.heap.size w (w.alloc o):=fun o=>(Below.refl _ _).alloc (Nat.le_refl _) _
 obtain ⟨av,cv,hv⟩:∃ a c,v=.slice a ws.length c:=by
  rw [<-qOd];rcases yUO h.own with ⟨e,h0⟩ | ⟨g,c,e,_⟩
  ·exact ⟨_,_,by rw [e,h0]⟩
  ·exact ⟨_,_,e⟩
 have x0:=h.rx.cell 0 _ rfl;have x1:=h.rx.cell 1 _ rfl;subst hv;have cO:=h.rx.lt;have HD:=hid h;subst hn
 have aH:∀ w',Calls Tryz.prog 47 #[.int .i64 (ss.length:Int),.int .i64 aB,.string d] w' fun e bW=>e=.returned (.bool true)/\bW=w':=fun w'=>by
  have:=k0F ss.length aB d w' (by omega) (by omega);rw [aI] at this;exact this
 have cM:(decide ((ws.length:Int)<300))=true:=decide_eq_true (by omega);go_enter Tryz.func34,Tryz.ntmps34;go_wp2_with fail;go_quiet ((go_at_call 47;exact Calls.quiet_of_same (aH _)));go_wp2_with fail;have aN:Hid (Below w.heap.size w ((w.alloc (.cells #[.bool false,.int .i64 aB,.string d] 38)).drewN nq)):=below_drewN (cC _) _;obtain ⟨wy,aF⟩:∃ wy,wy=(w.alloc (.cells #[.bool false,.int .i64 aB,.string d] 38)).drewN nq:=⟨_,rfl⟩;have bY:wy.cell? ⟨w.heap.size,1,none⟩=some (.int .i64 aB):=by rw [aF];simp [go_sem]
 have cK:wy.cell? ⟨w.heap.size,2,none⟩=some (.string d):=by rw [aF];simp [go_sem]
 have bU:w.heap.size<wy.heap.size:=by rw [aF];simp
 rw [<-aF] at aN ⊢;clear aF;have aO:=hid (HD.out.below aN.out);clear x0 x1;have q1:=aO.out.rx.cell 1 _ rfl;have q2:=aO.out.rx.froz 1 (by simp);have cH:=vXi;have aR:=qHW;have aP:=Qlg;have aG:=y6L (.int .i64 aB) ((zFD d).map (Value.int .u8)) y2b (by rw [qHW,List.length_map,aQ]);have aD:=kJd (.int .i64 aB) ((zFD d).map (Value.int .u8)) 65 (by rw [List.length_map,aQ]);have bI:(ZiU ws).length=ws.length:=qOd ws;have aM:Hid (DV wy.drew base X g ss.length (.slice av ws.length cv) (ss.map zFD) (ZiU ws)):=aO.out.below ((Below.refl _ _).drew);have bQ:=hid bY;have HY:=hid bU;have aS:=hid aK;clear HD h aW aH hw b7
 go_region_law (first | (refine step_append_lies _ (by rfl) _ _ _ (by rfl) base 101 i0 (.agg y2b) 65 72 Tryz.underlying70 HI.out.1 HI.out.2.1 HI.out.2.2.1 HI.out.2.2.2 (by kernel_rfl) (by omega) (.slice av ws.length cv) (ZiU ws).length (qOX (ZiU ws)) (by rfl) HO.out ⟨w2.heap.size,0,none⟩ 1 1 (Value.int .i64 aB::(zFD d).map (Value.int .u8)) (by rfl) (by simp [aQ]) (World.news_of_block (heap_alloc_new w2 _)) (qQs aB (zFD d)) (by omega) (by rw [bI];unfold maxLen;omega) (by rw [bI];omega) (by simp<;>omega) (w2.heap.size+1) (by simp) ?_;intro g9 cap w3 aJ aA aZ cI;have q4:=(aC.out.rx.grown aA (fun e=>aC.out.nx e.symm)).cell 1 _ rfl;have q5:=(aC.out.rx.grown aA (fun e=>aC.out.nx e.symm)).froz 1 (by simp);have q6:=(aC.out.rx.grown aA (fun e=>aC.out.nx e.symm)).lt;have cE:=hid aJ;have bC:=hid aA;have cF:=hid aZ;clear aJ aA aZ) | (refine XRf (by rfl) _ _ (by go_simp) (jsf d _ aS.out) ?_;rintro e w2 ⟨rfl,aE⟩;refine ⟨_,rfl,?_⟩;have y0:=(aE.cell (p:=⟨w.heap.size,1,none⟩) HY.out).trans bQ.out;have y1:=(aM.out.below aE).rx.cell 1 _ rfl;have y2:=(aM.out.below aE).rx.lt;have y3:w.heap.size<w2.heap.size:=Nat.lt_of_lt_of_le HY.out aE.size;have aX:=hid aE;have aC:=hid ((aM.out.below aE).below (zE5 w2 (.cells (Value.int .i64 aB::(zFD d).map (Value.int .u8)).toArray 101)));have HO:=hid aC.out.own))
 all_goals
  have cL:g<w2.heap.size:=(aM.out.below aX.out).pr.lt;have aT:=hid (aC.out.push (x:=(aB,d)) cE.out bC.out cF.out (by omega) (by omega))
  have bV:Hid (Below base w (w3.setCell ⟨X,1,none⟩ (.slice (some ⟨g9,0,none⟩) (ws.length+1) cap))):=by
   have aU:Below base w w2:=(aN.out.mono aL).trans (((Below.refl wy.heap.size wy).drew.trans aX.out).mono (Nat.le_trans aL aN.out.size));have bG:=aU.trans ((zE5 w2 (.cells (Value.int .i64 aB::(zFD d).map (Value.int .u8)).toArray 101)).mono (Nat.le_trans aL aU.size));have bZ:=bG.trans (jJX bC.out (Nat.le_trans aL bG.size) (fun k hk=>(aC.out.own.lt k hk).1));exact bZ.setCell aC.out.bx _
  clear aG aD aR aP cH;go_wp2;go_end0;exact ⟨⟨_,rfl⟩,⟨_,aT.out⟩,bV.out⟩
end Go.Proofs.YtcdojnnkjeakmaaGreatDoor
