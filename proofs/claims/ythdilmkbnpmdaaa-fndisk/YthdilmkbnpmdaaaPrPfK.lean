import Derived.Test.YthdilmkbnpmdaaaPrG43
set_option maxHeartbeats 16000000
namespace Go.Proofs.Ythdilmkbnpmdaaa
open Go.RowKit
set_option linter.unusedVariables false
set_option linter.unusedSimpArgs false
theorem DV.push {w w3:World} {base X g n H g9 cap:Nat} {v:Value} {ps:List (List Int)} {ws:List (Int×ByteArray)} {x:Int×ByteArray} (h:DV w base X g n v ps (hsOf ws)) (hown:w3.ownsRow base 63 65 (.slice (some ⟨g9,0,none⟩) ((hsOf ws).length+1) cap) ((hsOf ws).length+1) (hcells (hsOf ws)++Value.int .i64 x.1::(nums x.2).map (Value.int .u8))) (hgr:w.grownBy w3 v.ownBlock) (hat:v.ownBlock=some g9\/g9=H) (hX:X<H) (hg:g<H) :
  DV (w3.setCell ⟨X,1,none⟩ (.slice (some ⟨g9,0,none⟩) (ws.length+1) cap)) base X g n (.slice (some ⟨g9,0,none⟩) (ws.length+1) cap) ps (hsOf (ws++[x])):=by
 have e1:hsOf (ws++[x])=hsOf ws++[(x.1,nums x.2)]:=by simp [hsOf]
 have e2:(hsOf (ws++[x])).length=ws.length+1:=by rw [hsOf_length];simp
 have e3:hcells (hsOf (ws++[x]))=hcells (hsOf ws)++Value.int .i64 x.1::(nums x.2).map (Value.int .u8):=by rw [e1,hcells_append];simp [hcells]
 have hnx:g9≠X:=by rcases hat with h1 | h1;exact fun e=>h.nx (by rw [h1,e]);omega
 have hng:g9≠g:=by rcases hat with h1 | h1;exact fun e=>h.ng (by rw [h1,e]);omega
 rw [hsOf_length] at hown
 have hs:=hown.kept (w':=w3.setCell ⟨X,1,none⟩ (.slice (some ⟨g9,0,none⟩) (ws.length+1) cap)) (row:=some X) (grown_set (World.grownBy.refl _ _) _ _) (.inr (fun e=>hnx (by injection e)))
 refine ⟨(h.rx.grown hgr (fun e=>h.nx e.symm)).set 1 (by simp) _,(h.pr.grown hgr (fun e=>h.ng e.symm)).other _ h.xg _,?_,fun e=>hnx (by injection e),fun e=>hng (by injection e),h.xg,h.bx,h.bg⟩
 rw [e2,e3]
 exact hs
set_option maxRecDepth 100000 in
theorem do_i_yes (base X g n:Nat) (v:Value) (ss:List ByteArray) (ws:List (Int×ByteArray)) (at_:Int) (d:ByteArray) (w:World) (h:DV w base X g n v (ss.map nums) (hsOf ws)) (hn:ss.length=n) (hok:diskOk ss ws=true) (hyes:wOk ss.length (at_,d)=true) (hlt3:ws.length<300) (hbw:base<=w.heap.size) :
  Calls Try.prog 18 #[.pointer (some ⟨X,0,none⟩),.agg #[.bool false,.int .i64 at_,.string d]] w fun e w'=>(∃ x,e=.returned x)/\(∃ v',DV w' base X g n v' (ss.map nums) (hsOf (ws++[(at_,d)])))/\Below base w w':=by
 obtain ⟨i0,hi0,hz0,hz1,hz2⟩:=info_parts' infoHeld
 have HI:=hid (And.intro hi0 (And.intro hz0 (And.intro hz1 hz2)))
 clear hi0 hz0 hz1 hz2
 obtain ⟨⟨hn1,hn2,hn3⟩,h64,hw⟩:=diskOk_of hok
 have hs64:d.size=64:=by have h1:(d.size:Int)=64:=(wOk_64 hyes).2;omega
 have hnl:(nums d).length=64:=by rw [nums_length,hs64]
 have hb0:∀ o,Below w.heap.size w (w.alloc o):=fun o=>(Below.refl _ _).alloc (Nat.le_refl _) _
 obtain ⟨av,cv,hv⟩:∃ a c,v=.slice a ws.length c:=by
  rw [<-hsOf_length]
  rcases owns_forms h.own with ⟨e,h0⟩ | ⟨g,c,e,_⟩
  ·exact ⟨_,_,by rw [e,h0]⟩
  ·exact ⟨_,_,e⟩
 have x0:=h.rx.cell 0 _ rfl
 have x1:=h.rx.cell 1 _ rfl
 subst hv
 have hlX:=h.rx.lt
 have HD:=hid h
 subst hn
 have hcan:∀ w',Calls Try.prog 25 #[.int .i64 (ss.length:Int),.int .i64 at_,.string d] w' fun e w''=>e=.returned (.bool true)/\w''=w':=fun w'=>by
  have:=can_i ss.length at_ d w' (by omega) (by omega)
  rw [hyes] at this
  exact this
 have hlt:(decide ((ws.length:Int)<300))=true:=decide_eq_true (by omega)
 go_enter Try.func18,Try.ntmps18
 go_wp2_with fail
 go_quiet ((go_at_call 25;exact Calls.quiet_of_same (hcan _)))
 go_wp2_with fail
 have HO0:Hid (Below w.heap.size w ((w.alloc (.cells #[.bool false,.int .i64 at_,.string d] 34)).drewN nq)):=below_drewN (hb0 _) _
 obtain ⟨wy,HWY⟩:∃ wy,wy=(w.alloc (.cells #[.bool false,.int .i64 at_,.string d] 34)).drewN nq:=⟨_,rfl⟩
 have hx1:wy.cell? ⟨w.heap.size,1,none⟩=some (.int .i64 at_):=by rw [HWY];simp [go_sem]
 have hx2:wy.cell? ⟨w.heap.size,2,none⟩=some (.string d):=by rw [HWY];simp [go_sem]
 have hly:w.heap.size<wy.heap.size:=by rw [HWY];simp
 rw [<-HWY] at HO0 ⊢
 clear HWY
 have HDy:=hid (HD.out.below HO0.out)
 clear x0 x1
 have q1:=HDy.out.rx.cell 1 _ rfl
 have q2:=HDy.out.rx.froz 1 (by simp)
 have hzh:=zeroHeld
 have hz65:=heldZ_size
 have hzne:=heldZ_ne
 have hfold:=fold_two' (.int .i64 at_) ((nums d).map (Value.int .u8)) heldZ (by rw [heldZ_size,List.length_map,hnl])
 have hfold2:=fold_tail (.int .i64 at_) ((nums d).map (Value.int .u8)) 65 (by rw [List.length_map,hnl])
 have hhl:(hsOf ws).length=ws.length:=hsOf_length ws
 have HDr:Hid (DV wy.drew base X g ss.length (.slice av ws.length cv) (ss.map nums) (hsOf ws)):=HDy.out.below ((Below.refl _ _).drew)
 have HX1:=hid hx1
 have HY:=hid hly
 have HS64:=hid hs64
 clear HD h hok hcan hw h64
 go_region_law (first | (refine step_append_lies _ (by rfl) _ _ _ (by rfl) base 63 i0 (.agg heldZ) 65 72 Try.underlying49 HI.out.1 HI.out.2.1 HI.out.2.2.1 HI.out.2.2.2 (by kernel_rfl) (by omega) (.slice av ws.length cv) (hsOf ws).length (hcells (hsOf ws)) (by rfl) HO.out ⟨w2.heap.size,0,none⟩ 1 1 (Value.int .i64 at_::(nums d).map (Value.int .u8)) (by rfl) (by simp [hnl]) (World.news_of_block (heap_alloc_new w2 _)) (held_one at_ (nums d)) (by omega) (by rw [hhl];unfold maxLen;omega) (by rw [hhl];omega) (by simp<;>omega) (w2.heap.size+1) (by simp) ?_;intro g9 cap w3 hown hgrow hat hlt9;have q4:=(HDA.out.rx.grown hgrow (fun e=>HDA.out.nx e.symm)).cell 1 _ rfl;have q5:=(HDA.out.rx.grown hgrow (fun e=>HDA.out.nx e.symm)).froz 1 (by simp);have q6:=(HDA.out.rx.grown hgrow (fun e=>HDA.out.nx e.symm)).lt;have HOW:=hid hown;have HGR:=hid hgrow;have HAT:=hid hat;clear hown hgrow hat) | (refine step_call (by rfl) 33 #[.string d] (by go_simp) (sec_i d _ HS64.out) ?_;rintro e w2 ⟨rfl,hb2⟩;refine ⟨_,rfl,?_⟩;have y0:=(hb2.cell (p:=⟨w.heap.size,1,none⟩) HY.out).trans HX1.out;have y1:=(HDr.out.below hb2).rx.cell 1 _ rfl;have y2:=(HDr.out.below hb2).rx.lt;have y3:w.heap.size<w2.heap.size:=Nat.lt_of_lt_of_le HY.out hb2.size;have HB2:=hid hb2;have HDA:=hid ((HDr.out.below hb2).below (below_new w2 (.cells (Value.int .i64 at_::(nums d).map (Value.int .u8)).toArray 63)));have HO:=hid HDA.out.own))
 all_goals
  have hgX:g<w2.heap.size:=(HDr.out.below HB2.out).pr.lt
  have HFIN:=hid (HDA.out.push (x:=(at_,d)) HOW.out HGR.out HAT.out (by omega) (by omega))
  have HBF:Hid (Below base w (w3.setCell ⟨X,1,none⟩ (.slice (some ⟨g9,0,none⟩) (ws.length+1) cap))):=by
   have hB1:Below base w w2:=(HO0.out.mono hbw).trans (((Below.refl wy.heap.size wy).drew.trans HB2.out).mono (Nat.le_trans hbw HO0.out.size))
   have hB2:=hB1.trans ((below_new w2 (.cells (Value.int .i64 at_::(nums d).map (Value.int .u8)).toArray 63)).mono (Nat.le_trans hbw hB1.size))
   have hB3:=hB2.trans (grown_below HGR.out (Nat.le_trans hbw hB2.size) (fun k hk=>(HDA.out.own.lt k hk).1))
   exact hB3.setCell HDA.out.bx _
  clear hfold hfold2 hz65 hzne hzh
  go_wp2
  go_end0
  exact ⟨⟨_,rfl⟩,⟨_,HFIN.out⟩,HBF.out⟩
end Go.Proofs.Ythdilmkbnpmdaaa
