import Derived.Test.YtcdojnnkjeakmaaGreatDoorPrG51
set_option maxHeartbeats 40000000
namespace Go.Proofs.YtcdojnnkjeakmaaGreatDoor
open Go.RowKit
set_option maxRecDepth 4000
set_option linter.unusedVariables false
set_option linter.unusedSimpArgs false
set_option maxHeartbeats 4000000
theorem vk0 (p:ByteArray) (h:p.size=5):((p.data.toList.getD 0 0).toNat:Int)=ptH p/\zMt (zFD (p.extract 1 5))=ptF p/\0<=ptH p/\ptH p<=255/\0<=ptF p/\ptF p<=4294967295:=by
 have hl:(zFD p).length=5:=by rw [vgz,h]
 have hd:p.data.toList.length=5:=h;have rg:=X8K p;have b1:=xOP 1 ((zFD p).take 1) (by simp;omega) (fun y hy=>rg y (List.mem_of_mem_take hy));have b2:=xOP 4 (((zFD p).drop 1).take 4) (by simp;omega) (fun y hy=>rg y (List.mem_of_mem_drop (List.mem_of_mem_take hy)));refine ⟨?_,?_,b1.1,by have:=b1.2;unfold ptH;omega,b2.1,by have:=b2.2;unfold ptF;omega⟩
 ·unfold ptH zFD
  rw [<-List.map_take];have e:=List.drop_eq_getElem_cons (l:=p.data.toList) (i:=0) (by omega);rw [List.drop_zero] at e;rw [e];simp only [List.take_succ_cons,List.take_zero,List.map_cons,List.map_nil,X9q];rfl
 ·unfold ptF
  rw [yPC,List.take_of_length_le (by omega)];rw [List.take_of_length_le (l:=(zFD p).drop 1) (by simp;omega)]
theorem xvy (s:ByteArray) (a n:Int) (w:World) (k l m:Int) (p:ByteArray) (b:Bool) (HS:∀ wx,Calls Tryz.prog 52 #[.string s,.int .i64 n] wx fun e w'=>e=.returned (.tuple #[QAw k l m p,.bool b])/\Below wx.heap.size wx w') (aH:p.size<=64) (aD:b=false\/p.size≠5) (aE:Hid (yVH s a n=none)):Calls Tryz.prog 33 #[.string s,.int .i64 a,.int .i64 n] w fun e w'=>(∃ t h f l b,e=.returned (.tuple #[yDp t h f l,.bool b])/\yVH s a n=if b=true then some (t,h,f,l) else none)/\Below w.heap.size w w':=by
 have aF:∀ o,Below w.heap.size w (w.alloc o):=fun o=>(Below.refl _ _).alloc (Nat.le_refl _) _
 cases b with
 | false =>
  ·clear aD
   go_enter Tryz.func33,Tryz.ntmps33;go_wp2_with (go_at_call 52;refine (HS _).mono ?_;rintro e w2 ⟨rfl,aB⟩;have aA:=jjQ ((B4.new w (.int .i64 0) (.int .i64 0) (.int .i64 0) (.int .i64 0) _).below aB);have aC:=jjQ ((aF _).trans (aB.mono (by simp)));clear aB;have c0:=fun o=>(aA.out.alloc o).c0;have c1:=fun o=>(aA.out.alloc o).c1;have c2:=fun o=>(aA.out.alloc o).c2;have c3:=fun o=>(aA.out.alloc o).c3;have f0:=fun o=>(aA.out.alloc o).f0;have f1:=fun o=>(aA.out.alloc o).f1;have f2:=fun o=>(aA.out.alloc o).f2;have f3:=fun o=>(aA.out.alloc o).f3);refine bodyPost_ret (v:=.tuple #[yDp 0 0 0 0,.bool false]) (by simp [results,Tryz.results33,go_sem,c0,c1,c2,c3]) rfl ⟨⟨0,0,0,0,false,rfl,by rw [aE.out];rfl⟩,?_⟩;exact ((((aC.out.alloc aC.out.size _).setCell (Nat.le_refl _) _).setCell (Nat.le_refl _) _).setCell (Nat.le_refl _) _).setCell (Nat.le_refl _) _
 | true =>
  ·have aG:((p.size:Int) != 5)=true:=by
    have h:=aD.resolve_left (by simp);simp;omega
   clear aD;go_enter Tryz.func33,Tryz.ntmps33;go_wp2_with (go_at_call 52;refine (HS _).mono ?_;rintro e w2 ⟨rfl,aB⟩;have aA:=jjQ ((B4.new w (.int .i64 0) (.int .i64 0) (.int .i64 0) (.int .i64 0) _).below aB);have aC:=jjQ ((aF _).trans (aB.mono (by simp)));clear aB;have c0:=fun o=>(aA.out.alloc o).c0;have c1:=fun o=>(aA.out.alloc o).c1;have c2:=fun o=>(aA.out.alloc o).c2;have c3:=fun o=>(aA.out.alloc o).c3;have f0:=fun o=>(aA.out.alloc o).f0;have f1:=fun o=>(aA.out.alloc o).f1;have f2:=fun o=>(aA.out.alloc o).f2;have f3:=fun o=>(aA.out.alloc o).f3);refine bodyPost_ret (v:=.tuple #[yDp 0 0 0 0,.bool false]) (by simp [results,Tryz.results33,go_sem,c0,c1,c2,c3]) rfl ⟨⟨0,0,0,0,false,rfl,by rw [aE.out];rfl⟩,?_⟩;exact ((((aC.out.alloc aC.out.size _).setCell (Nat.le_refl _) _).setCell (Nat.le_refl _) _).setCell (Nat.le_refl _) _).setCell (Nat.le_refl _) _
theorem ZfX (s:ByteArray) (a n:Int) (w:World) (k l m:Int) (p:ByteArray) (hR:Jvc s n=some (k,l,m,p)) (HS:∀ wx,Calls Tryz.prog 52 #[.string s,.int .i64 n] wx fun e w'=>e=.returned (.tuple #[QAw k l m p,.bool true])/\Below wx.heap.size wx w') (h5:p.size=5):Calls Tryz.prog 33 #[.string s,.int .i64 a,.int .i64 n] w fun e w'=>(∃ t h f l b,e=.returned (.tuple #[yDp t h f l,.bool b])/\yVH s a n=if b=true then some (t,h,f,l) else none)/\Below w.heap.size w w':=by
 have bQ:∀ o,Below w.heap.size w (w.alloc o):=fun o=>(Below.refl _ _).alloc (Nat.le_refl _) _
 obtain ⟨_,_,bZ,b7,bW,b8,bY⟩:=v5k hR
 have aO:Hid (yVH s a n=if QCt m (ptH p) (ptF p) l n=s/\m % 2=a then some (m,ptH p,ptF p,l) else none):=by
  show _=_;unfold yVH;rw [hR];simp [h5]
 clear hR;obtain ⟨e0,e1,g0,g1,g2,g3⟩:=vk0 p h5;have gb:=zN1 p 0 (by omega);obtain ⟨H,hH⟩:∃ H:Nat,H=(p.data.toList.getD 0 0).toNat:=⟨_,rfl⟩;rw [<-hH] at e0 gb;rw [<-e0] at g0 g1;obtain ⟨F,HF⟩:∃ F,Hid (F=ptF p):=⟨_,jjQ rfl⟩;rw [<-HF.out] at g2 g3 aO e1;rw [<-e0] at aO;have bV:(p.size:Int)=5:=by omega
 have z1:(p.extract 1 5).size<=4:=by simp only [ByteArray.size_extract];omega
 have cC:IntKind.i64.wrap (H:Int)=(H:Int):=by simp [IntKind.wrap,IntKind.bits,IntKind.signed];omega
 have h0:0<p.size:=by omega
 obtain ⟨FM,bI⟩:∃ FM,Hid (FM=QCt m (H:Int) F l n):=⟨_,jjQ rfl⟩;rw [<-bI.out] at aO
 have aN:=fun wx=>qAa m (H:Int) F l n wx
 rw [<-bI.out] at aN;have E1:=jjQ e1;clear hH e1 e0 HF;go_enter Tryz.func33,Tryz.ntmps33;go_wp2_with (go_at_call 52;refine (HS _).mono ?_;rintro e w2 ⟨rfl,aY⟩;have aF:=jjQ ((B4.new w (.int .i64 0) (.int .i64 0) (.int .i64 0) (.int .i64 0) _).below aY);have aM:=jjQ ((bQ _).trans (aY.mono (by simp)));clear aY;have c0:=fun o=>(aF.out.alloc o).c0;have c1:=fun o=>(aF.out.alloc o).c1;have c2:=fun o=>(aF.out.alloc o).c2;have c3:=fun o=>(aF.out.alloc o).c3;have f0:=fun o=>(aF.out.alloc o).f0;have f1:=fun o=>(aF.out.alloc o).f1;have f2:=fun o=>(aF.out.alloc o).f2;have f3:=fun o=>(aF.out.alloc o).f3);have aQ:=(B4.new w2 (.int .i64 k) (.int .i64 l) (.int .i64 m) (.string p) 53);have aU:=aF.out.alloc (.cells #[.int .i64 k,.int .i64 l,.int .i64 m,.string p] 53);have aW:=aM.out.alloc aM.out.size (.cells #[.int .i64 k,.int .i64 l,.int .i64 m,.string p] 53);have aS:w.heap.size<w2.heap.size:=aF.out.lt;obtain ⟨wp,aZ⟩:∃ wp,wp=w2.alloc (.cells #[.int .i64 k,.int .i64 l,.int .i64 m,.string p] 53):=⟨_,rfl⟩
 have bH:wp.heap.size=w2.heap.size+1:=by rw [aZ];simp
 rw [<-aZ] at aQ aU aW ⊢;clear c0 c1 c2 c3 f0 f1 f2 f3 aZ aF aM
 have HT:Hid (∀ w',Below wp.heap.size wp w'->w'.cell? ⟨w2.heap.size,1,none⟩=some (.int .i64 l)/\w'.cell? ⟨w2.heap.size,2,none⟩=some (.int .i64 m)/\w'.cell? ⟨w2.heap.size,3,none⟩=some (.string p)/\Below wp.heap.size wp w'):=fun w' hb=>⟨(aQ.below hb).c1,(aQ.below hb).c2,(aQ.below hb).c3,hb⟩
 have bC:=jjQ aU;have aM:=jjQ aW;clear aU aW aQ;refine (fun HG:Wr ?G=>?main) ⟨?pf⟩
 case main =>
  go_region_held3 (fun w'=>w'.cell? ⟨w2.heap.size,1,none⟩=some (.int .i64 l)/\w'.cell? ⟨w2.heap.size,2,none⟩=some (.int .i64 m)/\w'.cell? ⟨w2.heap.size,3,none⟩=some (.string p)/\Below wp.heap.size wp w')
   (first | assumption | exact HT.out _ ((Below.refl _ _).drew) | exact HT.out _ (((Below.refl _ _).drew).alloc (Nat.le_refl _) _) | exact HT.out _ (((Below.refl _ _).alloc (Nat.le_refl _) _).drew) | exact HT.out _ ((Below.refl _ _).alloc (Nat.le_refl _) _))
   (first | (go_at_call 53;refine (X8J (p.extract 1 5) F _ z1 E1.out.symm).mono ?_;rintro e w6 ⟨rfl,rfl⟩))
  all_goals exact HG.out
 have aB:=(B4.new wp (.int .i64 m) (.int .i64 (H:Int)) (.int .i64 F) (.int .i64 l) 24).drew;have aT:Below wp.heap.size wp (wp.alloc (.cells #[.int .i64 m,.int .i64 (H:Int),.int .i64 F,.int .i64 l] 24)).drew:=((Below.refl _ _).alloc (Nat.le_refl _) _).drew;have aX:(wp.alloc (.cells #[.int .i64 m,.int .i64 (H:Int),.int .i64 F,.int .i64 l] 24)).drew.heap.size=w2.heap.size+2:=by simp [bH]
 obtain ⟨wq,bG⟩:∃ wq,wq=(wp.alloc (.cells #[.int .i64 m,.int .i64 (H:Int),.int .i64 F,.int .i64 l] 24)).drew:=⟨_,rfl⟩;rw [bH] at aB;rw [<-bG] at aB aT aX ⊢;clear bG HT;have aI:=jjQ (bC.out.below aT);have aE:=jjQ (aM.out.trans (aT.mono (by have:=aM.out.size;omega)));clear aT bC aM
 have HT:Hid (∀ w',Below wq.heap.size wq w'->w'.cell? ⟨w2.heap.size+1,0,none⟩=some (.int .i64 m)/\w'.cell? ⟨w2.heap.size+1,1,none⟩=some (.int .i64 (H:Int))/\w'.cell? ⟨w2.heap.size+1,2,none⟩=some (.int .i64 F)/\w'.cell? ⟨w2.heap.size+1,3,none⟩=some (.int .i64 l)/\Below wq.heap.size wq w'):=fun w' hb=>⟨(aB.below hb).c0,(aB.below hb).c1,(aB.below hb).c2,(aB.below hb).c3,hb⟩
 have bJ:=jjQ aB;have q0:=aB.c0;have q1:=aB.c1;have q2:=aB.c2;have q3:=aB.c3;clear aB;have aH:¬ (w.heap.size=w2.heap.size+1):=by have:=aS;omega
 have bU:¬ (w2.heap.size+1=w.heap.size):=by have:=aS;omega
 have aJ:=aI.out;have c0:=aJ.c0;have c1:=aJ.c1;have c2:=aJ.c2;have c3:=aJ.c3;have f0:=aJ.f0;have f1:=aJ.f1;have f2:=aJ.f2;have f3:=aJ.f3;clear aJ
 by_cases aL:FM=s
 ·by_cases ha:m % 2=a
  ·have ht:m.tmod 2=a:=by rw [Int.tmod_eq_emod_of_nonneg (by omega)];exact ha
   have aG:Hid (yVH s a n=some (m,(H:Int),F,l)):=by show _=_;rw [aO.out,if_pos ⟨aL,ha⟩]
   have aV:=jjQ aL;clear aL;rw [aV.out] at aN;go_wp2_with fail
   go_region_law (first | (refine XRf (by rfl) _ _ (by go_simp) (aN _) ?_;rintro e w7 ⟨rfl,aD⟩;refine ⟨_,rfl,?_⟩;obtain ⟨r0,r1,r2,r3,_⟩:=HT.out _ (((Below.refl _ _).drew).trans aD);have aA:=aI.out.drew.below aD;have aP:=jjQ (aE.out.drew.trans (aD.mono aE.out.drew.size));clear aD;have c0:=aA.c0;have c1:=aA.c1;have c2:=aA.c2;have c3:=aA.c3;have f0:=aA.f0;have f1:=aA.f1;have f2:=aA.f2;have f3:=aA.f3;clear aA))
   all_goals go_wp2
   all_goals refine bodyPost_ret (v:=.tuple #[yDp m (H:Int) F l,.bool true]) (by simp [results,Tryz.results33,go_sem,c0,c1,c2,c3,r0,r1,r2,r3,ht]) rfl ⟨⟨m,(H:Int),F,l,true,rfl,by rw [aG.out];rfl⟩,?_⟩
   all_goals exact (((aP.out.setCell (Nat.le_refl _) _).setCell (Nat.le_refl _) _).setCell (Nat.le_refl _) _).setCell (Nat.le_refl _) _
  ·have ht:¬ m.tmod 2=a:=by rw [Int.tmod_eq_emod_of_nonneg (by omega)];exact ha
   have aG:Hid (yVH s a n=none):=by show _=_;rw [aO.out,if_neg (fun h=>ha h.2)]
   have aV:=jjQ aL;clear aL;rw [aV.out] at aN;go_wp2_with fail
   go_region_law (first | (refine XRf (by rfl) _ _ (by go_simp) (aN _) ?_;rintro e w7 ⟨rfl,aD⟩;refine ⟨_,rfl,?_⟩;obtain ⟨r0,r1,r2,r3,_⟩:=HT.out _ (((Below.refl _ _).drew).trans aD);have aA:=aI.out.drew.below aD;have aP:=jjQ (aE.out.drew.trans (aD.mono aE.out.drew.size));clear aD;have c0:=aA.c0;have c1:=aA.c1;have c2:=aA.c2;have c3:=aA.c3;have f0:=aA.f0;have f1:=aA.f1;have f2:=aA.f2;have f3:=aA.f3;clear aA))
   all_goals go_wp2
   all_goals refine bodyPost_ret (v:=.tuple #[yDp m (H:Int) F l,.bool false]) (by simp [results,Tryz.results33,go_sem,c0,c1,c2,c3,r0,r1,r2,r3,ht]) rfl ⟨⟨m,(H:Int),F,l,false,rfl,by rw [aG.out];rfl⟩,?_⟩
   all_goals exact (((aP.out.setCell (Nat.le_refl _) _).setCell (Nat.le_refl _) _).setCell (Nat.le_refl _) _).setCell (Nat.le_refl _) _
 ·have aG:Hid (yVH s a n=none):=by show _=_;rw [aO.out,if_neg (fun h=>aL h.1)]
  have hG:(FM.toList == s.toList)=false:=by simp only [beq_eq_false_iff_ne];intro hh;rw [ByteArray.toList_eq,ByteArray.toList_eq] at hh;exact aL (ByteArray.ext (Array.ext' hh))
  clear aL;clear c0 c1 c2 c3 f0 f1 f2 f3;go_wp2_with fail;refine wp_region_held_drew (S:=fun w'=>w'.cell? ⟨w2.heap.size+1,0,none⟩=some (.int .i64 m)/\w'.cell? ⟨w2.heap.size+1,1,none⟩=some (.int .i64 (H:Int))/\w'.cell? ⟨w2.heap.size+1,2,none⟩=some (.int .i64 F)/\w'.cell? ⟨w2.heap.size+1,3,none⟩=some (.int .i64 l)) (by kernel_rfl) ⟨q0,q1,q2,q3⟩ (fun aC=>?_);refine TY 0 (yDp m (H:Int) F l) rfl aC ?_;simp only [Act.put,List.setIfInBounds_toArray,List.set_cons_succ,List.set_cons_zero];refine TY 1 (yDp m (H:Int) F l) rfl aC ?_;simp only [Act.put,List.setIfInBounds_toArray,List.set_cons_succ,List.set_cons_zero];refine TY 2 (.int .i64 n) rfl aC ?_;simp only [Act.put,List.setIfInBounds_toArray,List.set_cons_succ,List.set_cons_zero];refine TY 4 (.string s) rfl aC ?_;simp only [Act.put,List.setIfInBounds_toArray,List.set_cons_succ,List.set_cons_zero];refine RD 3 rfl (fun K hK=>?_);refine XRf (by rfl) _ _ (by go_simp) (aN _) ?_
  rintro e w7 ⟨rfl,aD⟩;refine ⟨_,rfl,?_⟩;have aA:=aI.out.drew.below aD;have aK:=bJ.out.drew.below aD;have aP:=jjQ (aE.out.drew.trans (aD.mono aE.out.drew.size));clear aD;refine hK.out _ _ ⟨aK.c0,aK.c1,aK.c2,aK.c3⟩ (fun _=>?_);clear hK K aC;rename_i aC;simp only [Act.put,List.setIfInBounds_toArray,List.set_cons_succ,List.set_cons_zero];refine TY 5 (.bool false) rfl aC ?_;simp only [Act.put,List.setIfInBounds_toArray,List.set_cons_succ,List.set_cons_zero];refine TY 6 (.bool false) rfl aC ?_;simp only [Act.put,List.setIfInBounds_toArray,List.set_cons_succ,List.set_cons_zero];refine TK 7 (undef) rfl (Or.inr ⟨by kernel_rfl,rfl⟩) aC ?_;simp only [Act.put,List.setIfInBounds_toArray,List.set_cons_succ,List.set_cons_zero];refine TK 8 (undef) rfl (Or.inr ⟨by kernel_rfl,rfl⟩) aC ?_;simp only [Act.put,List.setIfInBounds_toArray,List.set_cons_succ,List.set_cons_zero];refine TK 9 (undef) rfl (Or.inr ⟨by kernel_rfl,rfl⟩) aC ?_
  simp only [Act.put,List.setIfInBounds_toArray,List.set_cons_succ,List.set_cons_zero];refine TK 10 (undef) rfl (Or.inr ⟨by kernel_rfl,rfl⟩) aC ?_;simp only [Act.put,List.setIfInBounds_toArray,List.set_cons_succ,List.set_cons_zero];refine TK 11 (undef) rfl (Or.inr ⟨by kernel_rfl,rfl⟩) aC ?_;simp only [Act.put,List.setIfInBounds_toArray,List.set_cons_succ,List.set_cons_zero];refine TY 12 (.bool false) rfl aC ?_;simp only [Act.put,List.setIfInBounds_toArray,List.set_cons_succ,List.set_cons_zero];refine RD 13 rfl (fun K hK=>?_);rw [if_pos (by kernel_rfl)];have c0:=aA.c0;have c1:=aA.c1;have c2:=aA.c2;have c3:=aA.c3;have f0:=aA.f0;have f1:=aA.f1;have f2:=aA.f2;have f3:=aA.f3;unfold Oper.wp;go_simp
  have aR:∀ i,((((w7.setCell ⟨w.heap.size,0,none⟩ (.int .i64 m)).setCell ⟨w.heap.size,1,none⟩ (.int .i64 (H:Int))).setCell ⟨w.heap.size,2,none⟩ (.int .i64 F)).setCell ⟨w.heap.size,3,none⟩ (.int .i64 l)).cell? ⟨w2.heap.size+1,i,none⟩=w7.cell? ⟨w2.heap.size+1,i,none⟩:=fun i=>by
   rw [World.cell?_setCell_far _ _ _ _ aH,World.cell?_setCell_far _ _ _ _ aH,World.cell?_setCell_far _ _ _ _ aH,World.cell?_setCell_far _ _ _ _ aH]
  refine hK.out _ _ ⟨(aR _).trans aK.c0,(aR _).trans aK.c1,(aR _).trans aK.c2,(aR _).trans aK.c3⟩ (fun _=>?_);clear hK K aC aR;rename_i aC;refine TY 14 (.bool false) rfl aC ?_;simp only [Act.put,List.getElem_toArray,List.getElem_cons_succ,List.getElem_cons_zero,List.setIfInBounds_toArray,List.set_cons_succ,List.set_cons_zero];refine DN ?_;go_wp2;refine bodyPost_ret (v:=.tuple #[yDp m (H:Int) F l,.bool false]) (by simp [results,Tryz.results33,go_sem,c0,c1,c2,c3]) rfl ⟨⟨m,(H:Int),F,l,false,rfl,by rw [aG.out];rfl⟩,?_⟩;exact (((aP.out.setCell (Nat.le_refl _) _).setCell (Nat.le_refl _) _).setCell (Nat.le_refl _) _).setCell (Nat.le_refl _) _
theorem z9n (s:ByteArray) (a n:Int) (w:World) (hs:s.size<=1048576):Calls Tryz.prog 33 #[.string s,.int .i64 a,.int .i64 n] w fun e w'=>(∃ t h f l b,e=.returned (.tuple #[yDp t h f l,.bool b])/\yVH s a n=if b=true then some (t,h,f,l) else none)/\Below w.heap.size w w':=by
 have HS:=fun wx=>kfv s n wx hs
 cases hR:Jvc s n with
 | none =>
  rw [hR] at HS;exact xvy s a n w 0 0 0 ⟨#[]⟩ false HS (by decide) (.inl rfl) (by show _=_;unfold yVH;rw [hR])
 | some x =>
  obtain ⟨k,l,m,p⟩:=x;rw [hR] at HS
  by_cases h5:p.size=5
  ·exact ZfX s a n w k l m p hR HS h5
  ·exact xvy s a n w k l m p true HS (v5k hR).2.2.2.2.2.2 (.inr h5) (by show _=_;unfold yVH;rw [hR];simp [h5])
theorem B4.set4 {w:World} {B:Nat} {v0 v1 v2 v3:Value} (h:B4 w B v0 v1 v2 v3) (u0 u1 u2 u3:Value):B4 ((((w.setCell ⟨B,0,none⟩ u0).setCell ⟨B,1,none⟩ u1).setCell ⟨B,2,none⟩ u2).setCell ⟨B,3,none⟩ u3) B u0 u1 u2 u3:=by
 have c0:=h.c0;have c1:=h.c1;have c2:=h.c2;have c3:=h.c3;refine ⟨by simp only [World.size_setCell];exact h.lt,?_,?_,?_,?_,?_,?_,?_,?_⟩
 ·go_simp
 ·go_simp
 ·go_simp
 ·go_simp
 ·simp only [World.frozen?_setCell];exact h.f0
 ·simp only [World.frozen?_setCell];exact h.f1
 ·simp only [World.frozen?_setCell];exact h.f2
 ·simp only [World.frozen?_setCell];exact h.f3
def frD (ss:List ByteArray) (ws:List (Int×ByteArray)) (n:Int):RtT:=if vlG ss ws=true/\1<=n/\n<=8 then jkc ((xhE ws ss).getD 0 ByteArray.empty) ((xhE ws ss).getD 1 ByteArray.empty) n else rtZ
@[reducible] def rtW (x:RtT):Value:=yDp x.1 x.2.1 x.2.2.1 x.2.2.2
theorem jRu:∀ (ws:List (Int×ByteArray)) (ss:List ByteArray),(∀ s∈ss,s.size<=1048576)->(∀ x∈ws,x.2.size<=1048576)->∀ k,((xhE ws ss).getD k ByteArray.empty).size<=1048576
 | [],ss,h,_,k=>by
  show (ss.getD k ByteArray.empty).size<=_
  by_cases hk:k<ss.length
  ·have e:ss.getD k ByteArray.empty=ss[k]:=by simp [List.getD,hk]
   rw [e];exact h _ (List.getElem_mem hk)
  ·have e:ss.getD k ByteArray.empty=ByteArray.empty:=by simp [List.getD,hk]
   rw [e];decide
 | x::r,ss,h,h',k=>jRu r _ (fun s hs=>by
   rcases List.mem_or_eq_of_mem_set hs with h3 | h3
   ·exact h s h3
   ·rw [h3];exact h' x (List.mem_cons_self ..)) (fun y hy=>h' y (List.mem_cons_of_mem _ hy)) k
theorem qZt (a:Option Addr) (ss:List ByteArray) (c:Nat) (a':Option Addr) (ws:List (Int×ByteArray)) (c':Nat) (n:Int) (w:World) (h:Strs w a ss) (h':Wrs w a' ws) (hl:ss.length<=1048576) (cU:ws.length<=1048576) (hs:∀ s∈ss,s.size<=1048576) (b7:∀ x∈ws,x.2.size<=1048576) (aQ:vlG ss ws=true) (hn:1<=n/\n<=8) :
  Calls Tryz.prog 9 #[Zoj a ss.length c a' ws.length c',.int .i64 n] w fun e w'=>e=.returned (rtW (frD ss ws n))/\Below w.heap.size w w':=by
 have bU:∀ o1 o2,Below w.heap.size w ((w.alloc o1).alloc o2):=fun o1 o2=>((Below.refl _ _).alloc (Nat.le_refl _) _).alloc (by simp) _
 have hd:decide (1<=n/\n<=8)=true:=decide_eq_true hn;obtain ⟨aF,aG⟩:∃ aF,Hid (aF=frD ss ws n):=⟨_,hid rfl⟩;rw [<-aG.out];obtain ⟨⟨dO,bV,cL⟩,dN,hw⟩:=q67 aQ;go_enter Tryz.func9,Tryz.ntmps9;go_wp2_with fail;refine (xpE a ss c a' ws c' _ (h.below (bU _ _)) (h'.below (bU _ _)) hl cU hs b7).mono ?_;rw [aQ];rintro e w1 ⟨rfl,aN⟩;have HX:=hid ((((Cx.new w (.slice a ss.length c) (.slice a' ws.length c') 31)).below (zE5 _ (.cells #[.int .i64 0,.int .i64 0,.int .i64 0,.int .i64 0] 24))).below aN);have bJ:=hid ((B4.new (w.alloc (.cells #[.slice a ss.length c,.slice a' ws.length c'] 31)) (.int .i64 0) (.int .i64 0) (.int .i64 0) (.int .i64 0) 24).below aN);have aH:=hid ((bU (.cells #[.slice a ss.length c,.slice a' ws.length c'] 31) (.cells #[.int .i64 0,.int .i64 0,.int .i64 0,.int .i64 0] 24)).trans (aN.mono (by simp<;>omega)));clear aN;have q0:=HX.out.c0;have q1:=HX.out.c1
 go_wp2_with (first | (go_at_call 30;refine (X3C _ _).mono ?_;rw [hd];rintro e wz ⟨rfl,b8⟩;rw [b8];clear b8 wz))
 refine (k4z a ss c a' ws c' _ (h.below aH.out) (h'.below aH.out) bV cL).mono ?_;rintro e w2 ⟨g,c1,g',cM,rfl,aK,hg,cW,aO⟩;have aS:=hid (Below.then aH.out (Nat.le_refl _) aO);have bY:=hid (bJ.out.below aO);have aV:=aO.size;have aE:ss.length≠0:=by omega
 have cC:w1.heap.size<=g:=hg g (by unfold blk;rw [if_neg aE];rfl)
 have bW:Row w2 g (ss.map Value.string):=by
  rcases aK.s with e | ⟨b,e,hr⟩
  ·exact absurd (congrArg List.length e) (by rw [List.length_map,List.length_nil];omega)
  ·cases e;exact hr
 have cI:yaV ws≠[]->g'≠g:=fun hc=>by
  have hl:ws.length≠0:=fun e=>hc (by rw [List.eq_nil_of_length_eq_zero e];rfl)
  rcases aK.ne with e | e | e
  ·unfold blk at e;rw [if_neg aE] at e;exact absurd e (by simp)
  ·unfold blk at e;rw [if_neg hl] at e;exact absurd e (by simp)
  ·unfold blk at e;rw [if_neg aE,if_neg hl] at e;exact fun e2=>e (by rw [e2])
 have HY:=hid (Qh0 g g' ss c1 ws cM w2 bW aK.p cI bV cL (fun x hx=>by have:=of_decide_eq_true (hw x hx);omega));have cV:w.heap.size<=g:=Nat.le_trans aH.out.size cC;have aY:=bJ.out.lt;clear q0 q1 aK hg cW aO bW cI;go_wp2_with fail;refine HY.out.mono ?_;rintro e w3 ⟨x,rfl,dU,dQ,bH,aZ⟩;have aP:=hid (aS.out.trans (jJX aZ aS.out.size (fun k hk=>by cases hk;exact cV)));have aL:=hid (bY.out.past (N:=w1.heap.size) aY (jJX aZ aV (fun k hk=>by cases hk;exact cC)));have aW:g<w3.heap.size:=bH.lt;have aX:=aL.out.lt;rw [World.size_alloc] at aL aX;have cZ:w.heap.size<=w3.heap.size:=aP.out.size;obtain ⟨S,HS⟩:∃ S:Nat->ByteArray,Hid (S=fun k=>(xhE ws ss).getD k ByteArray.empty):=⟨_,hid rfl⟩
 have cS:Hid (∀ k,(S k).size<=1048576):=fun k=>by
  rw [HS.out];exact jRu ws ss hs b7 k
 have bZ:Hid (∀ k,k<ss.length->w3.cell? ⟨g,k,none⟩=some (.string (S k))):=fun k hk=>by
  rw [HS.out];exact bH.cell k _ (by simp [List.getD,yOJ,hk])
 have HF:Hid (aF=xBi (xBi (0,0,1,0) (yVH (S 0) 0 n)) (yVH (S 1) 1 n)):=by
  show _=_;rw [aG.out,HS.out];unfold frD;rw [if_pos ⟨aQ,hn⟩];rfl
 clear HY bY bJ aS aH bH aZ HX;go_wp2_with fail;have aM:=((B4.new (w3.alloc (.cells #[.slice (some ⟨g,0,none⟩) ss.length c1,.slice (some ⟨x,0,none⟩) 0 0] 31)) (.int .i64 0) (.int .i64 0) (.int .i64 1) (.int .i64 0) 24));have aI:Below w3.heap.size w3 ((w3.alloc (.cells #[.slice (some ⟨g,0,none⟩) ss.length c1,.slice (some ⟨x,0,none⟩) 0 0] 31)).alloc (.cells #[.int .i64 0,.int .i64 0,.int .i64 1,.int .i64 0] 24)):=((Below.refl _ _).alloc (Nat.le_refl _) _).alloc (by simp) _;have bI:((w3.alloc (.cells #[.slice (some ⟨g,0,none⟩) ss.length c1,.slice (some ⟨x,0,none⟩) 0 0] 31)).alloc (.cells #[.int .i64 0,.int .i64 0,.int .i64 1,.int .i64 0] 24)).cell? ⟨w3.heap.size,0,none⟩=some (.slice (some ⟨g,0,none⟩) ss.length c1):=by go_simp
 have dE:((w3.alloc (.cells #[.slice (some ⟨g,0,none⟩) ss.length c1,.slice (some ⟨x,0,none⟩) 0 0] 31)).alloc (.cells #[.int .i64 0,.int .i64 0,.int .i64 1,.int .i64 0] 24)).heap.size=w3.heap.size+2:=by simp
 obtain ⟨wb,cK⟩:∃ wb,wb=((w3.alloc (.cells #[.slice (some ⟨g,0,none⟩) ss.length c1,.slice (some ⟨x,0,none⟩) 0 0] 31)).alloc (.cells #[.int .i64 0,.int .i64 0,.int .i64 1,.int .i64 0] 24)):=⟨_,rfl⟩;rw [World.size_alloc] at aM;rw [<-cK] at aM aI bI dE ⊢;have cN:=hid bI;have dJ:=hid aM
 have bQ:Hid (∀ k,k<ss.length->wb.cell? ⟨g,k,none⟩=some (.string (S k))):=fun k hk=>(aI.cell (p:=⟨g,k,none⟩) aW).trans (bZ.out k hk)
 have dH:=hid (aL.out.below aI);have cP:=hid (aP.out.trans (aI.mono aP.out.size));clear cK aM bI aI bZ aL aP;go_loopw [7] (fun i wr=>∃ (k:Nat) (b:RtT),k<=2/\i=.int .i64 (k:Int)/\Hid ((k=0->b=(0,0,1,0))/\(k=1->b=xBi (0,0,1,0) (yVH (S 0) 0 n))/\(k=2->b=aF))/\Below (w3.heap.size+1) wb wr/\B4 wr (w3.heap.size+1) (.int .i64 b.1) (.int .i64 b.2.1) (.int .i64 b.2.2.1) (.int .i64 b.2.2.2)) (fun i _=>2-(intOf i).toNat)
 case atStart=>exact ⟨0,(0,0,1,0),by omega,rfl,⟨fun _=>rfl,fun h=>absurd h (by decide),fun h=>absurd h (by decide)⟩,Below.refl _ _,dJ.out⟩
 case round =>
  obtain ⟨k,⟨b0,b1,b2,b3⟩,hk,rfl,aR,aB,aA⟩:=hrel;have aD:=hid aB;have aJ:=hid aA
  by_cases dR:k<2
  ·have cQ:k<ss.length:=by omega
   have dI:(k:Int)<(ss.length:Int):=by omega
   have dK:(k:Int)<2:=by omega
   have x0:wr.cell? ⟨w3.heap.size,0,none⟩=some (.slice (some ⟨g,0,none⟩) ss.length c1):=(aB.cell (p:=⟨w3.heap.size,0,none⟩) (by show w3.heap.size<_;omega)).trans cN.out;have xk:wr.cell? ⟨g,k,none⟩=some (.string (S k)):=(aB.cell (p:=⟨g,k,none⟩) (by show g<_;omega)).trans (bQ.out k cQ);clear aB aA
   have aU:Hid (∀ b':RtT,b'=xBi (b0,b1,b2,b3) (yVH (S k) (k:Int) n)->(k+1=0->b'=(0,0,1,0))/\(k+1=1->b'=xBi (0,0,1,0) (yVH (S 0) 0 n))/\(k+1=2->b'=aF)):=fun b' cH=>by
    refine ⟨fun h=>absurd h (by omega),fun h=>?_,fun h=>?_⟩
    ·have cT:k=0:=by omega
     subst cT;rw [cH,aR.out.1 rfl];rfl
    ·have cO:k=1:=by omega
     subst cO;rw [cH,aR.out.2.1 rfl,HF.out];rfl
   go_wp2_with fail;refine (z9n (S k) (k:Int) n _ (cS.out k)).mono ?_;rintro e w5 ⟨⟨t,h9,f,l,bb,rfl,cJ⟩,bG⟩;have cE:=hid (aD.out.trans (bG.mono (by have:=aD.out.size;omega)));have aC:=hid (aJ.out.below bG);have bC:=hid cJ;clear cJ bG aD aJ x0 xk;have dM:w3.heap.size+2<=w5.heap.size:=by have:=cE.out.size;omega
   have c0:=fun o=>(aC.out.alloc o).c0
   have c1:=fun o=>(aC.out.alloc o).c1
   have c2:=fun o=>(aC.out.alloc o).c2
   have c3:=fun o=>(aC.out.alloc o).c3
   have f0:=fun o=>(aC.out.alloc o).f0
   have f1:=fun o=>(aC.out.alloc o).f1
   have f2:=fun o=>(aC.out.alloc o).f2
   have f3:=fun o=>(aC.out.alloc o).f3
   have aT:=hid (fun o=>cE.out.alloc (by omega) o)
   cases bb with
   | false =>
    have hm:=aU.out (b0,b1,b2,b3) (by rw [bC.out];rfl);have HM:=hid hm;clear hm;go_wp2;go_roundw
    case rel=>exact ⟨k+1,(b0,b1,b2,b3),by omega,by go_num,HM.out,aT.out _,aC.out.alloc _⟩
    case measure=>simp [intOf];omega
   | true =>
    by_cases cF:b0<t
    ·have hm:=aU.out (t,h9,f,l) (by rw [bC.out];simp [xBi,cF])
     have HM:=hid hm;clear hm;go_wp2;go_roundw
     case rel=>exact ⟨k+1,(t,h9,f,l),by omega,by go_num,HM.out,((((aT.out _).setCell (Nat.le_refl _) _).setCell (Nat.le_refl _) _).setCell (Nat.le_refl _) _).setCell (Nat.le_refl _) _,(aC.out.alloc _).set4 _ _ _ _⟩
     case measure=>simp [intOf];omega
    ·have hm:=aU.out (b0,b1,b2,b3) (by rw [bC.out];simp [xBi,cF])
     have HM:=hid hm;clear hm;go_wp2;go_roundw
     case rel=>exact ⟨k+1,(b0,b1,b2,b3),by omega,by go_num,HM.out,aT.out _,aC.out.alloc _⟩
     case measure=>simp [intOf];omega
  ·have dL:k=2:=by omega
   subst dL;have HE:Hid (aF=(b0,b1,b2,b3)):=(aR.out.2.2 rfl).symm;have hr:=dH.out.past (N:=w3.heap.size+1) (by omega) aB;have c0:=hr.c0;have c1:=hr.c1;have c2:=hr.c2;have c3:=hr.c3;have f0:=hr.f0;have f1:=hr.f1;have f2:=hr.f2;have f3:=hr.f3;have d0:=aA.c0;have d1:=aA.c1;have d2:=aA.c2;have d3:=aA.c3;clear hr aB aA;go_wp2;refine bodyPost_ret (v:=yDp b0 b1 b2 b3) (by simp [results,Tryz.results9,go_sem,c0,c1,c2,c3]) rfl ⟨by rw [HE.out],?_⟩;have cY:=cP.out.trans (aD.out.mono (by omega));exact (((cY.setCell (by show _<=w.heap.size+1;omega) _).setCell (by show _<=w.heap.size+1;omega) _).setCell (by show _<=w.heap.size+1;omega) _).setCell (by show _<=w.heap.size+1;omega) _
theorem kjq (a:Option Addr) (ss:List ByteArray) (c:Nat) (a':Option Addr) (ws:List (Int×ByteArray)) (c':Nat) (n:Int) (w:World) (h:Strs w a ss) (h':Wrs w a' ws) (hl:ss.length<=1048576) (aG:ws.length<=1048576) (hs:∀ s∈ss,s.size<=1048576) (aE:∀ x∈ws,x.2.size<=1048576) (aC:¬ (vlG ss ws=true/\1<=n/\n<=8)) :
  Calls Tryz.prog 9 #[Zoj a ss.length c a' ws.length c',.int .i64 n] w fun e w'=>e=.returned (yDp 0 0 0 0)/\Below w.heap.size w w':=by
 have aB:∀ o1 o2,Below w.heap.size w ((w.alloc o1).alloc o2):=fun o1 o2=>((Below.refl _ _).alloc (Nat.le_refl _) _).alloc (by simp) _
 cases hok:vlG ss ws with
 | false =>
  clear aC;go_enter Tryz.func9,Tryz.ntmps9;go_wp2_with fail;refine (xpE a ss c a' ws c' _ (h.below (aB _ _)) (h'.below (aB _ _)) hl aG hs aE).mono ?_;rw [hok];rintro e w1 ⟨rfl,aA⟩;have hr:=((B4.new (w.alloc (.cells #[.slice a ss.length c,.slice a' ws.length c'] 31)) (.int .i64 0) (.int .i64 0) (.int .i64 0) (.int .i64 0) 24).below aA);rw [World.size_alloc] at hr;have aD:=hid ((aB (.cells #[.slice a ss.length c,.slice a' ws.length c'] 31) (.cells #[.int .i64 0,.int .i64 0,.int .i64 0,.int .i64 0] 24)).trans (aA.mono (by simp<;>omega)));clear aA;have c0:=hr.c0;have c1:=hr.c1;have c2:=hr.c2;have c3:=hr.c3;have f0:=hr.f0;have f1:=hr.f1;have f2:=hr.f2;have f3:=hr.f3;clear hr;go_wp2;refine bodyPost_ret (v:=yDp 0 0 0 0) (by simp [results,Tryz.results9,go_sem,c0,c1,c2,c3]) rfl ⟨rfl,?_⟩;exact (((aD.out.setCell (by show _<=w.heap.size+1;omega) _).setCell (by show _<=w.heap.size+1;omega) _).setCell (by show _<=w.heap.size+1;omega) _).setCell (by show _<=w.heap.size+1;omega) _
 | true =>
  have hd:decide (1<=n/\n<=8)=false:=decide_eq_false (fun x=>aC ⟨hok,x⟩);clear aC;go_enter Tryz.func9,Tryz.ntmps9;go_wp2_with fail;refine (xpE a ss c a' ws c' _ (h.below (aB _ _)) (h'.below (aB _ _)) hl aG hs aE).mono ?_;rw [hok];rintro e w1 ⟨rfl,aA⟩;have hr:=((B4.new (w.alloc (.cells #[.slice a ss.length c,.slice a' ws.length c'] 31)) (.int .i64 0) (.int .i64 0) (.int .i64 0) (.int .i64 0) 24).below aA);rw [World.size_alloc] at hr;have aD:=hid ((aB (.cells #[.slice a ss.length c,.slice a' ws.length c'] 31) (.cells #[.int .i64 0,.int .i64 0,.int .i64 0,.int .i64 0] 24)).trans (aA.mono (by simp<;>omega)));clear aA;have c0:=hr.c0;have c1:=hr.c1;have c2:=hr.c2;have c3:=hr.c3;have f0:=hr.f0;have f1:=hr.f1;have f2:=hr.f2;have f3:=hr.f3;clear hr
  go_wp2_with (first | (go_at_call 30;refine (X3C _ _).mono ?_;rw [hd];rintro e wz ⟨rfl,aF⟩;rw [aF];clear aF wz))
  refine bodyPost_ret (v:=yDp 0 0 0 0) (by simp [results,Tryz.results9,go_sem,c0,c1,c2,c3]) rfl ⟨rfl,?_⟩;exact (((aD.out.setCell (by show _<=w.heap.size+1;omega) _).setCell (by show _<=w.heap.size+1;omega) _).setCell (by show _<=w.heap.size+1;omega) _).setCell (by show _<=w.heap.size+1;omega) _
theorem kLE (a:Option Addr) (ss:List ByteArray) (c:Nat) (a':Option Addr) (ws:List (Int×ByteArray)) (c':Nat) (n:Int) (w:World) (h:Strs w a ss) (h':Wrs w a' ws) (hl:ss.length<=1048576) (aA:ws.length<=1048576) (hs:∀ s∈ss,s.size<=1048576) (aB:∀ x∈ws,x.2.size<=1048576) :
  Calls Tryz.prog 9 #[Zoj a ss.length c a' ws.length c',.int .i64 n] w fun e w'=>e=.returned (rtW (frD ss ws n))/\Below w.heap.size w w':=by
 by_cases hy:vlG ss ws=true/\1<=n/\n<=8
 ·exact qZt a ss c a' ws c' n w h h' hl aA hs aB hy.1 hy.2
 ·have e:frD ss ws n=rtZ:=by unfold frD;rw [if_neg hy]
  rw [e];exact kjq a ss c a' ws c' n w h h' hl aA hs aB hy
end Go.Proofs.YtcdojnnkjeakmaaGreatDoor
