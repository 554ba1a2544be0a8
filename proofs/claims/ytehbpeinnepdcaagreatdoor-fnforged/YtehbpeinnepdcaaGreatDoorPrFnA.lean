import Derived.Test.YtehbpeinnepdcaaGreatDoorPrG53
set_option maxHeartbeats 40000000
namespace Go.Proofs.YtehbpeinnepdcaaGreatDoor
open Go.RowKit
set_option maxRecDepth 4000
set_option linter.unusedVariables false
set_option linter.unusedSimpArgs false
set_option maxHeartbeats 4000000
theorem vk0 (p:ByteArray) (h:p.size=5):((p.data.toList.getD 0 0).toNat:Int)=ptH p/\zMt (zFD (p.extract 1 5))=ptF p/\0<=ptH p/\ptH p<=255/\0<=ptF p/\ptF p<=4294967295:=by
 have hl:(zFD p).length=5:=by rw [vgz,h]
 have hd:p.data.toList.length=5:=h;have rg:=X8K p;have b1:=xOP 1 ((zFD p).take 1) (by simp;omega) (fun y hy=>rg y (List.mem_of_mem_take hy));have b2:=xOP 4 (((zFD p).drop 1).take 4) (by simp;omega) (fun y hy=>rg y (List.mem_of_mem_drop (List.mem_of_mem_take hy)));refine ⟨?_,?_,b1.1,by have:=b1.2;unfold ptH;omega,b2.1,by have:=b2.2;unfold ptF;omega⟩
 ·unfold ptH zFD
  rw [<-List.map_take];have e:=List.drop_eq_getElem_cons (l:=p.data.toList) (i:=0) (by omega);rw [List.drop_zero] at e;rw [e];simp only [List.take_succ_cons,List.take_zero,List.map_cons,List.map_nil,X9q];rfl
 ·unfold ptF
  rw [yPC,List.take_of_length_le (by omega)];rw [List.take_of_length_le (l:=(zFD p).drop 1) (by simp;omega)]
theorem xvy (s:ByteArray) (a n:Int) (w:World) (k l m:Int) (p:ByteArray) (b:Bool) (HS:∀ wx,Calls Tryz.prog 8 #[.string s,.int .i64 n] wx fun e w'=>e=.returned (.tuple #[QAw k l m p,.bool b])/\Below wx.heap.size wx w') (aH:p.size<=64) (aD:b=false\/p.size≠5) (aE:Hid (yVH s a n=none)):Calls Tryz.prog 113 #[.string s,.int .i64 a,.int .i64 n] w fun e w'=>(∃ t h f l b,e=.returned (.tuple #[yDp t h f l,.bool b])/\yVH s a n=if b=true then some (t,h,f,l) else none)/\Below w.heap.size w w':=by
 have aF:∀ o,Below w.heap.size w (w.alloc o):=fun o=>(Below.refl _ _).alloc (Nat.le_refl _) _
 cases b with
 | false =>
  ·clear aD
   go_enter Tryz.func113,Tryz.ntmps113;go_wp2_with (go_at_call 8;refine (HS _).mono ?_;rintro e w2 ⟨rfl,aB⟩;have aA:=jjQ ((B4.new w (.int .i64 0) (.int .i64 0) (.int .i64 0) (.int .i64 0) _).below aB);have aC:=jjQ ((aF _).trans (aB.mono (by simp)));clear aB;have c0:=fun o=>(aA.out.alloc o).c0;have c1:=fun o=>(aA.out.alloc o).c1;have c2:=fun o=>(aA.out.alloc o).c2;have c3:=fun o=>(aA.out.alloc o).c3;have f0:=fun o=>(aA.out.alloc o).f0;have f1:=fun o=>(aA.out.alloc o).f1;have f2:=fun o=>(aA.out.alloc o).f2;have f3:=fun o=>(aA.out.alloc o).f3);refine bodyPost_ret (v:=.tuple #[yDp 0 0 0 0,.bool false]) (by simp [results,Tryz.results113,go_sem,c0,c1,c2,c3]) rfl ⟨⟨0,0,0,0,false,rfl,by rw [aE.out];rfl⟩,?_⟩;exact ((((aC.out.alloc aC.out.size _).setCell (Nat.le_refl _) _).setCell (Nat.le_refl _) _).setCell (Nat.le_refl _) _).setCell (Nat.le_refl _) _
 | true =>
  ·have aG:((p.size:Int) != 5)=true:=by
    have h:=aD.resolve_left (by simp);simp;omega
   clear aD;go_enter Tryz.func113,Tryz.ntmps113;go_wp2_with (go_at_call 8;refine (HS _).mono ?_;rintro e w2 ⟨rfl,aB⟩;have aA:=jjQ ((B4.new w (.int .i64 0) (.int .i64 0) (.int .i64 0) (.int .i64 0) _).below aB);have aC:=jjQ ((aF _).trans (aB.mono (by simp)));clear aB;have c0:=fun o=>(aA.out.alloc o).c0;have c1:=fun o=>(aA.out.alloc o).c1;have c2:=fun o=>(aA.out.alloc o).c2;have c3:=fun o=>(aA.out.alloc o).c3;have f0:=fun o=>(aA.out.alloc o).f0;have f1:=fun o=>(aA.out.alloc o).f1;have f2:=fun o=>(aA.out.alloc o).f2;have f3:=fun o=>(aA.out.alloc o).f3);refine bodyPost_ret (v:=.tuple #[yDp 0 0 0 0,.bool false]) (by simp [results,Tryz.results113,go_sem,c0,c1,c2,c3]) rfl ⟨⟨0,0,0,0,false,rfl,by rw [aE.out];rfl⟩,?_⟩;exact ((((aC.out.alloc aC.out.size _).setCell (Nat.le_refl _) _).setCell (Nat.le_refl _) _).setCell (Nat.le_refl _) _).setCell (Nat.le_refl _) _
theorem ZfX (s:ByteArray) (a n:Int) (w:World) (k l m:Int) (p:ByteArray) (hR:Jvc s n=some (k,l,m,p)) (HS:∀ wx,Calls Tryz.prog 8 #[.string s,.int .i64 n] wx fun e w'=>e=.returned (.tuple #[QAw k l m p,.bool true])/\Below wx.heap.size wx w') (h5:p.size=5):Calls Tryz.prog 113 #[.string s,.int .i64 a,.int .i64 n] w fun e w'=>(∃ t h f l b,e=.returned (.tuple #[yDp t h f l,.bool b])/\yVH s a n=if b=true then some (t,h,f,l) else none)/\Below w.heap.size w w':=by
 have bQ:∀ o,Below w.heap.size w (w.alloc o):=fun o=>(Below.refl _ _).alloc (Nat.le_refl _) _
 obtain ⟨_,_,b7,b8,bY,bZ,cC⟩:=v5k hR
 have aN:Hid (yVH s a n=if QCt m (ptH p) (ptF p) l n=s/\m % 2=a then some (m,ptH p,ptF p,l) else none):=by
  show _=_;unfold yVH;rw [hR];simp [h5]
 clear hR;obtain ⟨e0,e1,g0,g1,g2,g3⟩:=vk0 p h5;have gb:=zN1 p 0 (by omega);obtain ⟨H,hH⟩:∃ H:Nat,H=(p.data.toList.getD 0 0).toNat:=⟨_,rfl⟩;rw [<-hH] at e0 gb;rw [<-e0] at g0 g1;obtain ⟨F,HF⟩:∃ F,Hid (F=ptF p):=⟨_,jjQ rfl⟩;rw [<-HF.out] at g2 g3 aN e1;rw [<-e0] at aN;have bV:(p.size:Int)=5:=by omega
 have z1:(p.extract 1 5).size<=4:=by simp only [ByteArray.size_extract];omega
 have bW:IntKind.i64.wrap (H:Int)=(H:Int):=by simp [IntKind.wrap,IntKind.bits,IntKind.signed];omega
 have h0:0<p.size:=by omega
 obtain ⟨FM,bC⟩:∃ FM,Hid (FM=QCt m (H:Int) F l n):=⟨_,jjQ rfl⟩;rw [<-bC.out] at aN
 have aO:=fun wx=>qAa m (H:Int) F l n wx
 rw [<-bC.out] at aO;have E1:=jjQ e1;clear hH e1 e0 HF;go_enter Tryz.func113,Tryz.ntmps113;go_wp2_with (go_at_call 8;refine (HS _).mono ?_;rintro e w2 ⟨rfl,aW⟩;have aF:=jjQ ((B4.new w (.int .i64 0) (.int .i64 0) (.int .i64 0) (.int .i64 0) _).below aW);have aM:=jjQ ((bQ _).trans (aW.mono (by simp)));clear aW;have c0:=fun o=>(aF.out.alloc o).c0;have c1:=fun o=>(aF.out.alloc o).c1;have c2:=fun o=>(aF.out.alloc o).c2;have c3:=fun o=>(aF.out.alloc o).c3;have f0:=fun o=>(aF.out.alloc o).f0;have f1:=fun o=>(aF.out.alloc o).f1;have f2:=fun o=>(aF.out.alloc o).f2;have f3:=fun o=>(aF.out.alloc o).f3);have aS:=(B4.new w2 (.int .i64 k) (.int .i64 l) (.int .i64 m) (.string p) 41);have aY:=aF.out.alloc (.cells #[.int .i64 k,.int .i64 l,.int .i64 m,.string p] 41);have aX:=aM.out.alloc aM.out.size (.cells #[.int .i64 k,.int .i64 l,.int .i64 m,.string p] 41);have aR:w.heap.size<w2.heap.size:=aF.out.lt;obtain ⟨wp,aV⟩:∃ wp,wp=w2.alloc (.cells #[.int .i64 k,.int .i64 l,.int .i64 m,.string p] 41):=⟨_,rfl⟩
 have bI:wp.heap.size=w2.heap.size+1:=by rw [aV];simp
 rw [<-aV] at aS aY aX ⊢;clear c0 c1 c2 c3 f0 f1 f2 f3 aV aF aM
 have HT:Hid (∀ w',Below wp.heap.size wp w'->w'.cell? ⟨w2.heap.size,1,none⟩=some (.int .i64 l)/\w'.cell? ⟨w2.heap.size,2,none⟩=some (.int .i64 m)/\w'.cell? ⟨w2.heap.size,3,none⟩=some (.string p)/\Below wp.heap.size wp w'):=fun w' hb=>⟨(aS.below hb).c1,(aS.below hb).c2,(aS.below hb).c3,hb⟩
 have bG:=jjQ aY;have aM:=jjQ aX;clear aY aX aS;refine (fun HG:Wr ?G=>?main) ⟨?pf⟩
 case main =>
  go_region_held3 (fun w'=>w'.cell? ⟨w2.heap.size,1,none⟩=some (.int .i64 l)/\w'.cell? ⟨w2.heap.size,2,none⟩=some (.int .i64 m)/\w'.cell? ⟨w2.heap.size,3,none⟩=some (.string p)/\Below wp.heap.size wp w')
   (first | assumption | exact HT.out _ ((Below.refl _ _).drew) | exact HT.out _ (((Below.refl _ _).drew).alloc (Nat.le_refl _) _) | exact HT.out _ (((Below.refl _ _).alloc (Nat.le_refl _) _).drew) | exact HT.out _ ((Below.refl _ _).alloc (Nat.le_refl _) _))
   (first | (go_at_call 22;refine (X8J (p.extract 1 5) F _ z1 E1.out.symm).mono ?_;rintro e w6 ⟨rfl,rfl⟩))
  all_goals exact HG.out
 have aB:=(B4.new wp (.int .i64 m) (.int .i64 (H:Int)) (.int .i64 F) (.int .i64 l) 28).drew;have aT:Below wp.heap.size wp (wp.alloc (.cells #[.int .i64 m,.int .i64 (H:Int),.int .i64 F,.int .i64 l] 28)).drew:=((Below.refl _ _).alloc (Nat.le_refl _) _).drew;have aZ:(wp.alloc (.cells #[.int .i64 m,.int .i64 (H:Int),.int .i64 F,.int .i64 l] 28)).drew.heap.size=w2.heap.size+2:=by simp [bI]
 obtain ⟨wq,bH⟩:∃ wq,wq=(wp.alloc (.cells #[.int .i64 m,.int .i64 (H:Int),.int .i64 F,.int .i64 l] 28)).drew:=⟨_,rfl⟩;rw [bI] at aB;rw [<-bH] at aB aT aZ ⊢;clear bH HT;have aH:=jjQ (bG.out.below aT);have aE:=jjQ (aM.out.trans (aT.mono (by have:=aM.out.size;omega)));clear aT bG aM
 have HT:Hid (∀ w',Below wq.heap.size wq w'->w'.cell? ⟨w2.heap.size+1,0,none⟩=some (.int .i64 m)/\w'.cell? ⟨w2.heap.size+1,1,none⟩=some (.int .i64 (H:Int))/\w'.cell? ⟨w2.heap.size+1,2,none⟩=some (.int .i64 F)/\w'.cell? ⟨w2.heap.size+1,3,none⟩=some (.int .i64 l)/\Below wq.heap.size wq w'):=fun w' hb=>⟨(aB.below hb).c0,(aB.below hb).c1,(aB.below hb).c2,(aB.below hb).c3,hb⟩
 have bJ:=jjQ aB;have q0:=aB.c0;have q1:=aB.c1;have q2:=aB.c2;have q3:=aB.c3;clear aB;have aJ:¬ (w.heap.size=w2.heap.size+1):=by have:=aR;omega
 have bU:¬ (w2.heap.size+1=w.heap.size):=by have:=aR;omega
 have aI:=aH.out;have c0:=aI.c0;have c1:=aI.c1;have c2:=aI.c2;have c3:=aI.c3;have f0:=aI.f0;have f1:=aI.f1;have f2:=aI.f2;have f3:=aI.f3;clear aI
 by_cases aK:FM=s
 ·by_cases ha:m % 2=a
  ·have ht:m.tmod 2=a:=by rw [Int.tmod_eq_emod_of_nonneg (by omega)];exact ha
   have aG:Hid (yVH s a n=some (m,(H:Int),F,l)):=by show _=_;rw [aN.out,if_pos ⟨aK,ha⟩]
   have aU:=jjQ aK;clear aK;rw [aU.out] at aO;go_wp2_with fail
   go_region_law (first | (refine XRf (by rfl) 116 #[yDp m (H:Int) F l,.int .i64 n] (by go_simp) (aO _) ?_;rintro e w7 ⟨rfl,aD⟩;refine ⟨_,rfl,?_⟩;obtain ⟨r0,r1,r2,r3,_⟩:=HT.out _ (((Below.refl _ _).drew).trans aD);have aA:=aH.out.drew.below aD;have aP:=jjQ (aE.out.drew.trans (aD.mono aE.out.drew.size));clear aD;have c0:=aA.c0;have c1:=aA.c1;have c2:=aA.c2;have c3:=aA.c3;have f0:=aA.f0;have f1:=aA.f1;have f2:=aA.f2;have f3:=aA.f3;clear aA))
   all_goals go_wp2
   all_goals refine bodyPost_ret (v:=.tuple #[yDp m (H:Int) F l,.bool true]) (by simp [results,Tryz.results113,go_sem,c0,c1,c2,c3,r0,r1,r2,r3,ht]) rfl ⟨⟨m,(H:Int),F,l,true,rfl,by rw [aG.out];rfl⟩,?_⟩
   all_goals exact (((aP.out.setCell (Nat.le_refl _) _).setCell (Nat.le_refl _) _).setCell (Nat.le_refl _) _).setCell (Nat.le_refl _) _
  ·have ht:¬ m.tmod 2=a:=by rw [Int.tmod_eq_emod_of_nonneg (by omega)];exact ha
   have aG:Hid (yVH s a n=none):=by show _=_;rw [aN.out,if_neg (fun h=>ha h.2)]
   have aU:=jjQ aK;clear aK;rw [aU.out] at aO;go_wp2_with fail
   go_region_law (first | (refine XRf (by rfl) 116 #[yDp m (H:Int) F l,.int .i64 n] (by go_simp) (aO _) ?_;rintro e w7 ⟨rfl,aD⟩;refine ⟨_,rfl,?_⟩;obtain ⟨r0,r1,r2,r3,_⟩:=HT.out _ (((Below.refl _ _).drew).trans aD);have aA:=aH.out.drew.below aD;have aP:=jjQ (aE.out.drew.trans (aD.mono aE.out.drew.size));clear aD;have c0:=aA.c0;have c1:=aA.c1;have c2:=aA.c2;have c3:=aA.c3;have f0:=aA.f0;have f1:=aA.f1;have f2:=aA.f2;have f3:=aA.f3;clear aA))
   all_goals go_wp2
   all_goals refine bodyPost_ret (v:=.tuple #[yDp m (H:Int) F l,.bool false]) (by simp [results,Tryz.results113,go_sem,c0,c1,c2,c3,r0,r1,r2,r3,ht]) rfl ⟨⟨m,(H:Int),F,l,false,rfl,by rw [aG.out];rfl⟩,?_⟩
   all_goals exact (((aP.out.setCell (Nat.le_refl _) _).setCell (Nat.le_refl _) _).setCell (Nat.le_refl _) _).setCell (Nat.le_refl _) _
 ·have aG:Hid (yVH s a n=none):=by show _=_;rw [aN.out,if_neg (fun h=>aK h.1)]
  have hG:(FM.toList == s.toList)=false:=by simp only [beq_eq_false_iff_ne];intro hh;rw [ByteArray.toList_eq,ByteArray.toList_eq] at hh;exact aK (ByteArray.ext (Array.ext' hh))
  clear aK;clear c0 c1 c2 c3 f0 f1 f2 f3;go_wp2_with fail;refine wp_region_held_drew (S:=fun w'=>w'.cell? ⟨w2.heap.size+1,0,none⟩=some (.int .i64 m)/\w'.cell? ⟨w2.heap.size+1,1,none⟩=some (.int .i64 (H:Int))/\w'.cell? ⟨w2.heap.size+1,2,none⟩=some (.int .i64 F)/\w'.cell? ⟨w2.heap.size+1,3,none⟩=some (.int .i64 l)) (by kernel_rfl) ⟨q0,q1,q2,q3⟩ (fun aC=>?_);refine TY 0 (yDp m (H:Int) F l) rfl aC ?_;simp only [Act.put,List.setIfInBounds_toArray,List.set_cons_succ,List.set_cons_zero];refine TY 1 (yDp m (H:Int) F l) rfl aC ?_;simp only [Act.put,List.setIfInBounds_toArray,List.set_cons_succ,List.set_cons_zero];refine TY 2 (.int .i64 n) rfl aC ?_;simp only [Act.put,List.setIfInBounds_toArray,List.set_cons_succ,List.set_cons_zero];refine TY 4 (.string s) rfl aC ?_;simp only [Act.put,List.setIfInBounds_toArray,List.set_cons_succ,List.set_cons_zero];refine RD 3 rfl (fun K hK=>?_);refine XRf (by rfl) 116 #[yDp m (H:Int) F l,.int .i64 n] (by go_simp) (aO _) ?_
  rintro e w7 ⟨rfl,aD⟩;refine ⟨_,rfl,?_⟩;have aA:=aH.out.drew.below aD;have aL:=bJ.out.drew.below aD;have aP:=jjQ (aE.out.drew.trans (aD.mono aE.out.drew.size));clear aD;refine hK.out _ _ ⟨aL.c0,aL.c1,aL.c2,aL.c3⟩ (fun _=>?_);clear hK K aC;rename_i aC;simp only [Act.put,List.setIfInBounds_toArray,List.set_cons_succ,List.set_cons_zero];refine TY 5 (.bool false) rfl aC ?_;simp only [Act.put,List.setIfInBounds_toArray,List.set_cons_succ,List.set_cons_zero];refine TY 6 (.bool false) rfl aC ?_;simp only [Act.put,List.setIfInBounds_toArray,List.set_cons_succ,List.set_cons_zero];refine TK 7 (undef) rfl (Or.inr ⟨by kernel_rfl,rfl⟩) aC ?_;simp only [Act.put,List.setIfInBounds_toArray,List.set_cons_succ,List.set_cons_zero];refine TK 8 (undef) rfl (Or.inr ⟨by kernel_rfl,rfl⟩) aC ?_;simp only [Act.put,List.setIfInBounds_toArray,List.set_cons_succ,List.set_cons_zero];refine TK 9 (undef) rfl (Or.inr ⟨by kernel_rfl,rfl⟩) aC ?_
  simp only [Act.put,List.setIfInBounds_toArray,List.set_cons_succ,List.set_cons_zero];refine TK 10 (undef) rfl (Or.inr ⟨by kernel_rfl,rfl⟩) aC ?_;simp only [Act.put,List.setIfInBounds_toArray,List.set_cons_succ,List.set_cons_zero];refine TK 11 (undef) rfl (Or.inr ⟨by kernel_rfl,rfl⟩) aC ?_;simp only [Act.put,List.setIfInBounds_toArray,List.set_cons_succ,List.set_cons_zero];refine TY 12 (.bool false) rfl aC ?_;simp only [Act.put,List.setIfInBounds_toArray,List.set_cons_succ,List.set_cons_zero];refine RD 13 rfl (fun K hK=>?_);rw [if_pos (by kernel_rfl)];have c0:=aA.c0;have c1:=aA.c1;have c2:=aA.c2;have c3:=aA.c3;have f0:=aA.f0;have f1:=aA.f1;have f2:=aA.f2;have f3:=aA.f3;unfold Oper.wp;go_simp
  have aQ:∀ i,((((w7.setCell ⟨w.heap.size,0,none⟩ (.int .i64 m)).setCell ⟨w.heap.size,1,none⟩ (.int .i64 (H:Int))).setCell ⟨w.heap.size,2,none⟩ (.int .i64 F)).setCell ⟨w.heap.size,3,none⟩ (.int .i64 l)).cell? ⟨w2.heap.size+1,i,none⟩=w7.cell? ⟨w2.heap.size+1,i,none⟩:=fun i=>by
   rw [World.cell?_setCell_far _ _ _ _ aJ,World.cell?_setCell_far _ _ _ _ aJ,World.cell?_setCell_far _ _ _ _ aJ,World.cell?_setCell_far _ _ _ _ aJ]
  refine hK.out _ _ ⟨(aQ _).trans aL.c0,(aQ _).trans aL.c1,(aQ _).trans aL.c2,(aQ _).trans aL.c3⟩ (fun _=>?_);clear hK K aC aQ;rename_i aC;refine TY 14 (.bool false) rfl aC ?_;simp only [Act.put,List.getElem_toArray,List.getElem_cons_succ,List.getElem_cons_zero,List.setIfInBounds_toArray,List.set_cons_succ,List.set_cons_zero];refine DN ?_;go_wp2;refine bodyPost_ret (v:=.tuple #[yDp m (H:Int) F l,.bool false]) (by simp [results,Tryz.results113,go_sem,c0,c1,c2,c3]) rfl ⟨⟨m,(H:Int),F,l,false,rfl,by rw [aG.out];rfl⟩,?_⟩;exact (((aP.out.setCell (Nat.le_refl _) _).setCell (Nat.le_refl _) _).setCell (Nat.le_refl _) _).setCell (Nat.le_refl _) _
theorem z9n (s:ByteArray) (a n:Int) (w:World) (hs:s.size<=1048576):Calls Tryz.prog 113 #[.string s,.int .i64 a,.int .i64 n] w fun e w'=>(∃ t h f l b,e=.returned (.tuple #[yDp t h f l,.bool b])/\yVH s a n=if b=true then some (t,h,f,l) else none)/\Below w.heap.size w w':=by
 have HS:=fun wx=>kfv s n wx hs
 cases hR:Jvc s n with
 | none =>
  rw [hR] at HS;exact xvy s a n w 0 0 0 ⟨#[]⟩ false HS (by decide) (.inl rfl) (by show _=_;unfold yVH;rw [hR])
 | some x =>
  obtain ⟨k,l,m,p⟩:=x;rw [hR] at HS
  by_cases h5:p.size=5
  ·exact ZfX s a n w k l m p hR HS h5
  ·exact xvy s a n w k l m p true HS (v5k hR).2.2.2.2.2.2 (.inr h5) (by show _=_;unfold yVH;rw [hR];simp [h5])
theorem B4.set4 {w:World} {B:Nat} {v0 v1 v2 v3:Value} (h:B4 w B v0 v1 v2 v3) (u0 u1 u2 u3:Value):B4 ((((w.setCell ⟨B,0,none⟩ u0).setCell ⟨B,1,none⟩ u1).setCell ⟨B,2,none⟩ u2).setCell ⟨B,3,none⟩ u3) B u0 u1 u2 u3:=by
 have c0:=h.c0;have c1:=h.c1;have c2:=h.c2;have c3:=h.c3;refine ⟨by simp only [World.size_setCell];exact h.lt,?_,?_,?_,?_,?_,?_,?_,?_⟩
 ·go_simp
 ·go_simp
 ·go_simp
 ·go_simp
 ·simp only [World.frozen?_setCell];exact h.f0
 ·simp only [World.frozen?_setCell];exact h.f1
 ·simp only [World.frozen?_setCell];exact h.f2
 ·simp only [World.frozen?_setCell];exact h.f3
def frD (ss:List ByteArray) (ws:List (Int×ByteArray)) (n:Int):RtT:=if vlG ss ws=true/\1<=n/\n<=8 then jkc ((syncs ws ss).getD 0 ByteArray.empty) ((syncs ws ss).getD 1 ByteArray.empty) n else rtZ
@[reducible] def rtW (x:RtT):Value:=yDp x.1 x.2.1 x.2.2.1 x.2.2.2
theorem jRu:∀ (ws:List (Int×ByteArray)) (ss:List ByteArray),(∀ s∈ss,s.size<=1048576)->(∀ x∈ws,x.2.size<=1048576)->∀ k,((syncs ws ss).getD k ByteArray.empty).size<=1048576
 | [],ss,h,_,k=>by
  show (ss.getD k ByteArray.empty).size<=_
  by_cases hk:k<ss.length
  ·have e:ss.getD k ByteArray.empty=ss[k]:=by simp [List.getD,hk]
   rw [e];exact h _ (List.getElem_mem hk)
  ·have e:ss.getD k ByteArray.empty=ByteArray.empty:=by simp [List.getD,hk]
   rw [e];decide
 | x::r,ss,h,h',k=>jRu r _ (fun s hs=>by
   rcases List.mem_or_eq_of_mem_set hs with h3 | h3
   ·exact h s h3
   ·rw [h3];exact h' x (List.mem_cons_self ..)) (fun y hy=>h' y (List.mem_cons_of_mem _ hy)) k
theorem qZt (a:Option Addr) (ss:List ByteArray) (c:Nat) (a':Option Addr) (ws:List (Int×ByteArray)) (c':Nat) (n:Int) (w:World) (h:Strs w a ss) (h':Wrs w a' ws) (hl:ss.length<=1048576) (dH:ws.length<=1048576) (hs:∀ s∈ss,s.size<=1048576) (cK:∀ x∈ws,x.2.size<=1048576) (bI:vlG ss ws=true) (hn:1<=n/\n<=8) :
  Calls Tryz.prog 106 #[Zoj a ss.length c a' ws.length c',.int .i64 n] w fun e w'=>e=.returned (rtW (frD ss ws n))/\Below w.heap.size w w':=by
 have aZ:∀ o1 o2,Below w.heap.size w ((w.alloc o1).alloc o2):=fun o1 o2=>((Below.refl _ _).alloc (Nat.le_refl _) _).alloc (by simp) _
 have hd:decide (1<=n/\n<=8)=true:=decide_eq_true hn;obtain ⟨aF,aI⟩:∃ aF,Hid (aF=frD ss ws n):=⟨_,hid rfl⟩;rw [<-aI.out];obtain ⟨⟨dO,cE,cF⟩,dM,hw⟩:=q67 bI;go_enter Tryz.func106,Tryz.ntmps106;go_wp2_with fail;refine (xpE a ss c a' ws c' _ (h.below (aZ _ _)) (h'.below (aZ _ _)) hl dH hs cK).mono ?_;rw [bI];rintro e w1 ⟨rfl,aM⟩;have HX:=hid ((((Cx.new w (.slice a ss.length c) (.slice a' ws.length c') 26)).below (zE5 _ (.cells #[.int .i64 0,.int .i64 0,.int .i64 0,.int .i64 0] 28))).below aM);have aU:=hid ((B4.new (w.alloc (.cells #[.slice a ss.length c,.slice a' ws.length c'] 26)) (.int .i64 0) (.int .i64 0) (.int .i64 0) (.int .i64 0) 28).below aM);have aG:=hid ((aZ (.cells #[.slice a ss.length c,.slice a' ws.length c'] 26) (.cells #[.int .i64 0,.int .i64 0,.int .i64 0,.int .i64 0] 28)).trans (aM.mono (by simp<;>omega)));clear aM;have q0:=HX.out.c0;have q1:=HX.out.c1
 go_wp2_with (first | (go_at_call 15;refine (X3C _ _).mono ?_;rw [hd];rintro e wz ⟨rfl,cL⟩;rw [cL];clear cL wz))
 refine (copy_s a ss c a' ws c' _ (h.below aG.out) (h'.below aG.out) cE cF).mono ?_;rintro e w2 ⟨g,c1,g',cS,rfl,aP,hg,cU,aN⟩;have aQ:=hid (Below.then aG.out (Nat.le_refl _) aN);have bW:=hid (aU.out.below aN);have bQ:=aN.size;have aE:ss.length≠0:=by omega
 have b8:w1.heap.size<=g:=hg g (by unfold blk;rw [if_neg aE];rfl)
 have cJ:Row w2 g (ss.map Value.string):=by
  rcases aP.s with e | ⟨b,e,hr⟩
  ·exact absurd (congrArg List.length e) (by rw [List.length_map,List.length_nil];omega)
  ·cases e;exact hr
 have cH:yaV ws≠[]->g'≠g:=fun hc=>by
  have hl:ws.length≠0:=fun e=>hc (by rw [List.eq_nil_of_length_eq_zero e];rfl)
  rcases aP.ne with e | e | e
  ·unfold blk at e;rw [if_neg aE] at e;exact absurd e (by simp)
  ·unfold blk at e;rw [if_neg hl] at e;exact absurd e (by simp)
  ·unfold blk at e;rw [if_neg aE,if_neg hl] at e;exact fun e2=>e (by rw [e2])
 have HY:=hid (sync_s g g' ss c1 ws cS w2 cJ aP.p cH cE cF (fun x hx=>by have:=of_decide_eq_true (hw x hx);omega));have dK:w.heap.size<=g:=Nat.le_trans aG.out.size b8;have aY:=aU.out.lt;clear q0 q1 aP hg cU aN cJ cH;go_wp2_with fail;refine HY.out.mono ?_;rintro e w3 ⟨x,rfl,dR,dU,bJ,bH⟩;have aK:=hid (aQ.out.trans (jJX bH aQ.out.size (fun k hk=>by cases hk;exact dK)));have aL:=hid (bW.out.past (N:=w1.heap.size) aY (jJX bH bQ (fun k hk=>by cases hk;exact b8)));have bG:g<w3.heap.size:=bJ.lt;have aX:=aL.out.lt;rw [World.size_alloc] at aL aX;have dL:w.heap.size<=w3.heap.size:=aK.out.size;obtain ⟨S,HS⟩:∃ S:Nat->ByteArray,Hid (S=fun k=>(syncs ws ss).getD k ByteArray.empty):=⟨_,hid rfl⟩
 have cP:Hid (∀ k,(S k).size<=1048576):=fun k=>by
  rw [HS.out];exact jRu ws ss hs cK k
 have bY:Hid (∀ k,k<ss.length->w3.cell? ⟨g,k,none⟩=some (.string (S k))):=fun k hk=>by
  rw [HS.out];exact bJ.cell k _ (by simp [List.getD,syncs_length,hk])
 have HF:Hid (aF=xBi (xBi (0,0,1,0) (yVH (S 0) 0 n)) (yVH (S 1) 1 n)):=by
  show _=_;rw [aI.out,HS.out];unfold frD;rw [if_pos ⟨bI,hn⟩];rfl
 clear HY bW aU aQ aG bJ bH HX;go_wp2_with fail;have aO:=((B4.new (w3.alloc (.cells #[.slice (some ⟨g,0,none⟩) ss.length c1,.slice (some ⟨x,0,none⟩) 0 0] 26)) (.int .i64 0) (.int .i64 0) (.int .i64 1) (.int .i64 0) 28));have aJ:Below w3.heap.size w3 ((w3.alloc (.cells #[.slice (some ⟨g,0,none⟩) ss.length c1,.slice (some ⟨x,0,none⟩) 0 0] 26)).alloc (.cells #[.int .i64 0,.int .i64 0,.int .i64 1,.int .i64 0] 28)):=((Below.refl _ _).alloc (Nat.le_refl _) _).alloc (by simp) _;have bU:((w3.alloc (.cells #[.slice (some ⟨g,0,none⟩) ss.length c1,.slice (some ⟨x,0,none⟩) 0 0] 26)).alloc (.cells #[.int .i64 0,.int .i64 0,.int .i64 1,.int .i64 0] 28)).cell? ⟨w3.heap.size,0,none⟩=some (.slice (some ⟨g,0,none⟩) ss.length c1):=by go_simp
 have dJ:((w3.alloc (.cells #[.slice (some ⟨g,0,none⟩) ss.length c1,.slice (some ⟨x,0,none⟩) 0 0] 26)).alloc (.cells #[.int .i64 0,.int .i64 0,.int .i64 1,.int .i64 0] 28)).heap.size=w3.heap.size+2:=by simp
 obtain ⟨wb,bZ⟩:∃ wb,wb=((w3.alloc (.cells #[.slice (some ⟨g,0,none⟩) ss.length c1,.slice (some ⟨x,0,none⟩) 0 0] 26)).alloc (.cells #[.int .i64 0,.int .i64 0,.int .i64 1,.int .i64 0] 28)):=⟨_,rfl⟩;rw [World.size_alloc] at aO;rw [<-bZ] at aO aJ bU dJ ⊢;have cQ:=hid bU;have cN:=hid aO
 have aW:Hid (∀ k,k<ss.length->wb.cell? ⟨g,k,none⟩=some (.string (S k))):=fun k hk=>(aJ.cell (p:=⟨g,k,none⟩) bG).trans (bY.out k hk)
 have cO:=hid (aL.out.below aJ);have cM:=hid (aK.out.trans (aJ.mono aK.out.size));clear bZ aO bU aJ bY aL aK;go_loopw [7] (fun i wr=>∃ (k:Nat) (b:RtT),k<=2/\i=.int .i64 (k:Int)/\Hid ((k=0->b=(0,0,1,0))/\(k=1->b=xBi (0,0,1,0) (yVH (S 0) 0 n))/\(k=2->b=aF))/\Below (w3.heap.size+1) wb wr/\B4 wr (w3.heap.size+1) (.int .i64 b.1) (.int .i64 b.2.1) (.int .i64 b.2.2.1) (.int .i64 b.2.2.2)) (fun i _=>2-(intOf i).toNat)
 case atStart=>exact ⟨0,(0,0,1,0),by omega,rfl,⟨fun _=>rfl,fun h=>absurd h (by decide),fun h=>absurd h (by decide)⟩,Below.refl _ _,cN.out⟩
 case round =>
  obtain ⟨k,⟨b0,b1,b2,b3⟩,hk,rfl,aS,aB,aA⟩:=hrel;have aD:=hid aB;have aH:=hid aA
  by_cases dN:k<2
  ·have cZ:k<ss.length:=by omega
   have dE:(k:Int)<(ss.length:Int):=by omega
   have dI:(k:Int)<2:=by omega
   have x0:wr.cell? ⟨w3.heap.size,0,none⟩=some (.slice (some ⟨g,0,none⟩) ss.length c1):=(aB.cell (p:=⟨w3.heap.size,0,none⟩) (by show w3.heap.size<_;omega)).trans cQ.out;have xk:wr.cell? ⟨g,k,none⟩=some (.string (S k)):=(aB.cell (p:=⟨g,k,none⟩) (by show g<_;omega)).trans (aW.out k cZ);clear aB aA
   have aT:Hid (∀ b':RtT,b'=xBi (b0,b1,b2,b3) (yVH (S k) (k:Int) n)->(k+1=0->b'=(0,0,1,0))/\(k+1=1->b'=xBi (0,0,1,0) (yVH (S 0) 0 n))/\(k+1=2->b'=aF)):=fun b' b7=>by
    refine ⟨fun h=>absurd h (by omega),fun h=>?_,fun h=>?_⟩
    ·have cV:k=0:=by omega
     subst cV;rw [b7,aS.out.1 rfl];rfl
    ·have cW:k=1:=by omega
     subst cW;rw [b7,aS.out.2.1 rfl,HF.out];rfl
   go_wp2_with fail;refine (z9n (S k) (k:Int) n _ (cP.out k)).mono ?_;rintro e w5 ⟨⟨t,h9,f,l,bb,rfl,cI⟩,bC⟩;have bV:=hid (aD.out.trans (bC.mono (by have:=aD.out.size;omega)));have aC:=hid (aH.out.below bC);have aV:=hid cI;clear cI bC aD aH x0 xk;have dQ:w3.heap.size+2<=w5.heap.size:=by have:=bV.out.size;omega
   have c0:=fun o=>(aC.out.alloc o).c0
   have c1:=fun o=>(aC.out.alloc o).c1
   have c2:=fun o=>(aC.out.alloc o).c2
   have c3:=fun o=>(aC.out.alloc o).c3
   have f0:=fun o=>(aC.out.alloc o).f0
   have f1:=fun o=>(aC.out.alloc o).f1
   have f2:=fun o=>(aC.out.alloc o).f2
   have f3:=fun o=>(aC.out.alloc o).f3
   have aR:=hid (fun o=>bV.out.alloc (by omega) o)
   cases bb with
   | false =>
    have hm:=aT.out (b0,b1,b2,b3) (by rw [aV.out];rfl);have HM:=hid hm;clear hm;go_wp2;go_roundw
    case rel=>exact ⟨k+1,(b0,b1,b2,b3),by omega,by go_num,HM.out,aR.out _,aC.out.alloc _⟩
    case measure=>simp [intOf];omega
   | true =>
    by_cases cC:b0<t
    ·have hm:=aT.out (t,h9,f,l) (by rw [aV.out];simp [xBi,cC])
     have HM:=hid hm;clear hm;go_wp2;go_roundw
     case rel=>exact ⟨k+1,(t,h9,f,l),by omega,by go_num,HM.out,((((aR.out _).setCell (Nat.le_refl _) _).setCell (Nat.le_refl _) _).setCell (Nat.le_refl _) _).setCell (Nat.le_refl _) _,(aC.out.alloc _).set4 _ _ _ _⟩
     case measure=>simp [intOf];omega
    ·have hm:=aT.out (b0,b1,b2,b3) (by rw [aV.out];simp [xBi,cC])
     have HM:=hid hm;clear hm;go_wp2;go_roundw
     case rel=>exact ⟨k+1,(b0,b1,b2,b3),by omega,by go_num,HM.out,aR.out _,aC.out.alloc _⟩
     case measure=>simp [intOf];omega
  ·have cY:k=2:=by omega
   subst cY;have HE:Hid (aF=(b0,b1,b2,b3)):=(aS.out.2.2 rfl).symm;have hr:=cO.out.past (N:=w3.heap.size+1) (by omega) aB;have c0:=hr.c0;have c1:=hr.c1;have c2:=hr.c2;have c3:=hr.c3;have f0:=hr.f0;have f1:=hr.f1;have f2:=hr.f2;have f3:=hr.f3;have d0:=aA.c0;have d1:=aA.c1;have d2:=aA.c2;have d3:=aA.c3;clear hr aB aA;go_wp2;refine bodyPost_ret (v:=yDp b0 b1 b2 b3) (by simp [results,Tryz.results106,go_sem,c0,c1,c2,c3]) rfl ⟨by rw [HE.out],?_⟩;have cT:=cM.out.trans (aD.out.mono (by omega));exact (((cT.setCell (by show _<=w.heap.size+1;omega) _).setCell (by show _<=w.heap.size+1;omega) _).setCell (by show _<=w.heap.size+1;omega) _).setCell (by show _<=w.heap.size+1;omega) _
theorem kjq (a:Option Addr) (ss:List ByteArray) (c:Nat) (a':Option Addr) (ws:List (Int×ByteArray)) (c':Nat) (n:Int) (w:World) (h:Strs w a ss) (h':Wrs w a' ws) (hl:ss.length<=1048576) (aE:ws.length<=1048576) (hs:∀ s∈ss,s.size<=1048576) (aF:∀ x∈ws,x.2.size<=1048576) (aD:¬ (vlG ss ws=true/\1<=n/\n<=8)) :
  Calls Tryz.prog 106 #[Zoj a ss.length c a' ws.length c',.int .i64 n] w fun e w'=>e=.returned (yDp 0 0 0 0)/\Below w.heap.size w w':=by
 have aB:∀ o1 o2,Below w.heap.size w ((w.alloc o1).alloc o2):=fun o1 o2=>((Below.refl _ _).alloc (Nat.le_refl _) _).alloc (by simp) _
 cases hok:vlG ss ws with
 | false =>
  clear aD;go_enter Tryz.func106,Tryz.ntmps106;go_wp2_with fail;refine (xpE a ss c a' ws c' _ (h.below (aB _ _)) (h'.below (aB _ _)) hl aE hs aF).mono ?_;rw [hok];rintro e w1 ⟨rfl,aA⟩;have hr:=((B4.new (w.alloc (.cells #[.slice a ss.length c,.slice a' ws.length c'] 26)) (.int .i64 0) (.int .i64 0) (.int .i64 0) (.int .i64 0) 28).below aA);rw [World.size_alloc] at hr;have aC:=hid ((aB (.cells #[.slice a ss.length c,.slice a' ws.length c'] 26) (.cells #[.int .i64 0,.int .i64 0,.int .i64 0,.int .i64 0] 28)).trans (aA.mono (by simp<;>omega)));clear aA;have c0:=hr.c0;have c1:=hr.c1;have c2:=hr.c2;have c3:=hr.c3;have f0:=hr.f0;have f1:=hr.f1;have f2:=hr.f2;have f3:=hr.f3;clear hr;go_wp2;refine bodyPost_ret (v:=yDp 0 0 0 0) (by simp [results,Tryz.results106,go_sem,c0,c1,c2,c3]) rfl ⟨rfl,?_⟩;exact (((aC.out.setCell (by show _<=w.heap.size+1;omega) _).setCell (by show _<=w.heap.size+1;omega) _).setCell (by show _<=w.heap.size+1;omega) _).setCell (by show _<=w.heap.size+1;omega) _
 | true =>
  have hd:decide (1<=n/\n<=8)=false:=decide_eq_false (fun x=>aD ⟨hok,x⟩);clear aD;go_enter Tryz.func106,Tryz.ntmps106;go_wp2_with fail;refine (xpE a ss c a' ws c' _ (h.below (aB _ _)) (h'.below (aB _ _)) hl aE hs aF).mono ?_;rw [hok];rintro e w1 ⟨rfl,aA⟩;have hr:=((B4.new (w.alloc (.cells #[.slice a ss.length c,.slice a' ws.length c'] 26)) (.int .i64 0) (.int .i64 0) (.int .i64 0) (.int .i64 0) 28).below aA);rw [World.size_alloc] at hr;have aC:=hid ((aB (.cells #[.slice a ss.length c,.slice a' ws.length c'] 26) (.cells #[.int .i64 0,.int .i64 0,.int .i64 0,.int .i64 0] 28)).trans (aA.mono (by simp<;>omega)));clear aA;have c0:=hr.c0;have c1:=hr.c1;have c2:=hr.c2;have c3:=hr.c3;have f0:=hr.f0;have f1:=hr.f1;have f2:=hr.f2;have f3:=hr.f3;clear hr
  go_wp2_with (first | (go_at_call 15;refine (X3C _ _).mono ?_;rw [hd];rintro e wz ⟨rfl,aG⟩;rw [aG];clear aG wz))
  refine bodyPost_ret (v:=yDp 0 0 0 0) (by simp [results,Tryz.results106,go_sem,c0,c1,c2,c3]) rfl ⟨rfl,?_⟩;exact (((aC.out.setCell (by show _<=w.heap.size+1;omega) _).setCell (by show _<=w.heap.size+1;omega) _).setCell (by show _<=w.heap.size+1;omega) _).setCell (by show _<=w.heap.size+1;omega) _
theorem kLE (a:Option Addr) (ss:List ByteArray) (c:Nat) (a':Option Addr) (ws:List (Int×ByteArray)) (c':Nat) (n:Int) (w:World) (h:Strs w a ss) (h':Wrs w a' ws) (hl:ss.length<=1048576) (aA:ws.length<=1048576) (hs:∀ s∈ss,s.size<=1048576) (aB:∀ x∈ws,x.2.size<=1048576) :
  Calls Tryz.prog 106 #[Zoj a ss.length c a' ws.length c',.int .i64 n] w fun e w'=>e=.returned (rtW (frD ss ws n))/\Below w.heap.size w w':=by
 by_cases hy:vlG ss ws=true/\1<=n/\n<=8
 ·exact qZt a ss c a' ws c' n w h h' hl aA hs aB hy.1 hy.2
 ·have e:frD ss ws n=rtZ:=by unfold frD;rw [if_neg hy]
  rw [e];exact kjq a ss c a' ws c' n w h h' hl aA hs aB hy
end Go.Proofs.YtehbpeinnepdcaaGreatDoor
