import Derived.Test.YthdilmkbnpmdaaaPrG44
set_option maxHeartbeats 40000000
namespace Go.Proofs.Ythdilmkbnpmdaaa
open Go.RowKit
set_option maxRecDepth 4000
set_option linter.unusedVariables false
set_option linter.unusedSimpArgs false
set_option maxHeartbeats 4000000
theorem pt_parts (p:ByteArray) (h:p.size=5):((p.data.toList.getD 0 0).toNat:Int)=ptH p/\numOf (nums (p.extract 1 5))=ptF p/\0<=ptH p/\ptH p<=255/\0<=ptF p/\ptF p<=4294967295:=by
 have hl:(nums p).length=5:=by rw [nums_length,h]
 have hd:p.data.toList.length=5:=h
 have rg:=nums_range' p
 have b1:=numOf_rng 1 ((nums p).take 1) (by simp;omega) (fun y hy=>rg y (List.mem_of_mem_take hy))
 have b2:=numOf_rng 4 (((nums p).drop 1).take 4) (by simp;omega) (fun y hy=>rg y (List.mem_of_mem_drop (List.mem_of_mem_take hy)))
 refine ⟨?_,?_,b1.1,by have:=b1.2;unfold ptH;omega,b2.1,by have:=b2.2;unfold ptF;omega⟩
 ·unfold ptH nums
  rw [<-List.map_take]
  have e:=List.drop_eq_getElem_cons (l:=p.data.toList) (i:=0) (by omega)
  rw [List.drop_zero] at e
  rw [e]
  simp only [List.take_succ_cons,List.take_zero,List.map_cons,List.map_nil,numOf_one]
  rfl
 ·unfold ptF
  rw [nums_extract,List.take_of_length_le (by omega)]
  rw [List.take_of_length_le (l:=(nums p).drop 1) (by simp;omega)]
theorem l5at_no (s:ByteArray) (a n:Int) (w:World) (k l m:Int) (p:ByteArray) (b:Bool) (HS:∀ wx,Calls Try.prog 44 #[.string s,.int .i64 n] wx fun e w'=>e=.returned (.tuple #[pageV k l m p,.bool b])/\Below wx.heap.size wx w') (hps:p.size<=64) (hno:b=false\/p.size≠5) (HRO:Hid (rootOf s a n=none)):Calls Try.prog 81 #[.string s,.int .i64 a,.int .i64 n] w fun e w'=>(∃ t h f l b,e=.returned (.tuple #[rootV t h f l,.bool b])/\rootOf s a n=if b=true then some (t,h,f,l) else none)/\Below w.heap.size w w':=by
 have hb0:∀ o,Below w.heap.size w (w.alloc o):=fun o=>(Below.refl _ _).alloc (Nat.le_refl _) _
 cases b with
 | false =>
  ·clear hno
   go_enter Try.func81,Try.ntmps81
   go_wp2_with (go_at_call 44;refine (HS _).mono ?_;rintro e w2 ⟨rfl,hb2⟩;have HB2:=hid0 ((B4.new w (.int .i64 0) (.int .i64 0) (.int .i64 0) (.int .i64 0) _).below hb2);have HBB:=hid0 ((hb0 _).trans (hb2.mono (by simp)));clear hb2;have c0:=fun o=>(HB2.out.alloc o).c0;have c1:=fun o=>(HB2.out.alloc o).c1;have c2:=fun o=>(HB2.out.alloc o).c2;have c3:=fun o=>(HB2.out.alloc o).c3;have f0:=fun o=>(HB2.out.alloc o).f0;have f1:=fun o=>(HB2.out.alloc o).f1;have f2:=fun o=>(HB2.out.alloc o).f2;have f3:=fun o=>(HB2.out.alloc o).f3)
   refine bodyPost_ret (v:=.tuple #[rootV 0 0 0 0,.bool false]) (by simp [results,Try.results81,go_sem,c0,c1,c2,c3]) rfl ⟨⟨0,0,0,0,false,rfl,by rw [HRO.out];rfl⟩,?_⟩
   exact ((((HBB.out.alloc HBB.out.size _).setCell (Nat.le_refl _) _).setCell (Nat.le_refl _) _).setCell (Nat.le_refl _) _).setCell (Nat.le_refl _) _
 | true =>
  ·have h5':((p.size:Int) != 5)=true:=by
    have h:=hno.resolve_left (by simp)
    simp
    omega
   clear hno
   go_enter Try.func81,Try.ntmps81
   go_wp2_with (go_at_call 44;refine (HS _).mono ?_;rintro e w2 ⟨rfl,hb2⟩;have HB2:=hid0 ((B4.new w (.int .i64 0) (.int .i64 0) (.int .i64 0) (.int .i64 0) _).below hb2);have HBB:=hid0 ((hb0 _).trans (hb2.mono (by simp)));clear hb2;have c0:=fun o=>(HB2.out.alloc o).c0;have c1:=fun o=>(HB2.out.alloc o).c1;have c2:=fun o=>(HB2.out.alloc o).c2;have c3:=fun o=>(HB2.out.alloc o).c3;have f0:=fun o=>(HB2.out.alloc o).f0;have f1:=fun o=>(HB2.out.alloc o).f1;have f2:=fun o=>(HB2.out.alloc o).f2;have f3:=fun o=>(HB2.out.alloc o).f3)
   refine bodyPost_ret (v:=.tuple #[rootV 0 0 0 0,.bool false]) (by simp [results,Try.results81,go_sem,c0,c1,c2,c3]) rfl ⟨⟨0,0,0,0,false,rfl,by rw [HRO.out];rfl⟩,?_⟩
   exact ((((HBB.out.alloc HBB.out.size _).setCell (Nat.le_refl _) _).setCell (Nat.le_refl _) _).setCell (Nat.le_refl _) _).setCell (Nat.le_refl _) _
theorem l5at_yes (s:ByteArray) (a n:Int) (w:World) (k l m:Int) (p:ByteArray) (hR:rpRes s n=some (k,l,m,p)) (HS:∀ wx,Calls Try.prog 44 #[.string s,.int .i64 n] wx fun e w'=>e=.returned (.tuple #[pageV k l m p,.bool true])/\Below wx.heap.size wx w') (h5:p.size=5):Calls Try.prog 81 #[.string s,.int .i64 a,.int .i64 n] w fun e w'=>(∃ t h f l b,e=.returned (.tuple #[rootV t h f l,.bool b])/\rootOf s a n=if b=true then some (t,h,f,l) else none)/\Below w.heap.size w w':=by
 have hb0:∀ o,Below w.heap.size w (w.alloc o):=fun o=>(Below.refl _ _).alloc (Nat.le_refl _) _
 obtain ⟨_,_,hm1,hm2,hl1,hl2,hpz⟩:=rpRes_some hR
 have HRO:Hid (rootOf s a n=if rtForm m (ptH p) (ptF p) l n=s/\m % 2=a then some (m,ptH p,ptF p,l) else none):=by
  show _=_
  unfold rootOf
  rw [hR]
  simp [h5]
 clear hR
 obtain ⟨e0,e1,g0,g1,g2,g3⟩:=pt_parts p h5
 have gb:=getb p 0 (by omega)
 obtain ⟨H,hH⟩:∃ H:Nat,H=(p.data.toList.getD 0 0).toNat:=⟨_,rfl⟩
 rw [<-hH] at e0 gb
 rw [<-e0] at g0 g1
 obtain ⟨F,HF⟩:∃ F,Hid (F=ptF p):=⟨_,hid0 rfl⟩
 rw [<-HF.out] at g2 g3 HRO e1
 rw [<-e0] at HRO
 have h5':(p.size:Int)=5:=by omega
 have z1:(p.extract 1 5).size<=4:=by simp only [ByteArray.size_extract];omega
 have hHw:IntKind.i64.wrap (H:Int)=(H:Int):=by simp [IntKind.wrap,IntKind.bits,IntKind.signed];omega
 have h0:0<p.size:=by omega
 obtain ⟨FM,HFM⟩:∃ FM,Hid (FM=rtForm m (H:Int) F l n):=⟨_,hid0 rfl⟩
 rw [<-HFM.out] at HRO
 have HRT:=fun wx=>rootpage_s_any m (H:Int) F l n wx
 rw [<-HFM.out] at HRT
 have E1:=hid0 e1
 clear hH e1 e0 HF
 go_enter Try.func81,Try.ntmps81
 go_wp2_with (go_at_call 44;refine (HS _).mono ?_;rintro e w2 ⟨rfl,hb2⟩;have HB2:=hid0 ((B4.new w (.int .i64 0) (.int .i64 0) (.int .i64 0) (.int .i64 0) _).below hb2);have HBB:=hid0 ((hb0 _).trans (hb2.mono (by simp)));clear hb2;have c0:=fun o=>(HB2.out.alloc o).c0;have c1:=fun o=>(HB2.out.alloc o).c1;have c2:=fun o=>(HB2.out.alloc o).c2;have c3:=fun o=>(HB2.out.alloc o).c3;have f0:=fun o=>(HB2.out.alloc o).f0;have f1:=fun o=>(HB2.out.alloc o).f1;have f2:=fun o=>(HB2.out.alloc o).f2;have f3:=fun o=>(HB2.out.alloc o).f3)
 have hwp:=(B4.new w2 (.int .i64 k) (.int .i64 l) (.int .i64 m) (.string p) 106)
 have hrb:=HB2.out.alloc (.cells #[.int .i64 k,.int .i64 l,.int .i64 m,.string p] 106)
 have hbb:=HBB.out.alloc HBB.out.size (.cells #[.int .i64 k,.int .i64 l,.int .i64 m,.string p] 106)
 have hBlt:w.heap.size<w2.heap.size:=HB2.out.lt
 obtain ⟨wp,HWP⟩:∃ wp,wp=w2.alloc (.cells #[.int .i64 k,.int .i64 l,.int .i64 m,.string p] 106):=⟨_,rfl⟩
 have hsz:wp.heap.size=w2.heap.size+1:=by rw [HWP];simp
 rw [<-HWP] at hwp hrb hbb ⊢
 clear c0 c1 c2 c3 f0 f1 f2 f3 HWP HB2 HBB
 have HT:Hid (∀ w',Below wp.heap.size wp w'->w'.cell? ⟨w2.heap.size,1,none⟩=some (.int .i64 l)/\w'.cell? ⟨w2.heap.size,2,none⟩=some (.int .i64 m)/\w'.cell? ⟨w2.heap.size,3,none⟩=some (.string p)/\Below wp.heap.size wp w'):=fun w' hb=>⟨(hwp.below hb).c1,(hwp.below hb).c2,(hwp.below hb).c3,hb⟩
 have HRB:=hid0 hrb
 have HBB:=hid0 hbb
 clear hrb hbb hwp
 refine (fun HG:Wr ?G=>?main) ⟨?pf⟩
 case main =>
  go_region_held3 (fun w'=>w'.cell? ⟨w2.heap.size,1,none⟩=some (.int .i64 l)/\w'.cell? ⟨w2.heap.size,2,none⟩=some (.int .i64 m)/\w'.cell? ⟨w2.heap.size,3,none⟩=some (.string p)/\Below wp.heap.size wp w')
   (first | assumption | exact HT.out _ ((Below.refl _ _).drew) | exact HT.out _ (((Below.refl _ _).drew).alloc (Nat.le_refl _) _) | exact HT.out _ (((Below.refl _ _).alloc (Nat.le_refl _) _).drew) | exact HT.out _ ((Below.refl _ _).alloc (Nat.le_refl _) _))
   (first | (go_at_call 61;refine (lread' (p.extract 1 5) F _ z1 E1.out.symm).mono ?_;rintro e w6 ⟨rfl,rfl⟩))
  all_goals exact HG.out
 have hrb1:=(B4.new wp (.int .i64 m) (.int .i64 (H:Int)) (.int .i64 F) (.int .i64 l) 74).drew
 have hbs:Below wp.heap.size wp (wp.alloc (.cells #[.int .i64 m,.int .i64 (H:Int),.int .i64 F,.int .i64 l] 74)).drew:=((Below.refl _ _).alloc (Nat.le_refl _) _).drew
 have hsz2:(wp.alloc (.cells #[.int .i64 m,.int .i64 (H:Int),.int .i64 F,.int .i64 l] 74)).drew.heap.size=w2.heap.size+2:=by simp [hsz]
 obtain ⟨wq,HWQ⟩:∃ wq,wq=(wp.alloc (.cells #[.int .i64 m,.int .i64 (H:Int),.int .i64 F,.int .i64 l] 74)).drew:=⟨_,rfl⟩
 rw [hsz] at hrb1
 rw [<-HWQ] at hrb1 hbs hsz2 ⊢
 clear HWQ HT
 have HRB1:=hid0 (HRB.out.below hbs)
 have HBB1:=hid0 (HBB.out.trans (hbs.mono (by have:=HBB.out.size;omega)))
 clear hbs HRB HBB
 have HT:Hid (∀ w',Below wq.heap.size wq w'->w'.cell? ⟨w2.heap.size+1,0,none⟩=some (.int .i64 m)/\w'.cell? ⟨w2.heap.size+1,1,none⟩=some (.int .i64 (H:Int))/\w'.cell? ⟨w2.heap.size+1,2,none⟩=some (.int .i64 F)/\w'.cell? ⟨w2.heap.size+1,3,none⟩=some (.int .i64 l)/\Below wq.heap.size wq w'):=fun w' hb=>⟨(hrb1.below hb).c0,(hrb1.below hb).c1,(hrb1.below hb).c2,(hrb1.below hb).c3,hb⟩
 have HQ1:=hid0 hrb1
 have q0:=hrb1.c0
 have q1:=hrb1.c1
 have q2:=hrb1.c2
 have q3:=hrb1.c3
 clear hrb1
 have hne1:¬ (w.heap.size=w2.heap.size+1):=by have:=hBlt;omega
 have hne2:¬ (w2.heap.size+1=w.heap.size):=by have:=hBlt;omega
 have hRc:=HRB1.out
 have c0:=hRc.c0
 have c1:=hRc.c1
 have c2:=hRc.c2
 have c3:=hRc.c3
 have f0:=hRc.f0
 have f1:=hRc.f1
 have f2:=hRc.f2
 have f3:=hRc.f3
 clear hRc
 by_cases hFs:FM=s
 ·by_cases ha:m % 2=a
  ·have ht:m.tmod 2=a:=by rw [Int.tmod_eq_emod_of_nonneg (by omega)];exact ha
   have HRO2:Hid (rootOf s a n=some (m,(H:Int),F,l)):=by show _=_;rw [HRO.out,if_pos ⟨hFs,ha⟩]
   have HFS:=hid0 hFs
   clear hFs
   rw [HFS.out] at HRT
   go_wp2_with fail
   go_region_law (first | (refine step_call (by rfl) 84 #[rootV m (H:Int) F l,.int .i64 n] (by go_simp) (HRT _) ?_;rintro e w7 ⟨rfl,hb7⟩;refine ⟨_,rfl,?_⟩;obtain ⟨r0,r1,r2,r3,_⟩:=HT.out _ (((Below.refl _ _).drew).trans hb7);have hR7:=HRB1.out.drew.below hb7;have HB7:=hid0 (HBB1.out.drew.trans (hb7.mono HBB1.out.drew.size));clear hb7;have c0:=hR7.c0;have c1:=hR7.c1;have c2:=hR7.c2;have c3:=hR7.c3;have f0:=hR7.f0;have f1:=hR7.f1;have f2:=hR7.f2;have f3:=hR7.f3;clear hR7))
   all_goals go_wp2
   all_goals refine bodyPost_ret (v:=.tuple #[rootV m (H:Int) F l,.bool true]) (by simp [results,Try.results81,go_sem,c0,c1,c2,c3,r0,r1,r2,r3,ht]) rfl ⟨⟨m,(H:Int),F,l,true,rfl,by rw [HRO2.out];rfl⟩,?_⟩
   all_goals exact (((HB7.out.setCell (Nat.le_refl _) _).setCell (Nat.le_refl _) _).setCell (Nat.le_refl _) _).setCell (Nat.le_refl _) _
  ·have ht:¬ m.tmod 2=a:=by rw [Int.tmod_eq_emod_of_nonneg (by omega)];exact ha
   have HRO2:Hid (rootOf s a n=none):=by show _=_;rw [HRO.out,if_neg (fun h=>ha h.2)]
   have HFS:=hid0 hFs
   clear hFs
   rw [HFS.out] at HRT
   go_wp2_with fail
   go_region_law (first | (refine step_call (by rfl) 84 #[rootV m (H:Int) F l,.int .i64 n] (by go_simp) (HRT _) ?_;rintro e w7 ⟨rfl,hb7⟩;refine ⟨_,rfl,?_⟩;obtain ⟨r0,r1,r2,r3,_⟩:=HT.out _ (((Below.refl _ _).drew).trans hb7);have hR7:=HRB1.out.drew.below hb7;have HB7:=hid0 (HBB1.out.drew.trans (hb7.mono HBB1.out.drew.size));clear hb7;have c0:=hR7.c0;have c1:=hR7.c1;have c2:=hR7.c2;have c3:=hR7.c3;have f0:=hR7.f0;have f1:=hR7.f1;have f2:=hR7.f2;have f3:=hR7.f3;clear hR7))
   all_goals go_wp2
   all_goals refine bodyPost_ret (v:=.tuple #[rootV m (H:Int) F l,.bool false]) (by simp [results,Try.results81,go_sem,c0,c1,c2,c3,r0,r1,r2,r3,ht]) rfl ⟨⟨m,(H:Int),F,l,false,rfl,by rw [HRO2.out];rfl⟩,?_⟩
   all_goals exact (((HB7.out.setCell (Nat.le_refl _) _).setCell (Nat.le_refl _) _).setCell (Nat.le_refl _) _).setCell (Nat.le_refl _) _
 ·have HRO2:Hid (rootOf s a n=none):=by show _=_;rw [HRO.out,if_neg (fun h=>hFs h.1)]
  have hG:(FM.toList == s.toList)=false:=by simp only [beq_eq_false_iff_ne];intro hh;rw [ByteArray.toList_eq,ByteArray.toList_eq] at hh;exact hFs (ByteArray.ext (Array.ext' hh))
  clear hFs
  clear c0 c1 c2 c3 f0 f1 f2 f3
  go_wp2_with fail
  refine wp_region_held_drew (S:=fun w'=>w'.cell? ⟨w2.heap.size+1,0,none⟩=some (.int .i64 m)/\w'.cell? ⟨w2.heap.size+1,1,none⟩=some (.int .i64 (H:Int))/\w'.cell? ⟨w2.heap.size+1,2,none⟩=some (.int .i64 F)/\w'.cell? ⟨w2.heap.size+1,3,none⟩=some (.int .i64 l)) (by kernel_rfl) ⟨q0,q1,q2,q3⟩ (fun hHe=>?_)
  refine TY 0 (rootV m (H:Int) F l) rfl hHe ?_
  simp only [Act.put,List.setIfInBounds_toArray,List.set_cons_succ,List.set_cons_zero]
  refine TY 1 (rootV m (H:Int) F l) rfl hHe ?_
  simp only [Act.put,List.setIfInBounds_toArray,List.set_cons_succ,List.set_cons_zero]
  refine TY 2 (.int .i64 n) rfl hHe ?_
  simp only [Act.put,List.setIfInBounds_toArray,List.set_cons_succ,List.set_cons_zero]
  refine TY 4 (.string s) rfl hHe ?_
  simp only [Act.put,List.setIfInBounds_toArray,List.set_cons_succ,List.set_cons_zero]
  refine RD 3 rfl (fun K hK=>?_)
  refine step_call (by rfl) 84 #[rootV m (H:Int) F l,.int .i64 n] (by go_simp) (HRT _) ?_
  rintro e w7 ⟨rfl,hb7⟩
  refine ⟨_,rfl,?_⟩
  have hR7:=HRB1.out.drew.below hb7
  have hQ7:=HQ1.out.drew.below hb7
  have HB7:=hid0 (HBB1.out.drew.trans (hb7.mono HBB1.out.drew.size))
  clear hb7
  refine hK.out _ _ ⟨hQ7.c0,hQ7.c1,hQ7.c2,hQ7.c3⟩ (fun _=>?_)
  clear hK K hHe
  rename_i hHe
  simp only [Act.put,List.setIfInBounds_toArray,List.set_cons_succ,List.set_cons_zero]
  refine TY 5 (.bool false) rfl hHe ?_
  simp only [Act.put,List.setIfInBounds_toArray,List.set_cons_succ,List.set_cons_zero]
  refine TY 6 (.bool false) rfl hHe ?_
  simp only [Act.put,List.setIfInBounds_toArray,List.set_cons_succ,List.set_cons_zero]
  refine TK 7 (undef) rfl (Or.inr ⟨by kernel_rfl,rfl⟩) hHe ?_
  simp only [Act.put,List.setIfInBounds_toArray,List.set_cons_succ,List.set_cons_zero]
  refine TK 8 (undef) rfl (Or.inr ⟨by kernel_rfl,rfl⟩) hHe ?_
  simp only [Act.put,List.setIfInBounds_toArray,List.set_cons_succ,List.set_cons_zero]
  refine TK 9 (undef) rfl (Or.inr ⟨by kernel_rfl,rfl⟩) hHe ?_
  simp only [Act.put,List.setIfInBounds_toArray,List.set_cons_succ,List.set_cons_zero]
  refine TK 10 (undef) rfl (Or.inr ⟨by kernel_rfl,rfl⟩) hHe ?_
  simp only [Act.put,List.setIfInBounds_toArray,List.set_cons_succ,List.set_cons_zero]
  refine TK 11 (undef) rfl (Or.inr ⟨by kernel_rfl,rfl⟩) hHe ?_
  simp only [Act.put,List.setIfInBounds_toArray,List.set_cons_succ,List.set_cons_zero]
  refine TY 12 (.bool false) rfl hHe ?_
  simp only [Act.put,List.setIfInBounds_toArray,List.set_cons_succ,List.set_cons_zero]
  refine RD 13 rfl (fun K hK=>?_)
  rw [if_pos (by kernel_rfl)]
  have c0:=hR7.c0
  have c1:=hR7.c1
  have c2:=hR7.c2
  have c3:=hR7.c3
  have f0:=hR7.f0
  have f1:=hR7.f1
  have f2:=hR7.f2
  have f3:=hR7.f3
  unfold Oper.wp
  go_simp
  have far:∀ i,((((w7.setCell ⟨w.heap.size,0,none⟩ (.int .i64 m)).setCell ⟨w.heap.size,1,none⟩ (.int .i64 (H:Int))).setCell ⟨w.heap.size,2,none⟩ (.int .i64 F)).setCell ⟨w.heap.size,3,none⟩ (.int .i64 l)).cell? ⟨w2.heap.size+1,i,none⟩=w7.cell? ⟨w2.heap.size+1,i,none⟩:=fun i=>by
   rw [World.cell?_setCell_far _ _ _ _ hne1,World.cell?_setCell_far _ _ _ _ hne1,World.cell?_setCell_far _ _ _ _ hne1,World.cell?_setCell_far _ _ _ _ hne1]
  refine hK.out _ _ ⟨(far _).trans hQ7.c0,(far _).trans hQ7.c1,(far _).trans hQ7.c2,(far _).trans hQ7.c3⟩ (fun _=>?_)
  clear hK K hHe far
  rename_i hHe
  refine TY 14 (.bool false) rfl hHe ?_
  simp only [Act.put,List.getElem_toArray,List.getElem_cons_succ,List.getElem_cons_zero,List.setIfInBounds_toArray,List.set_cons_succ,List.set_cons_zero]
  refine DN ?_
  go_wp2
  refine bodyPost_ret (v:=.tuple #[rootV m (H:Int) F l,.bool false]) (by simp [results,Try.results81,go_sem,c0,c1,c2,c3]) rfl ⟨⟨m,(H:Int),F,l,false,rfl,by rw [HRO2.out];rfl⟩,?_⟩
  exact (((HB7.out.setCell (Nat.le_refl _) _).setCell (Nat.le_refl _) _).setCell (Nat.le_refl _) _).setCell (Nat.le_refl _) _
theorem l5at_s (s:ByteArray) (a n:Int) (w:World) (hs:s.size<=1048576):Calls Try.prog 81 #[.string s,.int .i64 a,.int .i64 n] w fun e w'=>(∃ t h f l b,e=.returned (.tuple #[rootV t h f l,.bool b])/\rootOf s a n=if b=true then some (t,h,f,l) else none)/\Below w.heap.size w w':=by
 have HS:=fun wx=>readpage_s_any s n wx hs
 cases hR:rpRes s n with
 | none =>
  rw [hR] at HS
  exact l5at_no s a n w 0 0 0 ⟨#[]⟩ false HS (by decide) (.inl rfl) (by show _=_;unfold rootOf;rw [hR])
 | some x =>
  obtain ⟨k,l,m,p⟩:=x
  rw [hR] at HS
  by_cases h5:p.size=5
  ·exact l5at_yes s a n w k l m p hR HS h5
  ·exact l5at_no s a n w k l m p true HS (rpRes_some hR).2.2.2.2.2.2 (.inr h5) (by show _=_;unfold rootOf;rw [hR];simp [h5])
theorem B4.set4 {w:World} {B:Nat} {v0 v1 v2 v3:Value} (h:B4 w B v0 v1 v2 v3) (u0 u1 u2 u3:Value):B4 ((((w.setCell ⟨B,0,none⟩ u0).setCell ⟨B,1,none⟩ u1).setCell ⟨B,2,none⟩ u2).setCell ⟨B,3,none⟩ u3) B u0 u1 u2 u3:=by
 have c0:=h.c0
 have c1:=h.c1
 have c2:=h.c2
 have c3:=h.c3
 refine ⟨by simp only [World.size_setCell];exact h.lt,?_,?_,?_,?_,?_,?_,?_,?_⟩
 ·go_simp
 ·go_simp
 ·go_simp
 ·go_simp
 ·simp only [World.frozen?_setCell];exact h.f0
 ·simp only [World.frozen?_setCell];exact h.f1
 ·simp only [World.frozen?_setCell];exact h.f2
 ·simp only [World.frozen?_setCell];exact h.f3
def frD (ss:List ByteArray) (ws:List (Int×ByteArray)) (n:Int):RtT:=if diskOk ss ws=true/\1<=n/\n<=8 then frOf ((syncs ws ss).getD 0 ByteArray.empty) ((syncs ws ss).getD 1 ByteArray.empty) n else rtZ
@[reducible] def rtW (x:RtT):Value:=rootV x.1 x.2.1 x.2.2.1 x.2.2.2
theorem syncs_le:∀ (ws:List (Int×ByteArray)) (ss:List ByteArray),(∀ s∈ss,s.size<=1048576)->(∀ x∈ws,x.2.size<=1048576)->∀ k,((syncs ws ss).getD k ByteArray.empty).size<=1048576
 | [],ss,h,_,k=>by
  show (ss.getD k ByteArray.empty).size<=_
  by_cases hk:k<ss.length
  ·have e:ss.getD k ByteArray.empty=ss[k]:=by simp [List.getD,hk]
   rw [e];exact h _ (List.getElem_mem hk)
  ·have e:ss.getD k ByteArray.empty=ByteArray.empty:=by simp [List.getD,hk]
   rw [e];decide
 | x::r,ss,h,h',k=>syncs_le r _ (fun s hs=>by
   rcases List.mem_or_eq_of_mem_set hs with h3 | h3
   ·exact h s h3
   ·rw [h3];exact h' x (List.mem_cons_self ..)) (fun y hy=>h' y (List.mem_cons_of_mem _ hy)) k
theorem fr_s_yes (a:Option Addr) (ss:List ByteArray) (c:Nat) (a':Option Addr) (ws:List (Int×ByteArray)) (c':Nat) (n:Int) (w:World) (h:Strs w a ss) (h':Wrs w a' ws) (hl:ss.length<=1048576) (hl':ws.length<=1048576) (hs:∀ s∈ss,s.size<=1048576) (hs':∀ x∈ws,x.2.size<=1048576) (hok:diskOk ss ws=true) (hn:1<=n/\n<=8) :
  Calls Try.prog 77 #[diskV a ss.length c a' ws.length c',.int .i64 n] w fun e w'=>e=.returned (rtW (frD ss ws n))/\Below w.heap.size w w':=by
 have hb0:∀ o1 o2,Below w.heap.size w ((w.alloc o1).alloc o2):=fun o1 o2=>((Below.refl _ _).alloc (Nat.le_refl _) _).alloc (by simp) _
 have hd:decide (1<=n/\n<=8)=true:=decide_eq_true hn
 obtain ⟨RES,HRES⟩:∃ RES,Hid (RES=frD ss ws n):=⟨_,hid rfl⟩
 rw [<-HRES.out]
 obtain ⟨⟨hn1,hn2,hn3⟩,h64,hw⟩:=diskOk_of hok
 go_enter Try.func77,Try.ntmps77
 go_wp2_with fail
 refine (valid_s a ss c a' ws c' _ (h.below (hb0 _ _)) (h'.below (hb0 _ _)) hl hl' hs hs').mono ?_
 rw [hok]
 rintro e w1 ⟨rfl,hb1⟩
 have HX:=hid ((((Cx.new w (.slice a ss.length c) (.slice a' ws.length c') 26)).below (below_new _ (.cells #[.int .i64 0,.int .i64 0,.int .i64 0,.int .i64 0] 74))).below hb1)
 have HR1:=hid ((B4.new (w.alloc (.cells #[.slice a ss.length c,.slice a' ws.length c'] 26)) (.int .i64 0) (.int .i64 0) (.int .i64 0) (.int .i64 0) 74).below hb1)
 have HB1:=hid ((hb0 (.cells #[.slice a ss.length c,.slice a' ws.length c'] 26) (.cells #[.int .i64 0,.int .i64 0,.int .i64 0,.int .i64 0] 74)).trans (hb1.mono (by simp<;>omega)))
 clear hb1
 have q0:=HX.out.c0
 have q1:=HX.out.c1
 go_wp2_with (first | (go_at_call 50;refine (width_s _ _).mono ?_;rw [hd];rintro e wz ⟨rfl,hwz⟩;rw [hwz];clear hwz wz))
 refine (copy_s a ss c a' ws c' _ (h.below HB1.out) (h'.below HB1.out) hn2 hn3).mono ?_
 rintro e w2 ⟨g,c1,g',c1',rfl,hod,hg,hg',hb2⟩
 have HB2:=hid (Below.then HB1.out (Nat.le_refl _) hb2)
 have HR2:=hid (HR1.out.below hb2)
 have hw12:=hb2.size
 have hlen:ss.length≠0:=by omega
 have hg1:w1.heap.size<=g:=hg g (by unfold blk;rw [if_neg hlen];rfl)
 have hrs:Row w2 g (ss.map Value.string):=by
  rcases hod.s with e | ⟨b,e,hr⟩
  ·exact absurd (congrArg List.length e) (by rw [List.length_map,List.length_nil];omega)
  ·cases e;exact hr
 have hne:wcells ws≠[]->g'≠g:=fun hc=>by
  have hl:ws.length≠0:=fun e=>hc (by rw [List.eq_nil_of_length_eq_zero e];rfl)
  rcases hod.ne with e | e | e
  ·unfold blk at e;rw [if_neg hlen] at e;exact absurd e (by simp)
  ·unfold blk at e;rw [if_neg hl] at e;exact absurd e (by simp)
  ·unfold blk at e;rw [if_neg hlen,if_neg hl] at e;exact fun e2=>e (by rw [e2])
 have HY:=hid (sync_s g g' ss c1 ws c1' w2 hrs hod.p hne hn2 hn3 (fun x hx=>by have:=of_decide_eq_true (hw x hx);omega))
 have hwg:w.heap.size<=g:=Nat.le_trans HB1.out.size hg1
 have hRlt:=HR1.out.lt
 clear q0 q1 hod hg hg' hb2 hrs hne
 go_wp2_with fail
 refine HY.out.mono ?_
 rintro e w3 ⟨x,rfl,hx1,hx2,hr3,hgr⟩
 have HB3:=hid (HB2.out.trans (grown_below hgr HB2.out.size (fun k hk=>by cases hk;exact hwg)))
 have HR3:=hid (HR2.out.past (N:=w1.heap.size) hRlt (grown_below hgr hw12 (fun k hk=>by cases hk;exact hg1)))
 have hgl3:g<w3.heap.size:=hr3.lt
 have hRl3:=HR3.out.lt
 rw [World.size_alloc] at HR3 hRl3
 have hwl3:w.heap.size<=w3.heap.size:=HB3.out.size
 obtain ⟨S,HS⟩:∃ S:Nat->ByteArray,Hid (S=fun k=>(syncs ws ss).getD k ByteArray.empty):=⟨_,hid rfl⟩
 have HSZ:Hid (∀ k,(S k).size<=1048576):=fun k=>by
  rw [HS.out]
  exact syncs_le ws ss hs hs' k
 have HRW:Hid (∀ k,k<ss.length->w3.cell? ⟨g,k,none⟩=some (.string (S k))):=fun k hk=>by
  rw [HS.out]
  exact hr3.cell k _ (by simp [List.getD,syncs_length,hk])
 have HF:Hid (RES=rtMax (rtMax (0,0,1,0) (rootOf (S 0) 0 n)) (rootOf (S 1) 1 n)):=by
  show _=_
  rw [HRES.out,HS.out]
  unfold frD
  rw [if_pos ⟨hok,hn⟩]
  rfl
 clear HY HR2 HR1 HB2 HB1 hr3 hgr HX
 go_wp2_with fail
 have hbx:=((B4.new (w3.alloc (.cells #[.slice (some ⟨g,0,none⟩) ss.length c1,.slice (some ⟨x,0,none⟩) 0 0] 26)) (.int .i64 0) (.int .i64 0) (.int .i64 1) (.int .i64 0) 74))
 have hbw:Below w3.heap.size w3 ((w3.alloc (.cells #[.slice (some ⟨g,0,none⟩) ss.length c1,.slice (some ⟨x,0,none⟩) 0 0] 26)).alloc (.cells #[.int .i64 0,.int .i64 0,.int .i64 1,.int .i64 0] 74)):=((Below.refl _ _).alloc (Nat.le_refl _) _).alloc (by simp) _
 have hx0:((w3.alloc (.cells #[.slice (some ⟨g,0,none⟩) ss.length c1,.slice (some ⟨x,0,none⟩) 0 0] 26)).alloc (.cells #[.int .i64 0,.int .i64 0,.int .i64 1,.int .i64 0] 74)).cell? ⟨w3.heap.size,0,none⟩=some (.slice (some ⟨g,0,none⟩) ss.length c1):=by go_simp
 have hsb:((w3.alloc (.cells #[.slice (some ⟨g,0,none⟩) ss.length c1,.slice (some ⟨x,0,none⟩) 0 0] 26)).alloc (.cells #[.int .i64 0,.int .i64 0,.int .i64 1,.int .i64 0] 74)).heap.size=w3.heap.size+2:=by simp
 obtain ⟨wb,HWB⟩:∃ wb,wb=((w3.alloc (.cells #[.slice (some ⟨g,0,none⟩) ss.length c1,.slice (some ⟨x,0,none⟩) 0 0] 26)).alloc (.cells #[.int .i64 0,.int .i64 0,.int .i64 1,.int .i64 0] 74)):=⟨_,rfl⟩
 rw [World.size_alloc] at hbx
 rw [<-HWB] at hbx hbw hx0 hsb ⊢
 have HX0:=hid hx0
 have HBX:=hid hbx
 have HRWB:Hid (∀ k,k<ss.length->wb.cell? ⟨g,k,none⟩=some (.string (S k))):=fun k hk=>(hbw.cell (p:=⟨g,k,none⟩) hgl3).trans (HRW.out k hk)
 have HRB:=hid (HR3.out.below hbw)
 have HBB:=hid (HB3.out.trans (hbw.mono HB3.out.size))
 clear HWB hbx hx0 hbw HRW HR3 HB3
 go_loopw [7] (fun i wr=>∃ (k:Nat) (b:RtT),k<=2/\i=.int .i64 (k:Int)/\Hid ((k=0->b=(0,0,1,0))/\(k=1->b=rtMax (0,0,1,0) (rootOf (S 0) 0 n))/\(k=2->b=RES))/\Below (w3.heap.size+1) wb wr/\B4 wr (w3.heap.size+1) (.int .i64 b.1) (.int .i64 b.2.1) (.int .i64 b.2.2.1) (.int .i64 b.2.2.2)) (fun i _=>2-(intOf i).toNat)
 case atStart=>exact ⟨0,(0,0,1,0),by omega,rfl,⟨fun _=>rfl,fun h=>absurd h (by decide),fun h=>absurd h (by decide)⟩,Below.refl _ _,HBX.out⟩
 case round =>
  obtain ⟨k,⟨b0,b1,b2,b3⟩,hk,rfl,HBk,hbel,hbest⟩:=hrel
  have HBEL:=hid hbel
  have HBST:=hid hbest
  by_cases hlt:k<2
  ·have hkl:k<ss.length:=by omega
   have hkl':(k:Int)<(ss.length:Int):=by omega
   have hlt':(k:Int)<2:=by omega
   have x0:wr.cell? ⟨w3.heap.size,0,none⟩=some (.slice (some ⟨g,0,none⟩) ss.length c1):=(hbel.cell (p:=⟨w3.heap.size,0,none⟩) (by show w3.heap.size<_;omega)).trans HX0.out
   have xk:wr.cell? ⟨g,k,none⟩=some (.string (S k)):=(hbel.cell (p:=⟨g,k,none⟩) (by show g<_;omega)).trans (HRWB.out k hkl)
   clear hbel hbest
   have HNX:Hid (∀ b':RtT,b'=rtMax (b0,b1,b2,b3) (rootOf (S k) (k:Int) n)->(k+1=0->b'=(0,0,1,0))/\(k+1=1->b'=rtMax (0,0,1,0) (rootOf (S 0) 0 n))/\(k+1=2->b'=RES)):=fun b' hb'=>by
    refine ⟨fun h=>absurd h (by omega),fun h=>?_,fun h=>?_⟩
    ·have hk0:k=0:=by omega
     subst hk0
     rw [hb',HBk.out.1 rfl]
     rfl
    ·have hk1:k=1:=by omega
     subst hk1
     rw [hb',HBk.out.2.1 rfl,HF.out]
     rfl
   go_wp2_with fail
   refine (l5at_s (S k) (k:Int) n _ (HSZ.out k)).mono ?_
   rintro e w5 ⟨⟨t,h9,f,l,bb,rfl,hro⟩,hb5⟩
   have HB5:=hid (HBEL.out.trans (hb5.mono (by have:=HBEL.out.size;omega)))
   have HT5:=hid (HBST.out.below hb5)
   have HRO:=hid hro
   clear hro hb5 HBEL HBST x0 xk
   have hs5:w3.heap.size+2<=w5.heap.size:=by have:=HB5.out.size;omega
   have c0:=fun o=>(HT5.out.alloc o).c0
   have c1:=fun o=>(HT5.out.alloc o).c1
   have c2:=fun o=>(HT5.out.alloc o).c2
   have c3:=fun o=>(HT5.out.alloc o).c3
   have f0:=fun o=>(HT5.out.alloc o).f0
   have f1:=fun o=>(HT5.out.alloc o).f1
   have f2:=fun o=>(HT5.out.alloc o).f2
   have f3:=fun o=>(HT5.out.alloc o).f3
   have HBA:=hid (fun o=>HB5.out.alloc (by omega) o)
   cases bb with
   | false =>
    have hm:=HNX.out (b0,b1,b2,b3) (by rw [HRO.out];rfl)
    have HM:=hid hm
    clear hm
    go_wp2
    go_roundw
    case rel=>exact ⟨k+1,(b0,b1,b2,b3),by omega,by go_num,HM.out,HBA.out _,HT5.out.alloc _⟩
    case measure=>simp [intOf];omega
   | true =>
    by_cases hgt:b0<t
    ·have hm:=HNX.out (t,h9,f,l) (by rw [HRO.out];simp [rtMax,hgt])
     have HM:=hid hm
     clear hm
     go_wp2
     go_roundw
     case rel=>exact ⟨k+1,(t,h9,f,l),by omega,by go_num,HM.out,((((HBA.out _).setCell (Nat.le_refl _) _).setCell (Nat.le_refl _) _).setCell (Nat.le_refl _) _).setCell (Nat.le_refl _) _,(HT5.out.alloc _).set4 _ _ _ _⟩
     case measure=>simp [intOf];omega
    ·have hm:=HNX.out (b0,b1,b2,b3) (by rw [HRO.out];simp [rtMax,hgt])
     have HM:=hid hm
     clear hm
     go_wp2
     go_roundw
     case rel=>exact ⟨k+1,(b0,b1,b2,b3),by omega,by go_num,HM.out,HBA.out _,HT5.out.alloc _⟩
     case measure=>simp [intOf];omega
  ·have hk2:k=2:=by omega
   subst hk2
   have HE:Hid (RES=(b0,b1,b2,b3)):=(HBk.out.2.2 rfl).symm
   have hr:=HRB.out.past (N:=w3.heap.size+1) (by omega) hbel
   have c0:=hr.c0
   have c1:=hr.c1
   have c2:=hr.c2
   have c3:=hr.c3
   have f0:=hr.f0
   have f1:=hr.f1
   have f2:=hr.f2
   have f3:=hr.f3
   have d0:=hbest.c0
   have d1:=hbest.c1
   have d2:=hbest.c2
   have d3:=hbest.c3
   clear hr hbel hbest
   go_wp2
   refine bodyPost_ret (v:=rootV b0 b1 b2 b3) (by simp [results,Try.results77,go_sem,c0,c1,c2,c3]) rfl ⟨by rw [HE.out],?_⟩
   have hbz:=HBB.out.trans (HBEL.out.mono (by omega))
   exact (((hbz.setCell (by show _<=w.heap.size+1;omega) _).setCell (by show _<=w.heap.size+1;omega) _).setCell (by show _<=w.heap.size+1;omega) _).setCell (by show _<=w.heap.size+1;omega) _
theorem fr_s_no (a:Option Addr) (ss:List ByteArray) (c:Nat) (a':Option Addr) (ws:List (Int×ByteArray)) (c':Nat) (n:Int) (w:World) (h:Strs w a ss) (h':Wrs w a' ws) (hl:ss.length<=1048576) (hl':ws.length<=1048576) (hs:∀ s∈ss,s.size<=1048576) (hs':∀ x∈ws,x.2.size<=1048576) (hno:¬ (diskOk ss ws=true/\1<=n/\n<=8)) :
  Calls Try.prog 77 #[diskV a ss.length c a' ws.length c',.int .i64 n] w fun e w'=>e=.returned (rootV 0 0 0 0)/\Below w.heap.size w w':=by
 have hb0:∀ o1 o2,Below w.heap.size w ((w.alloc o1).alloc o2):=fun o1 o2=>((Below.refl _ _).alloc (Nat.le_refl _) _).alloc (by simp) _
 cases hok:diskOk ss ws with
 | false =>
  clear hno
  go_enter Try.func77,Try.ntmps77
  go_wp2_with fail
  refine (valid_s a ss c a' ws c' _ (h.below (hb0 _ _)) (h'.below (hb0 _ _)) hl hl' hs hs').mono ?_
  rw [hok]
  rintro e w1 ⟨rfl,hb1⟩
  have hr:=((B4.new (w.alloc (.cells #[.slice a ss.length c,.slice a' ws.length c'] 26)) (.int .i64 0) (.int .i64 0) (.int .i64 0) (.int .i64 0) 74).below hb1)
  rw [World.size_alloc] at hr
  have HB1:=hid ((hb0 (.cells #[.slice a ss.length c,.slice a' ws.length c'] 26) (.cells #[.int .i64 0,.int .i64 0,.int .i64 0,.int .i64 0] 74)).trans (hb1.mono (by simp<;>omega)))
  clear hb1
  have c0:=hr.c0
  have c1:=hr.c1
  have c2:=hr.c2
  have c3:=hr.c3
  have f0:=hr.f0
  have f1:=hr.f1
  have f2:=hr.f2
  have f3:=hr.f3
  clear hr
  go_wp2
  refine bodyPost_ret (v:=rootV 0 0 0 0) (by simp [results,Try.results77,go_sem,c0,c1,c2,c3]) rfl ⟨rfl,?_⟩
  exact (((HB1.out.setCell (by show _<=w.heap.size+1;omega) _).setCell (by show _<=w.heap.size+1;omega) _).setCell (by show _<=w.heap.size+1;omega) _).setCell (by show _<=w.heap.size+1;omega) _
 | true =>
  have hd:decide (1<=n/\n<=8)=false:=decide_eq_false (fun x=>hno ⟨hok,x⟩)
  clear hno
  go_enter Try.func77,Try.ntmps77
  go_wp2_with fail
  refine (valid_s a ss c a' ws c' _ (h.below (hb0 _ _)) (h'.below (hb0 _ _)) hl hl' hs hs').mono ?_
  rw [hok]
  rintro e w1 ⟨rfl,hb1⟩
  have hr:=((B4.new (w.alloc (.cells #[.slice a ss.length c,.slice a' ws.length c'] 26)) (.int .i64 0) (.int .i64 0) (.int .i64 0) (.int .i64 0) 74).below hb1)
  rw [World.size_alloc] at hr
  have HB1:=hid ((hb0 (.cells #[.slice a ss.length c,.slice a' ws.length c'] 26) (.cells #[.int .i64 0,.int .i64 0,.int .i64 0,.int .i64 0] 74)).trans (hb1.mono (by simp<;>omega)))
  clear hb1
  have c0:=hr.c0
  have c1:=hr.c1
  have c2:=hr.c2
  have c3:=hr.c3
  have f0:=hr.f0
  have f1:=hr.f1
  have f2:=hr.f2
  have f3:=hr.f3
  clear hr
  go_wp2_with (first | (go_at_call 50;refine (width_s _ _).mono ?_;rw [hd];rintro e wz ⟨rfl,hwz⟩;rw [hwz];clear hwz wz))
  refine bodyPost_ret (v:=rootV 0 0 0 0) (by simp [results,Try.results77,go_sem,c0,c1,c2,c3]) rfl ⟨rfl,?_⟩
  exact (((HB1.out.setCell (by show _<=w.heap.size+1;omega) _).setCell (by show _<=w.heap.size+1;omega) _).setCell (by show _<=w.heap.size+1;omega) _).setCell (by show _<=w.heap.size+1;omega) _
theorem fr_s (a:Option Addr) (ss:List ByteArray) (c:Nat) (a':Option Addr) (ws:List (Int×ByteArray)) (c':Nat) (n:Int) (w:World) (h:Strs w a ss) (h':Wrs w a' ws) (hl:ss.length<=1048576) (hl':ws.length<=1048576) (hs:∀ s∈ss,s.size<=1048576) (hs':∀ x∈ws,x.2.size<=1048576) :
  Calls Try.prog 77 #[diskV a ss.length c a' ws.length c',.int .i64 n] w fun e w'=>e=.returned (rtW (frD ss ws n))/\Below w.heap.size w w':=by
 by_cases hy:diskOk ss ws=true/\1<=n/\n<=8
 ·exact fr_s_yes a ss c a' ws c' n w h h' hl hl' hs hs' hy.1 hy.2
 ·have e:frD ss ws n=rtZ:=by unfold frD;rw [if_neg hy]
  rw [e]
  exact fr_s_no a ss c a' ws c' n w h h' hl hl' hs hs' hy
end Go.Proofs.Ythdilmkbnpmdaaa
