import Derived.WalkKit
import Derived.ProofKit
import Derived.OpenShut
import Derived.ShutString
import Derived.ChangeOld
import Derived.ChangeSlices
import Derived.Below
import Derived.Lib.SmallJoins
import Derived.OpenVars
import Derived.LaidLaws
import Derived.LaidHandle
import Derived.Deep.DeepHandedRow
import Derived.Test.YtcoegjnjjdndjaaGreatDoorCards
import Derived.Test.YtcoegjnjjdndjaaGreatDoorTie
import Derived.Test.YtcoegjnjjdndjaaGreatDoorPrG44
import Derived.Test.YtcoegjnjjdndjaaGreatDoorPrFoA
import Derived.Test.YtcoegjnjjdndjaaGreatDoorPrG27
import Derived.Test.YtcoegjnjjdndjaaGreatDoorPrG38
import Derived.Test.YtcoegjnjjdndjaaGreatDoorPrWoE
import Derived.Test.YtcoegjnjjdndjaaGreatDoorPrWoF
namespace Go.Proofs.YtcoegjnjjdndjaaGreatDoor.fnExactFound
open Go.ChangeShapes Go.WideShapes Go.ChangeAt Go.RowKit Go.Joins
open Go.ChangeMaps (open_string shut_string)
set_option linter.unusedVariables false
set_option linter.unusedSimpArgs false
set_option maxRecDepth 8000
theorem own:ownKnob Tryz.prog.godebug=none:=by kernel_rfl
theorem laidOut:laidOutB Tryz.prog=true:=by kernel_rfl
theorem gEt:Tryz.prog.globalNamed "errors.errorType"=some 0:=by kernel_rfl
theorem gEn:Tryz.prog.globalNamed "loop.example/kilnstone/impl.errNoPage"=some 1:=by kernel_rfl
theorem gEnT:(Tryz.prog.globals[1]?).map (·.type)=some 165:=by kernel_rfl
theorem rt:(Tryz.prog.cutTypes.find? (·.1 == "internal/reflectlite.rtype")).map (·.2)=some 253:=by kernel_rfl
theorem oneRow:((List.range Tryz.prog.types.size).filter fun t=>Tryz.prog.rowNamed t [101,114,114,111,114])=[165]:=by kernel_rfl
theorem of_laid {W:World} (h:laidMetH Tryz.prog Rows.fnExactFoundRow.laid W):W.cell? ⟨0,0,none⟩=some (.iface 253 (.agg #[.pointer (some ⟨3,165,none⟩)]))/\(∃ ty v,W.cell? ⟨1,0,none⟩=some (.iface ty v))/\1<W.heap.size:=by
 have h':laidMet Tryz.prog [("loop.example/kilnstone/impl.errNoPage",Rows.laid_loop_example_kilnstone_impl_errNoPage)] W/\handlesMet Tryz.prog [("errors.errorType",Rows.laid_errors_errorType)] W:=h
 obtain ⟨name,u,ty,e1,e2,e3,e4,e5⟩:=h'.2 _ (List.mem_singleton.2 rfl)
 have en:name=[101,114,114,111,114]:=(Option.some.inj e1).symm
 subst en
 obtain rfl:=Option.some.inj (rt.symm.trans e2)
 have hm:ty∈(List.range Tryz.prog.types.size).filter fun t=>Tryz.prog.rowNamed t [101,114,114,111,114]:=List.mem_filter.2 ⟨List.mem_range.2 e3,e4⟩
 rw [oneRow] at hm
 obtain rfl:=List.mem_singleton.1 hm
 have hh:typeHandle Tryz.prog 165=.pointer (some ⟨3,165,none⟩):=by kernel_rfl
 rw [hh] at e5
 obtain ⟨ps,⟨g0,t0,cs0,f0,p0,q0,hg0,ht0,hv0,hd0,_,_⟩,_,_⟩:=h'.1
 obtain rfl:=Option.some.inj (gEn.symm.trans hg0)
 obtain rfl:=Option.some.inj (gEnT.symm.trans ht0)
 obtain ⟨l0⟩:=cs0
 obtain ⟨_,u,v,hcs,_,_⟩:=iface_of_trod Tryz.underlying165 hd0
 have hc1:W.cell? ⟨1,0,none⟩=some (.iface u v):=by
  have:=World.var?_cell gEn hv0 0
  simp at hcs
  subst hcs
  simpa using this
 refine ⟨by simpa using World.var?_cell gEt e5 0,⟨u,v,hc1⟩,?_⟩
 rcases Nat.lt_or_ge 1 W.heap.size with hl | hl
 ·exact hl
 ·exfalso
  have:W.heap[1]?=none:=Array.getElem?_eq_none hl
  simp [World.cell?,this] at hc1
theorem dep_ownw {x:Wo} {w:World} {base g1 g2 g3 g4 g5:Nat} {gs:Nat->Nat} (h:OwnW x w base g1 g2 g3 g4 g5 gs):Dep w base w.heap.size (fun W=>OwnW x W base g1 g2 g3 g4 g5 gs) :=
 ⟨h,Nat.le_refl _,fun w' k1 k2=>by
  have b1:=h.b1
  have b2:=h.b2
  have o13:=h.o13
  have o34:=h.o34
  have o45:=h.o45
  have row:∀ {g:Nat} {cs:List Value},Row w g cs->base<=g->Row w' g cs:=fun hr hb=>row_same hr (k1 _ hb hr.lt) (Nat.lt_of_lt_of_le hr.lt k2)
  exact ⟨row h.r1 b1,row h.r2 b2,row h.r3 (by omega),⟨row h.r4.row (by omega),fun i hi=>⟨row (h.r4.st i hi).1 (by have:=(h.r4.st i hi).2;omega),(h.r4.st i hi).2⟩,h.r4.asc⟩,row h.r5 (by omega),h.b1,h.b2,h.n12,h.o13,h.o23,h.o34,h.o45,h.ogs⟩⟩
set_option maxHeartbeats 16000000 in
theorem walk (x:Wo) (q:Wp) (w:World) (h:x.at w q) (hx:x.le maxLen) (hL:laidMetH Tryz.prog Rows.fnExactFoundRow.laid w) :
  Calls Tryz.prog 3 #[worldW x q] w fun e w'=>e=.returned (.bool true)/\Below w.heap.size w w':=by
 obtain ⟨hg0,⟨ty,gv,hgv⟩,hgl⟩:=of_laid hL
 clear hL
 have HSZ:=hid (fun w' k=>sz_world x q w' k hx)
 obtain ⟨R,HR⟩:∃ R,Hid (R=szL (wsz x) 1048576):=⟨_,hid rfl⟩
 rw [<-HR.out] at HSZ
 unfold worldW at HSZ ⊢
 go_enter Tryz.func3,Tryz.ntmps3
 go_wp2_with fail
 have hE:Below w.heap.size w w:=Below.refl _ _
 generalize e_v1:w.alloc _=v1
 obtain ⟨hb,z_v1,bA⟩:=bx1 e_v1
 clear e_v1
 replace hE:=hE.trans (hb.mono hE.size)
 clear hb
 refine (HSZ.out _ (h.below hE)).mono ?_
 rintro e v2 ⟨rfl,hb⟩
 have s_v2:v1.heap.size<=v2.heap.size:=hb.size
 replace bA:=bA.below hb
 replace hE:=hE.trans (hb.mono hE.size)
 clear hb
 obtain ⟨q_bA_0,q_bA_1,q_bA_2,q_bA_3,q_bA_4,q_bA_5,q_bA_6,q_bA_7,q_bA_8,q_bA_9,q_bA_10,q_bA_11,q_bA_12,q_bA_13,q_bA_14,q_bA_15,q_bA_l⟩:=c16 bA.now
 by_cases hR:R<0
 ·go_wp2
  go_ret
  exact ⟨rfl,hE⟩
 have hm:x.le 1048576:=wsz_le x (by rw [<-HR.out];omega)
 have htt:tot x.P<=1048576:=wsz_tot x (by rw [<-HR.out];omega)
 have hR0:0<=R:=by omega
 have hDl:=fdR_len x
 have HTO:=hid (fun w' k=>to_world x q w' k hm)
 have HEW:=hid (fun q1 q2 w' k1 k2=>eq_world x q1 q2 w' k1 k2 hm)
 have HSP:=hid (fun q1 w' k=>found_s x q1 w' k hm)
 have HIM:=hid (fun q1 w' k (hc:x.rs.length<=q1.cs) (hb:Below w.heap.size w w')=>found_i x q1 w' k hc hm ty gv ((hb.cell (p:=⟨1,0,none⟩) hgl).trans hgv) ((hb.cell (p:=⟨0,0,none⟩) (by show 0<_;omega)).trans hg0) (by have:=hb.size;omega))
 have HMW:=hid (fun lo hi g1 g2 g3 g4 g5 gs w' k h5 hh=>mark_wo x lo hi g1 g2 g3 g4 g5 gs w' k h5 hh hm htt)
 obtain ⟨D,HD⟩:∃ D,Hid (D=fdR x):=⟨_,hid rfl⟩
 rw [<-HD.out] at HSP HIM hDl
 obtain ⟨RS,C⟩:=D
 unfold FoPost at HSP HIM
 have HEQ:=hid (fun a1 c1 a2 c2 w' h1 h2=>eq_state a1 a2 RS c1 c2 w' h1 h2 hDl)
 have HMG:=hid (fun a1 c1 w' h1=>mark_state a1 RS c1 1 w' h1 (by omega) (by simp only at hDl;omega))
 have HHG:=hid (fun a1 c1 w' h1=>held_state a1 RS.length c1 1 w' h1 (by omega) (by simp only at hDl;omega))
 simp only at HSP HIM HEQ
 obtain ⟨k3,HK3⟩:∃ k3:Nat,Hid (k3=1+2*RS.length):=⟨_,hid rfl⟩
 rw [<-HK3.out] at HMG HHG
 have hk3:(0:Int)<=(k3:Int):=by omega
 unfold stV at HSP HIM HEQ HMG HHG
 unfold worldW at HTO HEW HSP HIM HMW
 clear HD hDl htt
 go_wp2_with fail
 clear q_bA_0 q_bA_1 q_bA_2 q_bA_3 q_bA_4 q_bA_5 q_bA_6 q_bA_7 q_bA_8 q_bA_9 q_bA_10 q_bA_11 q_bA_12 q_bA_13 q_bA_14 q_bA_15 q_bA_l
 as_aux_lemma =>
  refine (HTO.out _ (h.below hE)).mono ?_
  rintro e v3 ⟨g1_t1,g2_t1,g3_t1,g4_t1,g5_t1,gs_t1,rfl,ow_t1,hb⟩
  have s_v3:v2.heap.size<=v3.heap.size:=hb.size
  replace bA:=bA.below hb
  replace hE:=hE.trans (hb.mono hE.size)
  have t1:Dep v3 v2.heap.size v3.heap.size (fun W=>OwnW x W v2.heap.size g1_t1 g2_t1 g3_t1 g4_t1 g5_t1 gs_t1):=dep_ownw ow_t1
  have l5_t1:=ow_t1.r5.lt
  clear ow_t1
  clear hb
  clear l5_t1
  as_aux_lemma =>
   go_wp2_with fail
   refine (HSP.out _ _ t1.now.at).mono ?_
   rintro e v4 ⟨a_zd,c_zd,rfl,hc_zd,ho,hg,hb⟩
   have s_v4:v3.heap.size<=v4.heap.size:=hb.size
   replace bA:=bA.below hb
   replace t1:=t1.below hb
   replace hE:=hE.trans (hb.mono hE.size)
   have zd:Dep v4 v3.heap.size v4.heap.size (fun W=>OwnS W a_zd (prcells RS)):=dep_own ho prcells_neA hg
   have lo_zd:∀ g,blk a_zd RS.length=some g->v3.heap.size<=g/\g<v4.heap.size:=fun g hg'=>⟨hg g hg',ho.lt _ (fun h e=>h (by have:=congrArg List.length e;rw [prcells_length,List.length_nil] at this;omega)) g hg'⟩
   clear ho hg hc_zd
   clear hb
   clear t1
   as_aux_lemma =>
    obtain ⟨q_bA_0,q_bA_1,q_bA_2,q_bA_3,q_bA_4,q_bA_5,q_bA_6,q_bA_7,q_bA_8,q_bA_9,q_bA_10,q_bA_11,q_bA_12,q_bA_13,q_bA_14,q_bA_15,q_bA_l⟩:=c16 bA.now
    go_wp2_with fail
    clear q_bA_0 q_bA_1 q_bA_2 q_bA_3 q_bA_4 q_bA_5 q_bA_6 q_bA_7 q_bA_8 q_bA_9 q_bA_10 q_bA_11 q_bA_12 q_bA_13 q_bA_14 q_bA_15 q_bA_l
    generalize e_v5:v4.alloc _=v5
    obtain ⟨hb,z_v5,bZ⟩:=bx1 e_v5
    have s_v5:v4.heap.size+1<=v5.heap.size:=by omega
    clear e_v5 z_v5
    replace bA:=bA.below hb
    replace zd:=zd.below hb
    replace hE:=hE.trans (hb.mono hE.size)
    clear hb
    refine (HTO.out _ (h.below hE)).mono ?_
    rintro e v6 ⟨g1_xd,g2_xd,g3_xd,g4_xd,g5_xd,gs_xd,rfl,ow_xd,hb⟩
    have s_v6:v5.heap.size<=v6.heap.size:=hb.size
    replace bA:=bA.below hb
    replace zd:=zd.below hb
    replace bZ:=bZ.below hb
    replace hE:=hE.trans (hb.mono hE.size)
    have xd:Dep v6 v5.heap.size v6.heap.size (fun W=>OwnW x W v5.heap.size g1_xd g2_xd g3_xd g4_xd g5_xd gs_xd):=dep_ownw ow_xd
    have l5_xd:=ow_xd.r5.lt
    clear ow_xd
    clear hb
    as_aux_lemma =>
     go_wp2_with fail
     generalize e_v7:v6.alloc _=v7
     obtain ⟨hb,z_v7,bX⟩:=bx1 e_v7
     have s_v7:v6.heap.size+1<=v7.heap.size:=by omega
     clear e_v7 z_v7
     replace bA:=bA.below hb
     replace zd:=zd.below hb
     replace bZ:=bZ.below hb
     replace xd:=xd.below hb
     replace hE:=hE.trans (hb.mono hE.size)
     clear hb
     as_aux_lemma =>
      refine (HIM.out _ _ xd.now.at (Nat.le_refl _) hE).mono ?_
      rintro e v8 ⟨a_gd,c_gd,rfl,hc_gd,ho,hg,hb⟩
      have s_v8:v7.heap.size<=v8.heap.size:=hb.size
      replace bA:=bA.below hb
      replace zd:=zd.below hb
      replace bZ:=bZ.below hb
      replace xd:=xd.below hb
      replace bX:=bX.below hb
      replace hE:=hE.trans (hb.mono hE.size)
      have gd:Dep v8 v7.heap.size v8.heap.size (fun W=>OwnS W a_gd (prcells RS)):=dep_own ho prcells_neA hg
      have lo_gd:∀ g,blk a_gd RS.length=some g->v7.heap.size<=g/\g<v8.heap.size:=fun g hg'=>⟨hg g hg',ho.lt _ (fun h e=>h (by have:=congrArg List.length e;rw [prcells_length,List.length_nil] at this;omega)) g hg'⟩
      clear ho hg hc_gd
      clear hb
      as_aux_lemma =>
       have q_bZ_0:=bZ.now.cell 0 _ rfl
       have q_bZ_l:=bZ.now.lt
       go_wp2_with fail
       clear q_bZ_0 q_bZ_l
       generalize e_v9:v8.alloc _=v9
       obtain ⟨hb,z_v9,bG⟩:=bx1 e_v9
       have s_v9:v8.heap.size+1<=v9.heap.size:=by omega
       clear e_v9 z_v9
       replace bA:=bA.below hb
       replace zd:=zd.below hb
       replace bZ:=bZ.below hb
       replace xd:=xd.below hb
       replace bX:=bX.below hb
       replace gd:=gd.below hb
       replace hE:=hE.trans (hb.mono hE.size)
       clear hb
       refine (HEQ.out _ _ _ _ _ gd.now.prsA zd.now.prsA).mono ?_
       rintro e v10 ⟨rfl,hb⟩
       have s_v10:v9.heap.size<=v10.heap.size:=hb.size
       replace bA:=bA.below hb
       replace zd:=zd.below hb
       replace bZ:=bZ.below hb
       replace xd:=xd.below hb
       replace bX:=bX.below hb
       replace gd:=gd.below hb
       replace bG:=bG.below hb
       replace hE:=hE.trans (hb.mono hE.size)
       clear hb
       as_aux_lemma =>
        obtain ⟨q_bA_0,q_bA_1,q_bA_2,q_bA_3,q_bA_4,q_bA_5,q_bA_6,q_bA_7,q_bA_8,q_bA_9,q_bA_10,q_bA_11,q_bA_12,q_bA_13,q_bA_14,q_bA_15,q_bA_l⟩:=c16 bA.now
        obtain ⟨q_bX_0,q_bX_1,q_bX_2,q_bX_3,q_bX_4,q_bX_5,q_bX_6,q_bX_7,q_bX_8,q_bX_9,q_bX_10,q_bX_11,q_bX_12,q_bX_13,q_bX_14,q_bX_15,q_bX_l⟩:=c16 bX.now
        go_wp2_with fail
        clear q_bA_0 q_bA_1 q_bA_2 q_bA_3 q_bA_4 q_bA_5 q_bA_6 q_bA_7 q_bA_8 q_bA_9 q_bA_10 q_bA_11 q_bA_12 q_bA_13 q_bA_14 q_bA_15 q_bA_l q_bX_0 q_bX_1 q_bX_2 q_bX_3 q_bX_4 q_bX_5 q_bX_6 q_bX_7 q_bX_8 q_bX_9 q_bX_10 q_bX_11 q_bX_12 q_bX_13 q_bX_14 q_bX_15 q_bX_l
        as_aux_lemma =>
         have HK:Hid (∀ W,Below v10.heap.size v10 W->W.cell? ⟨w.heap.size,0,none⟩=some (.int .i64 x.w)/\W.cell? ⟨w.heap.size,1,none⟩=some (.slice q.a x.ss.length q.c)/\W.cell? ⟨w.heap.size,2,none⟩=some (.slice q.a' x.ws.length q.c')/\W.cell? ⟨w.heap.size,3,none⟩=some (.bool x.up)/\W.cell? ⟨w.heap.size,4,none⟩=some (.int .i64 x.W)/\W.cell? ⟨w.heap.size,5,none⟩=some (.int .i64 x.S)/\W.cell? ⟨w.heap.size,6,none⟩=some (.int .i64 x.L)/\W.cell? ⟨w.heap.size,7,none⟩=some (.int .i64 x.T)/\W.cell? ⟨w.heap.size,8,none⟩=some (.int .i64 x.H)/\W.cell? ⟨w.heap.size,9,none⟩=some (.int .i64 x.F)/\W.cell? ⟨w.heap.size,10,none⟩=some (.int .i64 x.R)/\W.cell? ⟨w.heap.size,11,none⟩=some (.int .i64 x.U)/\W.cell? ⟨w.heap.size,12,none⟩=some (.int .i64 x.O)/\W.cell? ⟨w.heap.size,13,none⟩=some (.slice q.s x.rs.length q.cs)/\W.cell? ⟨w.heap.size,14,none⟩=some (.slice q.p x.P.length q.cp)/\W.cell? ⟨w.heap.size,15,none⟩=some (.slice q.t x.ts.length q.ct)/\W.cell? ⟨v6.heap.size,0,none⟩=some (.int .i64 x.w)/\W.cell? ⟨v6.heap.size,1,none⟩=some (.slice (some ⟨g1_xd,0,none⟩) x.ss.length x.ss.length)/\W.cell? ⟨v6.heap.size,2,none⟩=some (.slice (some ⟨g2_xd,0,none⟩) x.ws.length x.ws.length)/\W.cell? ⟨v6.heap.size,3,none⟩=some (.bool x.up)/\W.cell? ⟨v6.heap.size,4,none⟩=some (.int .i64 x.W)/\W.cell? ⟨v6.heap.size,5,none⟩=some (.int .i64 x.S)/\W.cell? ⟨v6.heap.size,6,none⟩=some (.int .i64 x.L)/\W.cell? ⟨v6.heap.size,7,none⟩=some (.int .i64 x.T)/\W.cell? ⟨v6.heap.size,8,none⟩=some (.int .i64 x.H)/\W.cell? ⟨v6.heap.size,9,none⟩=some (.int .i64 x.F)/\W.cell? ⟨v6.heap.size,10,none⟩=some (.int .i64 x.R)/\W.cell? ⟨v6.heap.size,11,none⟩=some (.int .i64 x.U)/\W.cell? ⟨v6.heap.size,12,none⟩=some (.int .i64 x.O)/\W.cell? ⟨v6.heap.size,13,none⟩=some (.slice (some ⟨g3_xd,0,none⟩) x.rs.length x.rs.length)/\W.cell? ⟨v6.heap.size,14,none⟩=some (.slice (some ⟨g4_xd,0,none⟩) x.P.length x.P.length)/\W.cell? ⟨v6.heap.size,15,none⟩=some (.slice (some ⟨g5_xd,0,none⟩) x.ts.length x.ts.length)):=fun W hb=>⟨(bA.below hb).now.cell 0 _ rfl,(bA.below hb).now.cell 1 _ rfl,(bA.below hb).now.cell 2 _ rfl,(bA.below hb).now.cell 3 _ rfl,(bA.below hb).now.cell 4 _ rfl,(bA.below hb).now.cell 5 _ rfl,(bA.below hb).now.cell 6 _ rfl,(bA.below hb).now.cell 7 _ rfl,(bA.below hb).now.cell 8 _ rfl,(bA.below hb).now.cell 9 _ rfl,(bA.below hb).now.cell 10 _ rfl,(bA.below hb).now.cell 11 _ rfl,(bA.below hb).now.cell 12 _ rfl,(bA.below hb).now.cell 13 _ rfl,(bA.below hb).now.cell 14 _ rfl,(bA.below hb).now.cell 15 _ rfl,(bX.below hb).now.cell 0 _ rfl,(bX.below hb).now.cell 1 _ rfl,(bX.below hb).now.cell 2 _ rfl,(bX.below hb).now.cell 3 _ rfl,(bX.below hb).now.cell 4 _ rfl,(bX.below hb).now.cell 5 _ rfl,(bX.below hb).now.cell 6 _ rfl,(bX.below hb).now.cell 7 _ rfl,(bX.below hb).now.cell 8 _ rfl,(bX.below hb).now.cell 9 _ rfl,(bX.below hb).now.cell 10 _ rfl,(bX.below hb).now.cell 11 _ rfl,(bX.below hb).now.cell 12 _ rfl,(bX.below hb).now.cell 13 _ rfl,(bX.below hb).now.cell 14 _ rfl,(bX.below hb).now.cell 15 _ rfl⟩
         refine wp_region_held_drew (S:=fun w'=>w'.cell? ⟨w.heap.size,0,none⟩=some (.int .i64 x.w)/\w'.cell? ⟨w.heap.size,1,none⟩=some (.slice q.a x.ss.length q.c)/\w'.cell? ⟨w.heap.size,2,none⟩=some (.slice q.a' x.ws.length q.c')/\w'.cell? ⟨w.heap.size,3,none⟩=some (.bool x.up)/\w'.cell? ⟨w.heap.size,4,none⟩=some (.int .i64 x.W)/\w'.cell? ⟨w.heap.size,5,none⟩=some (.int .i64 x.S)/\w'.cell? ⟨w.heap.size,6,none⟩=some (.int .i64 x.L)/\w'.cell? ⟨w.heap.size,7,none⟩=some (.int .i64 x.T)/\w'.cell? ⟨w.heap.size,8,none⟩=some (.int .i64 x.H)/\w'.cell? ⟨w.heap.size,9,none⟩=some (.int .i64 x.F)/\w'.cell? ⟨w.heap.size,10,none⟩=some (.int .i64 x.R)/\w'.cell? ⟨w.heap.size,11,none⟩=some (.int .i64 x.U)/\w'.cell? ⟨w.heap.size,12,none⟩=some (.int .i64 x.O)/\w'.cell? ⟨w.heap.size,13,none⟩=some (.slice q.s x.rs.length q.cs)/\w'.cell? ⟨w.heap.size,14,none⟩=some (.slice q.p x.P.length q.cp)/\w'.cell? ⟨w.heap.size,15,none⟩=some (.slice q.t x.ts.length q.ct)/\w'.cell? ⟨v6.heap.size,0,none⟩=some (.int .i64 x.w)/\w'.cell? ⟨v6.heap.size,1,none⟩=some (.slice (some ⟨g1_xd,0,none⟩) x.ss.length x.ss.length)/\w'.cell? ⟨v6.heap.size,2,none⟩=some (.slice (some ⟨g2_xd,0,none⟩) x.ws.length x.ws.length)/\w'.cell? ⟨v6.heap.size,3,none⟩=some (.bool x.up)/\w'.cell? ⟨v6.heap.size,4,none⟩=some (.int .i64 x.W)/\w'.cell? ⟨v6.heap.size,5,none⟩=some (.int .i64 x.S)/\w'.cell? ⟨v6.heap.size,6,none⟩=some (.int .i64 x.L)/\w'.cell? ⟨v6.heap.size,7,none⟩=some (.int .i64 x.T)/\w'.cell? ⟨v6.heap.size,8,none⟩=some (.int .i64 x.H)/\w'.cell? ⟨v6.heap.size,9,none⟩=some (.int .i64 x.F)/\w'.cell? ⟨v6.heap.size,10,none⟩=some (.int .i64 x.R)/\w'.cell? ⟨v6.heap.size,11,none⟩=some (.int .i64 x.U)/\w'.cell? ⟨v6.heap.size,12,none⟩=some (.int .i64 x.O)/\w'.cell? ⟨v6.heap.size,13,none⟩=some (.slice (some ⟨g3_xd,0,none⟩) x.rs.length x.rs.length)/\w'.cell? ⟨v6.heap.size,14,none⟩=some (.slice (some ⟨g4_xd,0,none⟩) x.P.length x.P.length)/\w'.cell? ⟨v6.heap.size,15,none⟩=some (.slice (some ⟨g5_xd,0,none⟩) x.ts.length x.ts.length)) (by kernel_rfl) (HK.out _ (Below.refl _ _).drew) (fun hHeld=>?_)
         refine TY (i:=0) (v:=.agg #[.int .i64 x.w,.slice (some ⟨g1_xd,0,none⟩) x.ss.length x.ss.length,.slice (some ⟨g2_xd,0,none⟩) x.ws.length x.ws.length,.bool x.up,.int .i64 x.W,.int .i64 x.S,.int .i64 x.L,.int .i64 x.T,.int .i64 x.H,.int .i64 x.F,.int .i64 x.R,.int .i64 x.U,.int .i64 x.O,.slice (some ⟨g3_xd,0,none⟩) x.rs.length x.rs.length,.slice (some ⟨g4_xd,0,none⟩) x.P.length x.P.length,.slice (some ⟨g5_xd,0,none⟩) x.ts.length x.ts.length]) rfl hHeld ?_
         simp only [PS]
         refine TY (i:=1) (v:=.agg #[.int .i64 x.w,.slice q.a x.ss.length q.c,.slice q.a' x.ws.length q.c',.bool x.up,.int .i64 x.W,.int .i64 x.S,.int .i64 x.L,.int .i64 x.T,.int .i64 x.H,.int .i64 x.F,.int .i64 x.R,.int .i64 x.U,.int .i64 x.O,.slice q.s x.rs.length q.cs,.slice q.p x.P.length q.cp,.slice q.t x.ts.length q.ct]) rfl hHeld ?_
         simp only [PS]
         refine RD (i:=2) rfl (fun Kq hKq=>?_)
         refine step_call (by rfl) 6 #[.agg #[.int .i64 x.w,.slice q.a x.ss.length q.c,.slice q.a' x.ws.length q.c',.bool x.up,.int .i64 x.W,.int .i64 x.S,.int .i64 x.L,.int .i64 x.T,.int .i64 x.H,.int .i64 x.F,.int .i64 x.R,.int .i64 x.U,.int .i64 x.O,.slice q.s x.rs.length q.cs,.slice q.p x.P.length q.cp,.slice q.t x.ts.length q.ct]] (by go_simp) (HTO.out _ ((h.below hE).below (Below.refl _ _).drew)) ?_
         rintro e u1 ⟨g1_u,g2_u,g3_u,g4_u,g5_u,gs_u,rfl,ow_u,hb_u⟩
         refine ⟨_,rfl,?_⟩
         have hb_u':Below v10.heap.size v10 u1:=(Below.refl _ _).drew.trans hb_u
         refine hKq.out _ _ (HK.out _ hb_u') (fun hHd1=>?_)
         clear hKq Kq
         try simp only [PS]
         refine RD (i:=3) rfl (fun Kq hKq=>?_)
         refine step_call (by rfl) 9 #[.agg #[.int .i64 x.w,.slice (some ⟨g1_xd,0,none⟩) x.ss.length x.ss.length,.slice (some ⟨g2_xd,0,none⟩) x.ws.length x.ws.length,.bool x.up,.int .i64 x.W,.int .i64 x.S,.int .i64 x.L,.int .i64 x.T,.int .i64 x.H,.int .i64 x.F,.int .i64 x.R,.int .i64 x.U,.int .i64 x.O,.slice (some ⟨g3_xd,0,none⟩) x.rs.length x.rs.length,.slice (some ⟨g4_xd,0,none⟩) x.P.length x.P.length,.slice (some ⟨g5_xd,0,none⟩) x.ts.length x.ts.length],.agg #[.int .i64 x.w,.slice (some ⟨g1_u,0,none⟩) x.ss.length x.ss.length,.slice (some ⟨g2_u,0,none⟩) x.ws.length x.ws.length,.bool x.up,.int .i64 x.W,.int .i64 x.S,.int .i64 x.L,.int .i64 x.T,.int .i64 x.H,.int .i64 x.F,.int .i64 x.R,.int .i64 x.U,.int .i64 x.O,.slice (some ⟨g3_u,0,none⟩) x.rs.length x.rs.length,.slice (some ⟨g4_u,0,none⟩) x.P.length x.P.length,.slice (some ⟨g5_u,0,none⟩) x.ts.length x.ts.length]] (by go_simp) (HEW.out (WpOf x g1_xd g2_xd g3_xd g4_xd g5_xd) (WpOf x g1_u g2_u g3_u g4_u g5_u) _ (xd.below hb_u').now.at ow_u.at) ?_
         rintro e u2 ⟨rfl,hb_v⟩
         refine ⟨_,rfl,?_⟩
         have hb_v':=hb_u'.trans (hb_v.mono hb_u'.size)
         refine hKq.out _ _ (HK.out _ hb_v') (fun hHd2=>?_)
         clear hKq Kq
         try simp only [PS]
         refine TY (i:=4) (v:=.bool false) rfl hHd2 ?_
         simp only [PS]
         refine wpAnyH_done (by kernel_rfl) ?_ _
         as_aux_lemma =>
          have hb:=hb_v'
          clear HK hb_u hb_u' ow_u hb_v hb_v' hHeld hHd1 hHd2
          have s_u2:v10.heap.size<=u2.heap.size:=hb.size
          replace bA:=bA.below hb
          replace zd:=zd.below hb
          replace bZ:=bZ.below hb
          replace xd:=xd.below hb
          replace bX:=bX.below hb
          replace gd:=gd.below hb
          replace bG:=bG.below hb
          replace hE:=hE.trans (hb.mono hE.size)
          clear hb
          as_aux_lemma =>
           obtain ⟨q_bX_0,q_bX_1,q_bX_2,q_bX_3,q_bX_4,q_bX_5,q_bX_6,q_bX_7,q_bX_8,q_bX_9,q_bX_10,q_bX_11,q_bX_12,q_bX_13,q_bX_14,q_bX_15,q_bX_l⟩:=c16 bX.now
           go_wp2_with fail
           clear q_bX_0 q_bX_1 q_bX_2 q_bX_3 q_bX_4 q_bX_5 q_bX_6 q_bX_7 q_bX_8 q_bX_9 q_bX_10 q_bX_11 q_bX_12 q_bX_13 q_bX_14 q_bX_15 q_bX_l
           refine (HMW.out v5.heap.size v6.heap.size g1_xd g2_xd g3_xd g4_xd g5_xd gs_xd _ xd.now l5_xd (by omega)).mono ?_
           rintro e v11 ⟨⟨n,rfl⟩,hV⟩
           have s_v11:u2.heap.size<=v11.heap.size:=hV.size
           clear xd
           replace bA:=bA.win hV (by omega)
           replace zd:=zd.win hV (by omega)
           replace bZ:=bZ.win hV (by omega)
           replace bX:=bX.win hV (by omega)
           replace gd:=gd.win hV (by omega)
           replace bG:=bG.win hV (by omega)
           replace hE:=hE.trans (hV.below (by have:=hE.size;omega) hE.size)
           clear hV
           have hn0:(0:Int)<=(n:Int):=by omega
           as_aux_lemma =>
            have q_bG_0:=bG.now.cell 0 _ rfl
            have q_bG_l:=bG.now.lt
            have q_bZ_0:=bZ.now.cell 0 _ rfl
            have q_bZ_l:=bZ.now.lt
            go_wp2_with fail
            clear q_bG_0 q_bG_l q_bZ_0 q_bZ_l
            refine (HEQ.out _ _ _ _ _ gd.now.prsA zd.now.prsA).mono ?_
            rintro e v12 ⟨rfl,hb⟩
            have s_v12:v11.heap.size<=v12.heap.size:=hb.size
            replace bA:=bA.below hb
            replace zd:=zd.below hb
            replace bZ:=bZ.below hb
            replace bX:=bX.below hb
            replace gd:=gd.below hb
            replace bG:=bG.below hb
            replace hE:=hE.trans (hb.mono hE.size)
            clear hb
            as_aux_lemma =>
             have q_bG_0:=bG.now.cell 0 _ rfl
             have q_bG_l:=bG.now.lt
             go_wp2_with fail
             clear q_bG_0 q_bG_l
             refine (HMG.out _ _ _ gd.now).mono ?_
             rintro e v13 ⟨rfl,hgw,how⟩
             have s_v13:v12.heap.size<=v13.heap.size:=hgw.size
             have hgr:∀ g,blk a_gd RS.length=some g->v7.heap.size<=g/\g<v8.heap.size:=lo_gd
             replace bA:=bA.grown hgw (fun g hg=>by have:=hgr g hg;omega)
             replace zd:=zd.grown hgw (fun g hg=>by have:=hgr g hg;omega)
             replace bZ:=bZ.grown hgw (fun g hg=>by have:=hgr g hg;omega)
             replace bX:=bX.grown hgw (fun g hg=>by have:=hgr g hg;omega)
             replace bG:=bG.grown hgw (fun g hg=>by have:=hgr g hg;omega)
             replace hE:=hE.trans (grown_below hgw hE.size (fun g hg=>by have:=hgr g hg;omega))
             clear gd
             have gd:Dep v13 v7.heap.size v8.heap.size (fun W=>OwnS W a_gd (prcells (prmarks 1 RS.length))):=(dep_own how (fun h=>by have:=prcells_neA h;rwa [prmarks_length] at this) (fun g hg=>(lo_gd g hg).1)).cut (fun g h1 h2=>(lo_gd g (by subst h1;exact blk_pos _ _ _ (by have:=prcells_neA h2;rwa [prmarks_length] at this))).2) (by omega) (fun g h1 h2=>(lo_gd g (by subst h1;exact blk_pos _ _ _ (by have:=prcells_neA h2;rwa [prmarks_length] at this))).1)
             clear hgw how hgr
             as_aux_lemma =>
              have q_bG_0:=bG.now.cell 0 _ rfl
              have q_bG_l:=bG.now.lt
              go_wp2_with fail
              clear q_bG_0 q_bG_l
              refine (HHG.out _ _ _ gd.now).mono ?_
              rintro e v14 ⟨rfl,hb⟩
              have s_v14:v13.heap.size<=v14.heap.size:=hb.size
              replace bA:=bA.below hb
              replace zd:=zd.below hb
              replace bZ:=bZ.below hb
              replace bX:=bX.below hb
              replace gd:=gd.below hb
              replace bG:=bG.below hb
              replace hE:=hE.trans (hb.mono hE.size)
              clear hb
              as_aux_lemma =>
               obtain ⟨q_bA_0,q_bA_1,q_bA_2,q_bA_3,q_bA_4,q_bA_5,q_bA_6,q_bA_7,q_bA_8,q_bA_9,q_bA_10,q_bA_11,q_bA_12,q_bA_13,q_bA_14,q_bA_15,q_bA_l⟩:=c16 bA.now
               go_wp2_with fail
               clear q_bA_0 q_bA_1 q_bA_2 q_bA_3 q_bA_4 q_bA_5 q_bA_6 q_bA_7 q_bA_8 q_bA_9 q_bA_10 q_bA_11 q_bA_12 q_bA_13 q_bA_14 q_bA_15 q_bA_l
               refine (HTO.out _ (h.below hE)).mono ?_
               rintro e v15 ⟨g1_t4,g2_t4,g3_t4,g4_t4,g5_t4,gs_t4,rfl,ow_t4,hb⟩
               have s_v15:v14.heap.size<=v15.heap.size:=hb.size
               replace bA:=bA.below hb
               replace zd:=zd.below hb
               replace bZ:=bZ.below hb
               replace bX:=bX.below hb
               replace gd:=gd.below hb
               replace bG:=bG.below hb
               replace hE:=hE.trans (hb.mono hE.size)
               have t4:Dep v15 v14.heap.size v15.heap.size (fun W=>OwnW x W v14.heap.size g1_t4 g2_t4 g3_t4 g4_t4 g5_t4 gs_t4):=dep_ownw ow_t4
               have l5_t4:=ow_t4.r5.lt
               clear ow_t4
               clear hb
               clear l5_t4
               as_aux_lemma =>
                go_wp2_with fail
                refine (HIM.out _ _ t4.now.at (Nat.le_refl _) hE).mono ?_
                rintro e v16 ⟨a_hd,c_hd,rfl,hc_hd,ho,hg,hb⟩
                have s_v16:v15.heap.size<=v16.heap.size:=hb.size
                replace bA:=bA.below hb
                replace zd:=zd.below hb
                replace bZ:=bZ.below hb
                replace bX:=bX.below hb
                replace gd:=gd.below hb
                replace bG:=bG.below hb
                replace t4:=t4.below hb
                replace hE:=hE.trans (hb.mono hE.size)
                have hd:Dep v16 v15.heap.size v16.heap.size (fun W=>OwnS W a_hd (prcells RS)):=dep_own ho prcells_neA hg
                have lo_hd:∀ g,blk a_hd RS.length=some g->v15.heap.size<=g/\g<v16.heap.size:=fun g hg'=>⟨hg g hg',ho.lt _ (fun h e=>h (by have:=congrArg List.length e;rw [prcells_length,List.length_nil] at this;omega)) g hg'⟩
                clear ho hg hc_hd
                clear hb
                clear t4
                as_aux_lemma =>
                 have q_bZ_0:=bZ.now.cell 0 _ rfl
                 have q_bZ_l:=bZ.now.lt
                 go_wp2_with fail
                 clear q_bZ_0 q_bZ_l
                 generalize e_v17:v16.alloc _=v17
                 obtain ⟨hb,z_v17,bH⟩:=bx1 e_v17
                 have s_v17:v16.heap.size+1<=v17.heap.size:=by omega
                 clear e_v17 z_v17
                 replace bA:=bA.below hb
                 replace zd:=zd.below hb
                 replace bZ:=bZ.below hb
                 replace bX:=bX.below hb
                 replace gd:=gd.below hb
                 replace bG:=bG.below hb
                 replace hd:=hd.below hb
                 replace hE:=hE.trans (hb.mono hE.size)
                 clear hb
                 refine (HEQ.out _ _ _ _ _ hd.now.prsA zd.now.prsA).mono ?_
                 rintro e v18 ⟨rfl,hb⟩
                 have s_v18:v17.heap.size<=v18.heap.size:=hb.size
                 replace bA:=bA.below hb
                 replace zd:=zd.below hb
                 replace bZ:=bZ.below hb
                 replace bX:=bX.below hb
                 replace gd:=gd.below hb
                 replace bG:=bG.below hb
                 replace hd:=hd.below hb
                 replace bH:=bH.below hb
                 replace hE:=hE.trans (hb.mono hE.size)
                 clear hb
                 as_aux_lemma =>
                  have q_bG_0:=bG.now.cell 0 _ rfl
                  have q_bG_l:=bG.now.lt
                  go_wp2_with fail
                  clear q_bG_0 q_bG_l
                  refine (HHG.out _ _ _ gd.now).mono ?_
                  rintro e v19 ⟨rfl,hb⟩
                  have s_v19:v18.heap.size<=v19.heap.size:=hb.size
                  replace bA:=bA.below hb
                  replace zd:=zd.below hb
                  replace bZ:=bZ.below hb
                  replace bX:=bX.below hb
                  replace gd:=gd.below hb
                  replace bG:=bG.below hb
                  replace hd:=hd.below hb
                  replace bH:=bH.below hb
                  replace hE:=hE.trans (hb.mono hE.size)
                  clear hb
                  go_wp2_with fail
                  go_ret
                  exact ⟨rfl,hE⟩
end Go.Proofs.YtcoegjnjjdndjaaGreatDoor.fnExactFound
