import Derived.WalkKit
import Derived.ProofKit
import Derived.OpenShut
import Derived.ShutString
import Derived.ChangeOld
import Derived.ChangeSlices
import Derived.Below
import Derived.Lib.SmallJoins
import Derived.OpenVars
import Derived.LaidLaws
import Derived.LaidHandle
import Derived.Deep.DeepHandedRow
import Derived.Test.YtnmaknnnmjfhkagGreatDoorCards
import Derived.Test.YtnmaknnnmjfhkagGreatDoorTie
import Derived.Test.YtnmaknnnmjfhkagGreatDoorPrG34
import Derived.Test.YtnmaknnnmjfhkagGreatDoorPrG22
import Derived.Test.YtnmaknnnmjfhkagGreatDoorPrWoE
import Derived.Test.YtnmaknnnmjfhkagGreatDoorPrG21
import Derived.Test.YtnmaknnnmjfhkagGreatDoorPrG20
namespace Go.Proofs.YtnmaknnnmjfhkagGreatDoor.fnExactRight
open Go.ChangeShapes Go.WideShapes Go.ChangeAt Go.RowKit Go.Joins
open Go.ChangeMaps (open_string shut_string)
set_option linter.unusedVariables false
set_option linter.unusedSimpArgs false
set_option maxRecDepth 8000
theorem own:ownKnob Tryz.prog.godebug=none:=by kernel_rfl
theorem laidOut:laidOutB Tryz.prog=true:=by kernel_rfl
theorem gEt:Tryz.prog.globalNamed "errors.errorType"=some 0:=by kernel_rfl
theorem gEn:Tryz.prog.globalNamed "loop.example/kilnstone/impl.errNoPage"=some 1:=by kernel_rfl
theorem gEnT:(Tryz.prog.globals[1]?).map (·.type)=some 215:=by kernel_rfl
theorem rt:(Tryz.prog.cutTypes.find? (·.1 == "internal/reflectlite.rtype")).map (·.2)=some 332:=by kernel_rfl
theorem oneRow:((List.range Tryz.prog.types.size).filter fun t=>Tryz.prog.rowNamed t [101,114,114,111,114])=[215]:=by kernel_rfl
theorem of_laid {W:World} (h:laidMetH Tryz.prog Rows.fnExactRightRow.laid W):W.cell? ⟨0,0,none⟩=some (.iface 332 (.agg #[.pointer (some ⟨3,215,none⟩)]))/\(∃ ty v,W.cell? ⟨1,0,none⟩=some (.iface ty v))/\1<W.heap.size:=by
 have h':laidMet Tryz.prog [("loop.example/kilnstone/impl.errNoPage",Rows.laid_loop_example_kilnstone_impl_errNoPage)] W/\handlesMet Tryz.prog [("errors.errorType",Rows.laid_errors_errorType)] W:=h
 obtain ⟨name,u,ty,e1,e2,e3,e4,e5⟩:=h'.2 _ (List.mem_singleton.2 rfl)
 have en:name=[101,114,114,111,114]:=(Option.some.inj e1).symm
 subst en
 obtain rfl:=Option.some.inj (rt.symm.trans e2)
 have hm:ty∈(List.range Tryz.prog.types.size).filter fun t=>Tryz.prog.rowNamed t [101,114,114,111,114]:=List.mem_filter.2 ⟨List.mem_range.2 e3,e4⟩
 rw [oneRow] at hm
 obtain rfl:=List.mem_singleton.1 hm
 have hh:typeHandle Tryz.prog 215=.pointer (some ⟨3,215,none⟩):=by kernel_rfl
 rw [hh] at e5
 obtain ⟨ps,⟨g0,t0,cs0,f0,p0,q0,hg0,ht0,hv0,hd0,_,_⟩,_,_⟩:=h'.1
 obtain rfl:=Option.some.inj (gEn.symm.trans hg0)
 obtain rfl:=Option.some.inj (gEnT.symm.trans ht0)
 obtain ⟨l0⟩:=cs0
 obtain ⟨_,u,v,hcs,_,_⟩:=iface_of_trod Tryz.underlying215 hd0
 have hc1:W.cell? ⟨1,0,none⟩=some (.iface u v):=by
  have:=World.var?_cell gEn hv0 0
  simp at hcs
  subst hcs
  simpa using this
 refine ⟨by simpa using World.var?_cell gEt e5 0,⟨u,v,hc1⟩,?_⟩
 rcases Nat.lt_or_ge 1 W.heap.size with hl | hl
 ·exact hl
 ·exfalso
  have:W.heap[1]?=none:=Array.getElem?_eq_none hl
  simp [World.cell?,this] at hc1
theorem dep_ownw {x:Wo} {w:World} {base g1 g2 g3 g4 g5:Nat} {gs:Nat->Nat} (h:OwnW x w base g1 g2 g3 g4 g5 gs):Dep w base w.heap.size (fun W=>OwnW x W base g1 g2 g3 g4 g5 gs) :=
 ⟨h,Nat.le_refl _,fun w' k1 k2=>by
  have b1:=h.b1
  have b2:=h.b2
  have o13:=h.o13
  have o34:=h.o34
  have o45:=h.o45
  have row:∀ {g:Nat} {cs:List Value},Row w g cs->base<=g->Row w' g cs:=fun hr hb=>row_same hr (k1 _ hb hr.lt) (Nat.lt_of_lt_of_le hr.lt k2)
  exact ⟨row h.r1 b1,row h.r2 b2,row h.r3 (by omega),⟨row h.r4.row (by omega),fun i hi=>⟨row (h.r4.st i hi).1 (by have:=(h.r4.st i hi).2;omega),(h.r4.st i hi).2⟩,h.r4.asc⟩,row h.r5 (by omega),h.b1,h.b2,h.n12,h.o13,h.o23,h.o34,h.o45,h.ogs⟩⟩
set_option maxHeartbeats 16000000 in
theorem walk (x:Wo) (q:Wp) (w:World) (h:x.at w q) (hx:x.le maxLen) (hL:laidMetH Tryz.prog Rows.fnExactRightRow.laid w) :
  Calls Tryz.prog 7 #[worldW x q] w fun e w'=>e=.returned (.bool true)/\Below w.heap.size w w':=by
 obtain ⟨hg0,⟨ty,gv,hgv⟩,hgl⟩:=of_laid hL
 clear hL
 have HSZ:=hid (fun w' k=>sz_world x q w' k hx)
 obtain ⟨R,HR⟩:∃ R,Hid (R=szL (wsz x) 1048576):=⟨_,hid rfl⟩
 rw [<-HR.out] at HSZ
 unfold worldW at HSZ ⊢
 go_enter Tryz.func7,Tryz.ntmps7
 go_wp2_with fail
 have hE:Below w.heap.size w w:=Below.refl _ _
 generalize e_v1:w.alloc _=v1
 obtain ⟨hb,z_v1,bA⟩:=bx1 e_v1
 clear e_v1
 replace hE:=hE.trans (hb.mono hE.size)
 clear hb
 refine (HSZ.out _ (h.below hE)).mono ?_
 rintro e v2 ⟨rfl,hb⟩
 have s_v2:v1.heap.size<=v2.heap.size:=hb.size
 replace bA:=bA.below hb
 replace hE:=hE.trans (hb.mono hE.size)
 clear hb
 obtain ⟨q_bA_0,q_bA_1,q_bA_2,q_bA_3,q_bA_4,q_bA_5,q_bA_6,q_bA_7,q_bA_8,q_bA_9,q_bA_10,q_bA_11,q_bA_12,q_bA_13,q_bA_14,q_bA_15,q_bA_l⟩:=c16 bA.now
 by_cases hR:R<0
 ·go_wp2
  go_ret
  exact ⟨rfl,hE⟩
 have hm:x.le 1048576:=wsz_le x (by rw [<-HR.out];omega)
 have hR0:0<=R:=by omega
 have HTO:=hid (fun w' k=>to_world x q w' k hm)
 have HEQ:=hid (fun q1 q2 w' k1 k2=>eq_world x q1 q2 w' k1 k2 hm)
 have HVS:=hid (fun q1 w' k=>right_s x q1 w' k hm)
 have HVI:=hid (fun q1 w' k (hc:x.rs.length<=q1.cs) (hb:Below w.heap.size w w')=>right_i x q1 w' k hc hm ty gv ((hb.cell (p:=⟨1,0,none⟩) hgl).trans hgv) ((hb.cell (p:=⟨0,0,none⟩) (by show 0<_;omega)).trans hg0) (by have:=hb.size;omega))
 obtain ⟨B,HB⟩:∃ B,Hid (B=riR x):=⟨_,hid rfl⟩
 rw [<-HB.out] at HVS HVI
 unfold worldW at HTO HEQ HVS HVI
 go_wp2_with fail
 clear q_bA_0 q_bA_1 q_bA_2 q_bA_3 q_bA_4 q_bA_5 q_bA_6 q_bA_7 q_bA_8 q_bA_9 q_bA_10 q_bA_11 q_bA_12 q_bA_13 q_bA_14 q_bA_15 q_bA_l
 as_aux_lemma =>
  refine (HTO.out _ (h.below hE)).mono ?_
  rintro e v3 ⟨g1_t1,g2_t1,g3_t1,g4_t1,g5_t1,gs_t1,rfl,ow_t1,hb⟩
  have s_v3:v2.heap.size<=v3.heap.size:=hb.size
  replace bA:=bA.below hb
  replace hE:=hE.trans (hb.mono hE.size)
  have t1:Dep v3 v2.heap.size v3.heap.size (fun W=>OwnW x W v2.heap.size g1_t1 g2_t1 g3_t1 g4_t1 g5_t1 gs_t1):=dep_ownw ow_t1
  clear ow_t1
  clear hb
  as_aux_lemma =>
   go_wp2_with fail
   refine (HVS.out _ _ t1.now.at).mono ?_
   rintro e v4 ⟨rfl,hb⟩
   have s_v4:v3.heap.size<=v4.heap.size:=hb.size
   replace bA:=bA.below hb
   replace t1:=t1.below hb
   replace hE:=hE.trans (hb.mono hE.size)
   clear hb
   clear t1
   as_aux_lemma =>
    obtain ⟨q_bA_0,q_bA_1,q_bA_2,q_bA_3,q_bA_4,q_bA_5,q_bA_6,q_bA_7,q_bA_8,q_bA_9,q_bA_10,q_bA_11,q_bA_12,q_bA_13,q_bA_14,q_bA_15,q_bA_l⟩:=c16 bA.now
    go_wp2_with fail
    clear q_bA_0 q_bA_1 q_bA_2 q_bA_3 q_bA_4 q_bA_5 q_bA_6 q_bA_7 q_bA_8 q_bA_9 q_bA_10 q_bA_11 q_bA_12 q_bA_13 q_bA_14 q_bA_15 q_bA_l
    refine (HTO.out _ (h.below hE)).mono ?_
    rintro e v5 ⟨g1_xd,g2_xd,g3_xd,g4_xd,g5_xd,gs_xd,rfl,ow_xd,hb⟩
    have s_v5:v4.heap.size<=v5.heap.size:=hb.size
    replace bA:=bA.below hb
    replace hE:=hE.trans (hb.mono hE.size)
    have xd:Dep v5 v4.heap.size v5.heap.size (fun W=>OwnW x W v4.heap.size g1_xd g2_xd g3_xd g4_xd g5_xd gs_xd):=dep_ownw ow_xd
    clear ow_xd
    clear hb
    as_aux_lemma =>
     go_wp2_with fail
     generalize e_v6:v5.alloc _=v6
     obtain ⟨hb,z_v6,bX⟩:=bx1 e_v6
     have s_v6:v5.heap.size+1<=v6.heap.size:=by omega
     clear e_v6 z_v6
     replace bA:=bA.below hb
     replace xd:=xd.below hb
     replace hE:=hE.trans (hb.mono hE.size)
     clear hb
     as_aux_lemma =>
      refine (HVI.out _ _ xd.now.at (Nat.le_refl _) hE).mono ?_
      rintro e v7 ⟨rfl,hb⟩
      have s_v7:v6.heap.size<=v7.heap.size:=hb.size
      replace bA:=bA.below hb
      replace xd:=xd.below hb
      replace bX:=bX.below hb
      replace hE:=hE.trans (hb.mono hE.size)
      clear hb
      as_aux_lemma =>
       obtain ⟨q_bA_0,q_bA_1,q_bA_2,q_bA_3,q_bA_4,q_bA_5,q_bA_6,q_bA_7,q_bA_8,q_bA_9,q_bA_10,q_bA_11,q_bA_12,q_bA_13,q_bA_14,q_bA_15,q_bA_l⟩:=c16 bA.now
       obtain ⟨q_bX_0,q_bX_1,q_bX_2,q_bX_3,q_bX_4,q_bX_5,q_bX_6,q_bX_7,q_bX_8,q_bX_9,q_bX_10,q_bX_11,q_bX_12,q_bX_13,q_bX_14,q_bX_15,q_bX_l⟩:=c16 bX.now
       go_wp2_with fail
       clear q_bA_0 q_bA_1 q_bA_2 q_bA_3 q_bA_4 q_bA_5 q_bA_6 q_bA_7 q_bA_8 q_bA_9 q_bA_10 q_bA_11 q_bA_12 q_bA_13 q_bA_14 q_bA_15 q_bA_l q_bX_0 q_bX_1 q_bX_2 q_bX_3 q_bX_4 q_bX_5 q_bX_6 q_bX_7 q_bX_8 q_bX_9 q_bX_10 q_bX_11 q_bX_12 q_bX_13 q_bX_14 q_bX_15 q_bX_l
       as_aux_lemma =>
        have HK:Hid (∀ W,Below v7.heap.size v7 W->W.cell? ⟨w.heap.size,0,none⟩=some (.int .i64 x.w)/\W.cell? ⟨w.heap.size,1,none⟩=some (.slice q.a x.ss.length q.c)/\W.cell? ⟨w.heap.size,2,none⟩=some (.slice q.a' x.ws.length q.c')/\W.cell? ⟨w.heap.size,3,none⟩=some (.bool x.up)/\W.cell? ⟨w.heap.size,4,none⟩=some (.int .i64 x.W)/\W.cell? ⟨w.heap.size,5,none⟩=some (.int .i64 x.S)/\W.cell? ⟨w.heap.size,6,none⟩=some (.int .i64 x.L)/\W.cell? ⟨w.heap.size,7,none⟩=some (.int .i64 x.T)/\W.cell? ⟨w.heap.size,8,none⟩=some (.int .i64 x.H)/\W.cell? ⟨w.heap.size,9,none⟩=some (.int .i64 x.F)/\W.cell? ⟨w.heap.size,10,none⟩=some (.int .i64 x.R)/\W.cell? ⟨w.heap.size,11,none⟩=some (.int .i64 x.U)/\W.cell? ⟨w.heap.size,12,none⟩=some (.int .i64 x.O)/\W.cell? ⟨w.heap.size,13,none⟩=some (.slice q.s x.rs.length q.cs)/\W.cell? ⟨w.heap.size,14,none⟩=some (.slice q.p x.P.length q.cp)/\W.cell? ⟨w.heap.size,15,none⟩=some (.slice q.t x.ts.length q.ct)/\W.cell? ⟨v5.heap.size,0,none⟩=some (.int .i64 x.w)/\W.cell? ⟨v5.heap.size,1,none⟩=some (.slice (some ⟨g1_xd,0,none⟩) x.ss.length x.ss.length)/\W.cell? ⟨v5.heap.size,2,none⟩=some (.slice (some ⟨g2_xd,0,none⟩) x.ws.length x.ws.length)/\W.cell? ⟨v5.heap.size,3,none⟩=some (.bool x.up)/\W.cell? ⟨v5.heap.size,4,none⟩=some (.int .i64 x.W)/\W.cell? ⟨v5.heap.size,5,none⟩=some (.int .i64 x.S)/\W.cell? ⟨v5.heap.size,6,none⟩=some (.int .i64 x.L)/\W.cell? ⟨v5.heap.size,7,none⟩=some (.int .i64 x.T)/\W.cell? ⟨v5.heap.size,8,none⟩=some (.int .i64 x.H)/\W.cell? ⟨v5.heap.size,9,none⟩=some (.int .i64 x.F)/\W.cell? ⟨v5.heap.size,10,none⟩=some (.int .i64 x.R)/\W.cell? ⟨v5.heap.size,11,none⟩=some (.int .i64 x.U)/\W.cell? ⟨v5.heap.size,12,none⟩=some (.int .i64 x.O)/\W.cell? ⟨v5.heap.size,13,none⟩=some (.slice (some ⟨g3_xd,0,none⟩) x.rs.length x.rs.length)/\W.cell? ⟨v5.heap.size,14,none⟩=some (.slice (some ⟨g4_xd,0,none⟩) x.P.length x.P.length)/\W.cell? ⟨v5.heap.size,15,none⟩=some (.slice (some ⟨g5_xd,0,none⟩) x.ts.length x.ts.length)):=fun W hb=>⟨(bA.below hb).now.cell 0 _ rfl,(bA.below hb).now.cell 1 _ rfl,(bA.below hb).now.cell 2 _ rfl,(bA.below hb).now.cell 3 _ rfl,(bA.below hb).now.cell 4 _ rfl,(bA.below hb).now.cell 5 _ rfl,(bA.below hb).now.cell 6 _ rfl,(bA.below hb).now.cell 7 _ rfl,(bA.below hb).now.cell 8 _ rfl,(bA.below hb).now.cell 9 _ rfl,(bA.below hb).now.cell 10 _ rfl,(bA.below hb).now.cell 11 _ rfl,(bA.below hb).now.cell 12 _ rfl,(bA.below hb).now.cell 13 _ rfl,(bA.below hb).now.cell 14 _ rfl,(bA.below hb).now.cell 15 _ rfl,(bX.below hb).now.cell 0 _ rfl,(bX.below hb).now.cell 1 _ rfl,(bX.below hb).now.cell 2 _ rfl,(bX.below hb).now.cell 3 _ rfl,(bX.below hb).now.cell 4 _ rfl,(bX.below hb).now.cell 5 _ rfl,(bX.below hb).now.cell 6 _ rfl,(bX.below hb).now.cell 7 _ rfl,(bX.below hb).now.cell 8 _ rfl,(bX.below hb).now.cell 9 _ rfl,(bX.below hb).now.cell 10 _ rfl,(bX.below hb).now.cell 11 _ rfl,(bX.below hb).now.cell 12 _ rfl,(bX.below hb).now.cell 13 _ rfl,(bX.below hb).now.cell 14 _ rfl,(bX.below hb).now.cell 15 _ rfl⟩
        refine wp_region_held_drew (S:=fun w'=>w'.cell? ⟨w.heap.size,0,none⟩=some (.int .i64 x.w)/\w'.cell? ⟨w.heap.size,1,none⟩=some (.slice q.a x.ss.length q.c)/\w'.cell? ⟨w.heap.size,2,none⟩=some (.slice q.a' x.ws.length q.c')/\w'.cell? ⟨w.heap.size,3,none⟩=some (.bool x.up)/\w'.cell? ⟨w.heap.size,4,none⟩=some (.int .i64 x.W)/\w'.cell? ⟨w.heap.size,5,none⟩=some (.int .i64 x.S)/\w'.cell? ⟨w.heap.size,6,none⟩=some (.int .i64 x.L)/\w'.cell? ⟨w.heap.size,7,none⟩=some (.int .i64 x.T)/\w'.cell? ⟨w.heap.size,8,none⟩=some (.int .i64 x.H)/\w'.cell? ⟨w.heap.size,9,none⟩=some (.int .i64 x.F)/\w'.cell? ⟨w.heap.size,10,none⟩=some (.int .i64 x.R)/\w'.cell? ⟨w.heap.size,11,none⟩=some (.int .i64 x.U)/\w'.cell? ⟨w.heap.size,12,none⟩=some (.int .i64 x.O)/\w'.cell? ⟨w.heap.size,13,none⟩=some (.slice q.s x.rs.length q.cs)/\w'.cell? ⟨w.heap.size,14,none⟩=some (.slice q.p x.P.length q.cp)/\w'.cell? ⟨w.heap.size,15,none⟩=some (.slice q.t x.ts.length q.ct)/\w'.cell? ⟨v5.heap.size,0,none⟩=some (.int .i64 x.w)/\w'.cell? ⟨v5.heap.size,1,none⟩=some (.slice (some ⟨g1_xd,0,none⟩) x.ss.length x.ss.length)/\w'.cell? ⟨v5.heap.size,2,none⟩=some (.slice (some ⟨g2_xd,0,none⟩) x.ws.length x.ws.length)/\w'.cell? ⟨v5.heap.size,3,none⟩=some (.bool x.up)/\w'.cell? ⟨v5.heap.size,4,none⟩=some (.int .i64 x.W)/\w'.cell? ⟨v5.heap.size,5,none⟩=some (.int .i64 x.S)/\w'.cell? ⟨v5.heap.size,6,none⟩=some (.int .i64 x.L)/\w'.cell? ⟨v5.heap.size,7,none⟩=some (.int .i64 x.T)/\w'.cell? ⟨v5.heap.size,8,none⟩=some (.int .i64 x.H)/\w'.cell? ⟨v5.heap.size,9,none⟩=some (.int .i64 x.F)/\w'.cell? ⟨v5.heap.size,10,none⟩=some (.int .i64 x.R)/\w'.cell? ⟨v5.heap.size,11,none⟩=some (.int .i64 x.U)/\w'.cell? ⟨v5.heap.size,12,none⟩=some (.int .i64 x.O)/\w'.cell? ⟨v5.heap.size,13,none⟩=some (.slice (some ⟨g3_xd,0,none⟩) x.rs.length x.rs.length)/\w'.cell? ⟨v5.heap.size,14,none⟩=some (.slice (some ⟨g4_xd,0,none⟩) x.P.length x.P.length)/\w'.cell? ⟨v5.heap.size,15,none⟩=some (.slice (some ⟨g5_xd,0,none⟩) x.ts.length x.ts.length)) (by kernel_rfl) (HK.out _ (Below.refl _ _).drew) (fun hHeld=>?_)
        refine TY (i:=0) (v:=.agg #[.int .i64 x.w,.slice (some ⟨g1_xd,0,none⟩) x.ss.length x.ss.length,.slice (some ⟨g2_xd,0,none⟩) x.ws.length x.ws.length,.bool x.up,.int .i64 x.W,.int .i64 x.S,.int .i64 x.L,.int .i64 x.T,.int .i64 x.H,.int .i64 x.F,.int .i64 x.R,.int .i64 x.U,.int .i64 x.O,.slice (some ⟨g3_xd,0,none⟩) x.rs.length x.rs.length,.slice (some ⟨g4_xd,0,none⟩) x.P.length x.P.length,.slice (some ⟨g5_xd,0,none⟩) x.ts.length x.ts.length]) rfl hHeld ?_
        simp only [PS]
        refine TY (i:=1) (v:=.agg #[.int .i64 x.w,.slice q.a x.ss.length q.c,.slice q.a' x.ws.length q.c',.bool x.up,.int .i64 x.W,.int .i64 x.S,.int .i64 x.L,.int .i64 x.T,.int .i64 x.H,.int .i64 x.F,.int .i64 x.R,.int .i64 x.U,.int .i64 x.O,.slice q.s x.rs.length q.cs,.slice q.p x.P.length q.cp,.slice q.t x.ts.length q.ct]) rfl hHeld ?_
        simp only [PS]
        refine RD (i:=2) rfl (fun Kq hKq=>?_)
        refine step_call (by rfl) 41 #[.agg #[.int .i64 x.w,.slice q.a x.ss.length q.c,.slice q.a' x.ws.length q.c',.bool x.up,.int .i64 x.W,.int .i64 x.S,.int .i64 x.L,.int .i64 x.T,.int .i64 x.H,.int .i64 x.F,.int .i64 x.R,.int .i64 x.U,.int .i64 x.O,.slice q.s x.rs.length q.cs,.slice q.p x.P.length q.cp,.slice q.t x.ts.length q.ct]] (by go_simp) (HTO.out _ ((h.below hE).below (Below.refl _ _).drew)) ?_
        rintro e u1 ⟨g1_u,g2_u,g3_u,g4_u,g5_u,gs_u,rfl,ow_u,hb_u⟩
        refine ⟨_,rfl,?_⟩
        have hb_u':Below v7.heap.size v7 u1:=(Below.refl _ _).drew.trans hb_u
        refine hKq.out _ _ (HK.out _ hb_u') (fun hHd1=>?_)
        clear hKq Kq
        try simp only [PS]
        refine RD (i:=3) rfl (fun Kq hKq=>?_)
        refine step_call (by rfl) 43 #[.agg #[.int .i64 x.w,.slice (some ⟨g1_xd,0,none⟩) x.ss.length x.ss.length,.slice (some ⟨g2_xd,0,none⟩) x.ws.length x.ws.length,.bool x.up,.int .i64 x.W,.int .i64 x.S,.int .i64 x.L,.int .i64 x.T,.int .i64 x.H,.int .i64 x.F,.int .i64 x.R,.int .i64 x.U,.int .i64 x.O,.slice (some ⟨g3_xd,0,none⟩) x.rs.length x.rs.length,.slice (some ⟨g4_xd,0,none⟩) x.P.length x.P.length,.slice (some ⟨g5_xd,0,none⟩) x.ts.length x.ts.length],.agg #[.int .i64 x.w,.slice (some ⟨g1_u,0,none⟩) x.ss.length x.ss.length,.slice (some ⟨g2_u,0,none⟩) x.ws.length x.ws.length,.bool x.up,.int .i64 x.W,.int .i64 x.S,.int .i64 x.L,.int .i64 x.T,.int .i64 x.H,.int .i64 x.F,.int .i64 x.R,.int .i64 x.U,.int .i64 x.O,.slice (some ⟨g3_u,0,none⟩) x.rs.length x.rs.length,.slice (some ⟨g4_u,0,none⟩) x.P.length x.P.length,.slice (some ⟨g5_u,0,none⟩) x.ts.length x.ts.length]] (by go_simp) (HEQ.out (WpOf x g1_xd g2_xd g3_xd g4_xd g5_xd) (WpOf x g1_u g2_u g3_u g4_u g5_u) _ (xd.below hb_u').now.at ow_u.at) ?_
        rintro e u2 ⟨rfl,hb_v⟩
        refine ⟨_,rfl,?_⟩
        have hb_v':=hb_u'.trans (hb_v.mono hb_u'.size)
        refine hKq.out _ _ (HK.out _ hb_v') (fun hHd2=>?_)
        clear hKq Kq
        try simp only [PS]
        refine TY (i:=4) (v:=.bool false) rfl hHd2 ?_
        simp only [PS]
        refine wpAnyH_done (by kernel_rfl) ?_ _
        as_aux_lemma =>
         have hfin:=hE.trans (hb_v'.mono hE.size)
         clear HK hb_u hb_u' ow_u hb_v hb_v' hHeld hHd1 hHd2
         go_wp2
         go_ret
         exact ⟨rfl,hfin⟩
end Go.Proofs.YtnmaknnnmjfhkagGreatDoor.fnExactRight
