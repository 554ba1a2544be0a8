import Derived.Test.YtcoegjnjjdndjaaGreatDoorPrG38
import Derived.Test.YtcoegjnjjdndjaaGreatDoorPrStO
import Derived.Test.YtcoegjnjjdndjaaGreatDoorPrG36
namespace Go.Proofs.YtcoegjnjjdndjaaGreatDoor
open Go.RowKit
set_option maxRecDepth 8000
set_option linter.unusedVariables false
set_option linter.unusedSimpArgs false
theorem row_newW (w:World) (A:Array Value) (t:TypeId) (g:Nat) (hg:g=w.heap.size):Row (w.alloc (.cells A t)) g A.toList:=by subst hg;exact row_new w A t
structure Wo where
 w:Int
 ss:List ByteArray
 ws:List (Int×ByteArray)
 up:Bool
 W:Int
 S:Int
 L:Int
 T:Int
 H:Int
 F:Int
 R:Int
 U:Int
 O:Int
 rs:List (ByteArray×ByteArray)
 P:List (List (ByteArray×ByteArray))
 ts:List ByteArray
structure Wp where
 a:Option Addr
 c:Nat
 a':Option Addr
 c':Nat
 s:Option Addr
 cs:Nat
 p:Option Addr
 cp:Nat
 t:Option Addr
 ct:Nat
def worldW (x:Wo) (q:Wp):Value:=.agg #[.int .i64 x.w,.slice q.a x.ss.length q.c,.slice q.a' x.ws.length q.c',.bool x.up,.int .i64 x.W,.int .i64 x.S,.int .i64 x.L,.int .i64 x.T,.int .i64 x.H,.int .i64 x.F,.int .i64 x.R,.int .i64 x.U,.int .i64 x.O,.slice q.s x.rs.length q.cs,.slice q.p x.P.length q.cp,.slice q.t x.ts.length q.ct]
structure Wo.at (x:Wo) (w:World) (q:Wp):Prop where
 h1:Strs w q.a x.ss
 h2:Wrs w q.a' x.ws
 h3:Prs w q.s x.rs
 h4:Pst w q.p x.P
 h5:Strs w q.t x.ts
theorem Wo.at.below {x:Wo} {w w':World} {q:Wp} (h:x.at w q) (hb:Below w.heap.size w w'):x.at w' q:=⟨h.h1.below hb,h.h2.below hb,h.h3.below hb,h.h4.below hb,h.h5.below hb⟩
structure Wo.le (x:Wo) (m:Nat):Prop where
 l1:x.ss.length<=m
 s1:∀ s∈x.ss,s.size<=m
 l2:x.ws.length<=m
 s2:∀ s∈x.ws,s.2.size<=m
 l3:x.rs.length<=m
 s3:∀ s∈x.rs,s.1.size<=m/\s.2.size<=m
 l4:x.P.length<=m
 s4:∀ rs∈x.P,rs.length<=m/\∀ s∈rs,s.1.size<=m/\s.2.size<=m
 l5:x.ts.length<=m
 s5:∀ s∈x.ts,s.size<=m
def wsz (x:Wo):List Nat:=szs x.ss x.ws++(stsz x.rs++((x.P.length::x.P.flatMap stsz)++(x.ts.length::x.ts.map ByteArray.size)))
theorem wsz_le (x:Wo) (h:0<=szL (wsz x) 1048576):x.le 1048576:=by
 have hm:=szL_mem (wsz x) 1048576 (by omega) h
 have m:∀ n:Nat,n∈wsz x->n<=1048576:=fun n hn=>by have:=hm n hn;omega
 refine ⟨m _ ?_,fun s hs=>m _ ?_,m _ ?_,fun s hs=>m _ ?_,m _ ?_,fun s hs=>⟨m _ ?_,m _ ?_⟩,m _ ?_,fun rs hr=>⟨m _ ?_,fun s hs=>⟨m _ ?_,m _ ?_⟩⟩,m _ ?_,fun s hs=>m _ ?_⟩<;>unfold wsz
 ·exact List.mem_append_left _ (by simp [szs])
 ·exact List.mem_append_left _ (by simp only [szs,List.mem_append,List.mem_cons,List.mem_map];exact .inl (.inr ⟨s,hs,rfl⟩))
 ·exact List.mem_append_left _ (by simp [szs])
 ·exact List.mem_append_left _ (by simp only [szs,List.mem_append,List.mem_cons,List.mem_map];exact .inr (.inr ⟨s,hs,rfl⟩))
 ·exact List.mem_append_right _ (List.mem_append_left _ (by simp [stsz]))
 ·exact List.mem_append_right _ (List.mem_append_left _ (List.mem_cons_of_mem _ (List.mem_flatMap.2 ⟨s,hs,by simp [prsz]⟩)))
 ·exact List.mem_append_right _ (List.mem_append_left _ (List.mem_cons_of_mem _ (List.mem_flatMap.2 ⟨s,hs,by simp [prsz]⟩)))
 ·exact List.mem_append_right _ (List.mem_append_right _ (List.mem_append_left _ (by simp)))
 ·exact List.mem_append_right _ (List.mem_append_right _ (List.mem_append_left _ (List.mem_cons_of_mem _ (List.mem_flatMap.2 ⟨rs,hr,by simp [stsz]⟩))))
 ·exact List.mem_append_right _ (List.mem_append_right _ (List.mem_append_left _ (List.mem_cons_of_mem _ (List.mem_flatMap.2 ⟨rs,hr,List.mem_cons_of_mem _ (List.mem_flatMap.2 ⟨s,hs,by simp [prsz]⟩)⟩))))
 ·exact List.mem_append_right _ (List.mem_append_right _ (List.mem_append_left _ (List.mem_cons_of_mem _ (List.mem_flatMap.2 ⟨rs,hr,List.mem_cons_of_mem _ (List.mem_flatMap.2 ⟨s,hs,by simp [prsz]⟩)⟩))))
 ·exact List.mem_append_right _ (List.mem_append_right _ (List.mem_append_right _ (by simp)))
 ·exact List.mem_append_right _ (List.mem_append_right _ (List.mem_append_right _ (List.mem_cons_of_mem _ (List.mem_map.2 ⟨s,hs,rfl⟩))))
theorem OwnP.other {w:World} {g k:Nat} {P:List (List (ByteArray×ByteArray))} {gs:Nat->Nat} (h:OwnP w g P gs k) (p:Addr) (hp:p.block<g) (v:Value):OwnP (w.setCell p v) g P gs k :=
 ⟨h.row.other p (by omega) v,fun i hi=>⟨(h.st i hi).1.other p (by have:=(h.st i hi).2;omega) v,(h.st i hi).2⟩,h.asc⟩
set_option maxHeartbeats 4000000 in
theorem sz_world (x:Wo) (q:Wp) (w:World) (h:x.at w q) (hm:x.le maxLen) :
  Calls Tryz.prog 4 #[worldW x q,.int .i64 1048576] w fun e w'=>e=.returned (.int .i64 (szL (wsz x) 1048576))/\Below w.heap.size w w':=by
 unfold worldW
 have hE:Below w.heap.size w w:=Below.refl _ _
 obtain ⟨R1,HR1⟩:∃ R,Hid (R=szL (szs x.ss x.ws) 1048576):=⟨_,hid rfl⟩
 obtain ⟨R2,HR2⟩:∃ R,Hid (R=szL (stsz x.rs) R1):=⟨_,hid rfl⟩
 obtain ⟨R3,HR3⟩:∃ R,Hid (R=szL (x.P.length::x.P.flatMap stsz) R2):=⟨_,hid rfl⟩
 obtain ⟨R4,HR4⟩:∃ R,Hid (R=szL (x.ts.length::x.ts.map ByteArray.size) R3):=⟨_,hid rfl⟩
 have hw1:Hid (R1<0->szL (wsz x) 1048576=-1):=fun hc=>by unfold wsz;exact szL_append_no _ _ _ (by omega) (by rw [<-HR1.out];exact hc)
 have hw2:Hid (0<=R1->R2<0->szL (wsz x) 1048576=-1):=fun h1 hc=>by unfold wsz;rw [szL_append_yes _ _ _ (by omega) (by rw [<-HR1.out];exact h1),<-HR1.out];exact szL_append_no _ _ _ h1 (by rw [<-HR2.out];exact hc)
 have hw3:Hid (0<=R1->0<=R2->R3<0->szL (wsz x) 1048576=-1):=fun h1 h2 hc=>by unfold wsz;rw [szL_append_yes _ _ _ (by omega) (by rw [<-HR1.out];exact h1),<-HR1.out,szL_append_yes _ _ _ h1 (by rw [<-HR2.out];exact h2),<-HR2.out];exact szL_append_no _ _ _ h2 (by rw [<-HR3.out];exact hc)
 have hw4:Hid (0<=R1->0<=R2->0<=R3->szL (wsz x) 1048576=R4):=fun h1 h2 h3=>by unfold wsz;rw [szL_append_yes _ _ _ (by omega) (by rw [<-HR1.out];exact h1),<-HR1.out,szL_append_yes _ _ _ h1 (by rw [<-HR2.out];exact h2),<-HR2.out,szL_append_yes _ _ _ h2 (by rw [<-HR3.out];exact h3),<-HR3.out,HR4.out]
 have b1:=szL_bd (szs x.ss x.ws) 1048576 (by omega)
 rw [<-HR1.out] at b1
 have C1:=hid (fun w h h'=>sz_disk q.a x.ss q.c q.a' x.ws q.c' w h h' hm.l1 hm.s1 hm.l2 hm.s2)
 rw [<-HR1.out] at C1
 go_enter Tryz.func4,Tryz.ntmps4
 go_wp2_with fail
 generalize e_v1:w.alloc _=v1
 obtain ⟨hb,z_v1,bA⟩:=bx1 e_v1
 clear e_v1
 replace hE:=hE.trans (hb.mono hE.size)
 clear hb
 refine (C1.out _ (h.h1.below hE) (h.h2.below hE)).mono ?_
 rintro e v2 ⟨rfl,hb⟩
 have s_v2:v1.heap.size<=v2.heap.size:=hb.size
 replace bA:=bA.below hb
 replace hE:=hE.trans (hb.mono hE.size)
 clear hb
 by_cases c1:R1<0
 ·obtain rfl:R1=-1:=by omega
  go_wp2
  go_ret
  exact ⟨ret_int (hw1.out c1).symm,hE⟩
 have p1:0<=R1:=by omega
 have p1':R1<=1048576:=by omega
 clear b1
 have b2:=szL_bd (stsz x.rs) R1 p1
 rw [<-HR2.out] at b2
 have C2:=hid (fun w h=>sz_store x.W x.S x.L x.T x.H x.F x.R x.U x.O q.s x.rs q.cs w h R1 p1 p1' hm.l3 hm.s3)
 unfold storeV at C2
 have e2:szL (x.rs.length::x.rs.flatMap prsz) R1=R2:=HR2.out.symm
 rw [e2] at C2
 clear e2
 obtain ⟨q_bA_0,q_bA_1,q_bA_2,q_bA_3,q_bA_4,q_bA_5,q_bA_6,q_bA_7,q_bA_8,q_bA_9,q_bA_10,q_bA_11,q_bA_12,q_bA_13,q_bA_14,q_bA_15,q_bA_l⟩:=c16 bA.now
 go_wp2_with fail
 clear q_bA_0 q_bA_1 q_bA_2 q_bA_3 q_bA_4 q_bA_5 q_bA_6 q_bA_7 q_bA_8 q_bA_9 q_bA_10 q_bA_11 q_bA_12 q_bA_13 q_bA_14 q_bA_15 q_bA_l
 refine (C2.out _ (h.h3.below hE)).mono ?_
 rintro e v3 ⟨rfl,hb⟩
 have s_v3:v2.heap.size<=v3.heap.size:=hb.size
 replace bA:=bA.below hb
 replace hE:=hE.trans (hb.mono hE.size)
 clear hb
 by_cases c2:R2<0
 ·obtain rfl:R2=-1:=by omega
  go_wp2
  go_ret
  exact ⟨ret_int (hw2.out p1 c2).symm,hE⟩
 have p2:0<=R2:=by omega
 have p2':R2<=1048576:=by omega
 clear b2
 have b3:=szL_bd (x.P.length::x.P.flatMap stsz) R2 p2
 rw [<-HR3.out] at b3
 have C3:=hid (fun w h=>sz_past q.p x.P q.cp R2 w h p2 p2' hm.l4 hm.s4)
 rw [<-HR3.out] at C3
 obtain ⟨q_bA_0,q_bA_1,q_bA_2,q_bA_3,q_bA_4,q_bA_5,q_bA_6,q_bA_7,q_bA_8,q_bA_9,q_bA_10,q_bA_11,q_bA_12,q_bA_13,q_bA_14,q_bA_15,q_bA_l⟩:=c16 bA.now
 go_wp2_with fail
 clear q_bA_0 q_bA_1 q_bA_2 q_bA_3 q_bA_4 q_bA_5 q_bA_6 q_bA_7 q_bA_8 q_bA_9 q_bA_10 q_bA_11 q_bA_12 q_bA_13 q_bA_14 q_bA_15 q_bA_l
 refine (C3.out _ (h.h4.below hE)).mono ?_
 rintro e v4 ⟨rfl,hb⟩
 have s_v4:v3.heap.size<=v4.heap.size:=hb.size
 replace bA:=bA.below hb
 replace hE:=hE.trans (hb.mono hE.size)
 clear hb
 by_cases c3:R3<0
 ·obtain rfl:R3=-1:=by omega
  go_wp2
  go_ret
  exact ⟨ret_int (hw3.out p1 p2 c3).symm,hE⟩
 have p3:0<=R3:=by omega
 have p3':R3<=1048576:=by omega
 clear b3
 have b4:=szL_bd (x.ts.length::x.ts.map ByteArray.size) R3 p3
 rw [<-HR4.out] at b4
 have C4:=hid (fun w h=>sz_strs q.t x.ts q.ct R3 w h p3 p3' hm.l5 hm.s5)
 rw [<-HR4.out] at C4
 obtain ⟨q_bA_0,q_bA_1,q_bA_2,q_bA_3,q_bA_4,q_bA_5,q_bA_6,q_bA_7,q_bA_8,q_bA_9,q_bA_10,q_bA_11,q_bA_12,q_bA_13,q_bA_14,q_bA_15,q_bA_l⟩:=c16 bA.now
 go_wp2_with fail
 clear q_bA_0 q_bA_1 q_bA_2 q_bA_3 q_bA_4 q_bA_5 q_bA_6 q_bA_7 q_bA_8 q_bA_9 q_bA_10 q_bA_11 q_bA_12 q_bA_13 q_bA_14 q_bA_15 q_bA_l
 refine (C4.out _ (h.h5.below hE)).mono ?_
 rintro e v9 ⟨rfl,rfl⟩
 by_cases c4:R4<0
 ·obtain rfl:R4=-1:=by omega
  go_wp2
  go_ret
  exact ⟨ret_int (hw4.out p1 p2 p3).symm,hE⟩
 go_wp2
 go_ret
 exact ⟨ret_int (hw4.out p1 p2 p3).symm,hE⟩
structure OwnW (x:Wo) (w:World) (base g1 g2 g3 g4 g5:Nat) (gs:Nat->Nat):Prop where
 r1:Row w g1 (x.ss.map Value.string)
 r2:Row w g2 (wcells x.ws)
 r3:Row w g3 (prcells x.rs)
 r4:OwnP w g4 x.P gs x.P.length
 r5:Row w g5 (x.ts.map Value.string)
 b1:base<=g1
 b2:base<=g2
 n12:g1≠g2
 o13:g1<g3
 o23:g2<g3
 o34:g3<g4
 o45:g4<g5
 ogs:∀ i,i<x.P.length->gs i<g5
abbrev WpOf (x:Wo) (g1 g2 g3 g4 g5:Nat):Wp:=⟨some ⟨g1,0,none⟩,x.ss.length,some ⟨g2,0,none⟩,x.ws.length,some ⟨g3,0,none⟩,x.rs.length,some ⟨g4,0,none⟩,x.P.length,some ⟨g5,0,none⟩,x.ts.length⟩
theorem OwnW.below {x:Wo} {w w':World} {base g1 g2 g3 g4 g5:Nat} {gs:Nat->Nat} (h:OwnW x w base g1 g2 g3 g4 g5 gs) (hb:Below w.heap.size w w'):OwnW x w' base g1 g2 g3 g4 g5 gs :=
 ⟨h.r1.below hb,h.r2.below hb,h.r3.below hb,h.r4.below hb,h.r5.below hb,h.b1,h.b2,h.n12,h.o13,h.o23,h.o34,h.o45,h.ogs⟩
theorem OwnW.at {x:Wo} {w:World} {base g1 g2 g3 g4 g5:Nat} {gs:Nat->Nat} (h:OwnW x w base g1 g2 g3 g4 g5 gs):x.at w (WpOf x g1 g2 g3 g4 g5) :=
 ⟨h.r1.strs,h.r2.wrs,h.r3.prs,h.r4.pst,h.r5.strs⟩
theorem dep_ownp {w:World} {g lo:Nat} {P:List (List (ByteArray×ByteArray))} {gs:Nat->Nat} (h:OwnP w g P gs P.length) (h1:lo<=g):Dep w lo w.heap.size (fun w=>OwnP w g P gs P.length) :=
 ⟨h,Nat.le_refl _,fun w' k1 k2=>⟨row_same h.row (k1 g h1 h.row.lt) (Nat.lt_of_lt_of_le h.row.lt k2),fun i hi=>⟨row_same (h.st i hi).1 (k1 (gs i) (by have:=(h.st i hi).2;omega) (h.st i hi).1.lt) (Nat.lt_of_lt_of_le (h.st i hi).1.lt k2),(h.st i hi).2⟩,h.asc⟩⟩
set_option maxHeartbeats 8000000 in
theorem to_world (x:Wo) (q:Wp) (w:World) (h:x.at w q) (hm:x.le 1048576) :
  Calls Tryz.prog 6 #[worldW x q] w fun e w'=>∃ g1 g2 g3 g4 g5 gs,e=.returned (worldW x (WpOf x g1 g2 g3 g4 g5))/\OwnW x w' w.heap.size g1 g2 g3 g4 g5 gs/\Below w.heap.size w w':=by
 unfold worldW
 have hE:Below w.heap.size w w:=Below.refl _ _
 have C3:=hid (fun w h=>to_store x.W x.S x.L x.T x.H x.F x.R x.U x.O q.s x.rs q.cs w h hm.l3)
 unfold storeV at C3
 go_enter Tryz.func6,Tryz.ntmps6
 go_wp2_with fail
 obtain ⟨u0,e_u⟩:∃ xw,xw=(((w.alloc (.cells #[.int .i64 x.w,.slice q.a x.ss.length q.c,.slice q.a' x.ws.length q.c',.bool x.up,.int .i64 x.W,.int .i64 x.S,.int .i64 x.L,.int .i64 x.T,.int .i64 x.H,.int .i64 x.F,.int .i64 x.R,.int .i64 x.U,.int .i64 x.O,.slice q.s x.rs.length q.cs,.slice q.p x.P.length q.cp,.slice q.t x.ts.length q.ct] 35)).alloc (.cells #[.int .i64 0,.slice none 0 0,.slice none 0 0,.bool false,.int .i64 0,.int .i64 0,.int .i64 0,.int .i64 0,.int .i64 0,.int .i64 0,.int .i64 0,.int .i64 0,.int .i64 0,.slice none 0 0,.slice none 0 0,.slice none 0 0] 50)).alloc (.cells #[.int .i64 x.w,.slice none 0 0,.slice none 0 0,.bool false,.int .i64 0,.int .i64 0,.int .i64 0,.int .i64 0,.int .i64 0,.int .i64 0,.int .i64 0,.int .i64 0,.int .i64 0,.slice none 0 0,.slice none 0 0,.slice none 0 0] 50)):=⟨_,rfl⟩
 have z_u:u0.heap.size=w.heap.size+1+1+1:=by rw [e_u];simp
 have hb:Below w.heap.size w u0:=by rw [e_u];exact (((Below.refl _ _).alloc (Nat.le_refl _) _).alloc (by simp) _).alloc (by simp;omega) _
 have r_A:Row u0 w.heap.size [.int .i64 x.w,.slice q.a x.ss.length q.c,.slice q.a' x.ws.length q.c',.bool x.up,.int .i64 x.W,.int .i64 x.S,.int .i64 x.L,.int .i64 x.T,.int .i64 x.H,.int .i64 x.F,.int .i64 x.R,.int .i64 x.U,.int .i64 x.O,.slice q.s x.rs.length q.cs,.slice q.p x.P.length q.cp,.slice q.t x.ts.length q.ct]:=by rw [e_u];exact ((row_newW w #[.int .i64 x.w,.slice q.a x.ss.length q.c,.slice q.a' x.ws.length q.c',.bool x.up,.int .i64 x.W,.int .i64 x.S,.int .i64 x.L,.int .i64 x.T,.int .i64 x.H,.int .i64 x.F,.int .i64 x.R,.int .i64 x.U,.int .i64 x.O,.slice q.s x.rs.length q.cs,.slice q.p x.P.length q.cp,.slice q.t x.ts.length q.ct] 35 w.heap.size rfl).alloc _).alloc _
 have r_R:Row u0 (w.heap.size+1) [.int .i64 0,.slice none 0 0,.slice none 0 0,.bool false,.int .i64 0,.int .i64 0,.int .i64 0,.int .i64 0,.int .i64 0,.int .i64 0,.int .i64 0,.int .i64 0,.int .i64 0,.slice none 0 0,.slice none 0 0,.slice none 0 0]:=by rw [e_u];exact (row_newW _ #[.int .i64 0,.slice none 0 0,.slice none 0 0,.bool false,.int .i64 0,.int .i64 0,.int .i64 0,.int .i64 0,.int .i64 0,.int .i64 0,.int .i64 0,.int .i64 0,.int .i64 0,.slice none 0 0,.slice none 0 0,.slice none 0 0] 50 (w.heap.size+1) (by simp)).alloc _
 have r_O:Row u0 (w.heap.size+1+1) [.int .i64 x.w,.slice none 0 0,.slice none 0 0,.bool false,.int .i64 0,.int .i64 0,.int .i64 0,.int .i64 0,.int .i64 0,.int .i64 0,.int .i64 0,.int .i64 0,.int .i64 0,.slice none 0 0,.slice none 0 0,.slice none 0 0]:=by rw [e_u];exact row_newW _ #[.int .i64 x.w,.slice none 0 0,.slice none 0 0,.bool false,.int .i64 0,.int .i64 0,.int .i64 0,.int .i64 0,.int .i64 0,.int .i64 0,.int .i64 0,.int .i64 0,.int .i64 0,.slice none 0 0,.slice none 0 0,.slice none 0 0] 50 (w.heap.size+1+1) (by simp)
 have bA:Dep u0 (w.heap.size) (w.heap.size+1) (fun W=>Row W (w.heap.size) [.int .i64 x.w,.slice q.a x.ss.length q.c,.slice q.a' x.ws.length q.c',.bool x.up,.int .i64 x.W,.int .i64 x.S,.int .i64 x.L,.int .i64 x.T,.int .i64 x.H,.int .i64 x.F,.int .i64 x.R,.int .i64 x.U,.int .i64 x.O,.slice q.s x.rs.length q.cs,.slice q.p x.P.length q.cp,.slice q.t x.ts.length q.ct]):=dep_row r_A (Nat.le_refl _) (by omega) (by omega)
 have bR:Dep u0 (w.heap.size+1) (w.heap.size+1+1) (fun W=>Row W (w.heap.size+1) [.int .i64 0,.slice none 0 0,.slice none 0 0,.bool false,.int .i64 0,.int .i64 0,.int .i64 0,.int .i64 0,.int .i64 0,.int .i64 0,.int .i64 0,.int .i64 0,.int .i64 0,.slice none 0 0,.slice none 0 0,.slice none 0 0]):=dep_row r_R (Nat.le_refl _) (by omega) (by omega)
 have bO:Dep u0 (w.heap.size+1+1) (w.heap.size+1+1+1) (fun W=>Row W (w.heap.size+1+1) [.int .i64 x.w,.slice none 0 0,.slice none 0 0,.bool false,.int .i64 0,.int .i64 0,.int .i64 0,.int .i64 0,.int .i64 0,.int .i64 0,.int .i64 0,.int .i64 0,.int .i64 0,.slice none 0 0,.slice none 0 0,.slice none 0 0]):=dep_row r_O (Nat.le_refl _) (by omega) (by omega)
 clear r_A r_R r_O
 rw [<-e_u]
 clear e_u
 replace hE:=hE.trans (hb.mono hE.size)
 clear hb
 refine (to_disk q.a x.ss q.c q.a' x.ws q.c' _ (h.h1.below hE) (h.h2.below hE) hm.l1 hm.l2).mono ?_
 rintro e v2 ⟨g1,g2,rfl,hg1,hg2,hn12,hr1,hr2,hb⟩
 have s_v2:u0.heap.size<=v2.heap.size:=hb.size
 replace bA:=bA.below hb
 replace bR:=bR.below hb
 replace bO:=bO.below hb
 replace hE:=hE.trans (hb.mono hE.size)
 have d1:Dep v2 u0.heap.size v2.heap.size (fun W=>Row W g1 (x.ss.map Value.string)):=dep_row hr1 hg1 hr1.lt (Nat.le_refl _)
 have d2:Dep v2 u0.heap.size v2.heap.size (fun W=>Row W g2 (wcells x.ws)):=dep_row hr2 hg2 hr2.lt (Nat.le_refl _)
 have l1:=hr1.lt
 have l2:=hr2.lt
 clear hr1 hr2
 clear hb
 obtain ⟨q_bA_0,q_bA_1,q_bA_2,q_bA_3,q_bA_4,q_bA_5,q_bA_6,q_bA_7,q_bA_8,q_bA_9,q_bA_10,q_bA_11,q_bA_12,q_bA_13,q_bA_14,q_bA_15,q_bA_l⟩:=c16 bA.now
 have q_bO_0:=bO.now.cell 0 _ rfl
 have f_bO_0:=bO.now.froz 0 (by simp)
 have q_bO_1:=bO.now.cell 1 _ rfl
 have f_bO_1:=bO.now.froz 1 (by simp)
 have q_bO_2:=bO.now.cell 2 _ rfl
 have f_bO_2:=bO.now.froz 2 (by simp)
 have q_bO_3:=bO.now.cell 3 _ rfl
 have f_bO_3:=bO.now.froz 3 (by simp)
 have q_bO_4:=bO.now.cell 4 _ rfl
 have f_bO_4:=bO.now.froz 4 (by simp)
 have q_bO_5:=bO.now.cell 5 _ rfl
 have f_bO_5:=bO.now.froz 5 (by simp)
 have q_bO_6:=bO.now.cell 6 _ rfl
 have f_bO_6:=bO.now.froz 6 (by simp)
 have q_bO_7:=bO.now.cell 7 _ rfl
 have f_bO_7:=bO.now.froz 7 (by simp)
 have q_bO_8:=bO.now.cell 8 _ rfl
 have f_bO_8:=bO.now.froz 8 (by simp)
 have q_bO_9:=bO.now.cell 9 _ rfl
 have f_bO_9:=bO.now.froz 9 (by simp)
 have q_bO_10:=bO.now.cell 10 _ rfl
 have f_bO_10:=bO.now.froz 10 (by simp)
 have q_bO_11:=bO.now.cell 11 _ rfl
 have f_bO_11:=bO.now.froz 11 (by simp)
 have q_bO_12:=bO.now.cell 12 _ rfl
 have f_bO_12:=bO.now.froz 12 (by simp)
 have q_bO_13:=bO.now.cell 13 _ rfl
 have f_bO_13:=bO.now.froz 13 (by simp)
 have q_bO_14:=bO.now.cell 14 _ rfl
 have f_bO_14:=bO.now.froz 14 (by simp)
 have q_bO_15:=bO.now.cell 15 _ rfl
 have f_bO_15:=bO.now.froz 15 (by simp)
 have q_bO_l:=bO.now.lt
 go_wp2_with fail
 clear q_bA_0 q_bA_1 q_bA_2 q_bA_3 q_bA_4 q_bA_5 q_bA_6 q_bA_7 q_bA_8 q_bA_9 q_bA_10 q_bA_11 q_bA_12 q_bA_13 q_bA_14 q_bA_15 q_bA_l q_bO_0 f_bO_0 q_bO_1 f_bO_1 q_bO_2 f_bO_2 q_bO_3 f_bO_3 q_bO_4 f_bO_4 q_bO_5 f_bO_5 q_bO_6 f_bO_6 q_bO_7 f_bO_7 q_bO_8 f_bO_8 q_bO_9 f_bO_9 q_bO_10 f_bO_10 q_bO_11 f_bO_11 q_bO_12 f_bO_12 q_bO_13 f_bO_13 q_bO_14 f_bO_14 q_bO_15 f_bO_15 q_bO_l
 generalize e_v3:(((v2.setCell _ _).setCell _ _).setCell _ _)=v3
 have hgw:v2.grownBy v3 (some (w.heap.size+1+1)):=by rw [<-e_v3];exact grown_set (grown_set (grown_set (World.grownBy.refl _ _) _ _) _ _) _ _
 have r_new:=e_v3 ▸ (((bO.now.set 1 (by simp) (.slice (some ⟨g1,0,none⟩) x.ss.length x.ss.length)).set 2 (by simp) (.slice (some ⟨g2,0,none⟩) x.ws.length x.ws.length)).set 3 (by simp) (.bool x.up))
 have s_v3:v2.heap.size<=v3.heap.size:=hgw.size
 have hgr:∀ g,(some (w.heap.size+1+1):Option Nat)=some g->w.heap.size+1+1<=g/\g<w.heap.size+1+1+1:=fun g hg=>by injection hg with hg;omega
 clear e_v3
 replace bA:=bA.grown hgw (fun g hg=>by have:=hgr g hg;omega)
 replace bR:=bR.grown hgw (fun g hg=>by have:=hgr g hg;omega)
 replace d1:=d1.grown hgw (fun g hg=>by have:=hgr g hg;omega)
 replace d2:=d2.grown hgw (fun g hg=>by have:=hgr g hg;omega)
 replace hE:=hE.trans (grown_below hgw hE.size (fun g hg=>by have:=hgr g hg;omega))
 have l_new:=r_new.lt
 clear bO
 have bO:=dep_at r_new
 clear r_new hgw hgr l_new
 refine (C3.out _ (h.h3.below hE)).mono ?_
 rintro e v4 ⟨g3,rfl,hg3,hr3,hb⟩
 have s_v4:v3.heap.size<=v4.heap.size:=hb.size
 replace bA:=bA.below hb
 replace bR:=bR.below hb
 replace bO:=bO.below hb
 replace d1:=d1.below hb
 replace d2:=d2.below hb
 replace hE:=hE.trans (hb.mono hE.size)
 have d3:Dep v4 v3.heap.size v4.heap.size (fun W=>Row W g3 (prcells x.rs)):=dep_row hr3 hg3 hr3.lt (Nat.le_refl _)
 have l3:=hr3.lt
 clear hr3
 clear hb
 obtain ⟨q_bA_0,q_bA_1,q_bA_2,q_bA_3,q_bA_4,q_bA_5,q_bA_6,q_bA_7,q_bA_8,q_bA_9,q_bA_10,q_bA_11,q_bA_12,q_bA_13,q_bA_14,q_bA_15,q_bA_l⟩:=c16 bA.now
 have q_bO_0:=bO.now.cell 0 _ rfl
 have f_bO_0:=bO.now.froz 0 (by simp)
 have q_bO_1:=bO.now.cell 1 _ rfl
 have f_bO_1:=bO.now.froz 1 (by simp)
 have q_bO_2:=bO.now.cell 2 _ rfl
 have f_bO_2:=bO.now.froz 2 (by simp)
 have q_bO_3:=bO.now.cell 3 _ rfl
 have f_bO_3:=bO.now.froz 3 (by simp)
 have q_bO_4:=bO.now.cell 4 _ rfl
 have f_bO_4:=bO.now.froz 4 (by simp)
 have q_bO_5:=bO.now.cell 5 _ rfl
 have f_bO_5:=bO.now.froz 5 (by simp)
 have q_bO_6:=bO.now.cell 6 _ rfl
 have f_bO_6:=bO.now.froz 6 (by simp)
 have q_bO_7:=bO.now.cell 7 _ rfl
 have f_bO_7:=bO.now.froz 7 (by simp)
 have q_bO_8:=bO.now.cell 8 _ rfl
 have f_bO_8:=bO.now.froz 8 (by simp)
 have q_bO_9:=bO.now.cell 9 _ rfl
 have f_bO_9:=bO.now.froz 9 (by simp)
 have q_bO_10:=bO.now.cell 10 _ rfl
 have f_bO_10:=bO.now.froz 10 (by simp)
 have q_bO_11:=bO.now.cell 11 _ rfl
 have f_bO_11:=bO.now.froz 11 (by simp)
 have q_bO_12:=bO.now.cell 12 _ rfl
 have f_bO_12:=bO.now.froz 12 (by simp)
 have q_bO_13:=bO.now.cell 13 _ rfl
 have f_bO_13:=bO.now.froz 13 (by simp)
 have q_bO_14:=bO.now.cell 14 _ rfl
 have f_bO_14:=bO.now.froz 14 (by simp)
 have q_bO_15:=bO.now.cell 15 _ rfl
 have f_bO_15:=bO.now.froz 15 (by simp)
 have q_bO_l:=bO.now.lt
 go_wp2_with fail
 clear q_bA_0 q_bA_1 q_bA_2 q_bA_3 q_bA_4 q_bA_5 q_bA_6 q_bA_7 q_bA_8 q_bA_9 q_bA_10 q_bA_11 q_bA_12 q_bA_13 q_bA_14 q_bA_15 q_bA_l q_bO_0 f_bO_0 q_bO_1 f_bO_1 q_bO_2 f_bO_2 q_bO_3 f_bO_3 q_bO_4 f_bO_4 q_bO_5 f_bO_5 q_bO_6 f_bO_6 q_bO_7 f_bO_7 q_bO_8 f_bO_8 q_bO_9 f_bO_9 q_bO_10 f_bO_10 q_bO_11 f_bO_11 q_bO_12 f_bO_12 q_bO_13 f_bO_13 q_bO_14 f_bO_14 q_bO_15 f_bO_15 q_bO_l
 generalize e_v5:((((((((((v4.setCell _ _).setCell _ _).setCell _ _).setCell _ _).setCell _ _).setCell _ _).setCell _ _).setCell _ _).setCell _ _).setCell _ _)=v5
 have hgw:v4.grownBy v5 (some (w.heap.size+1+1)):=by rw [<-e_v5];exact grown_set (grown_set (grown_set (grown_set (grown_set (grown_set (grown_set (grown_set (grown_set (grown_set (World.grownBy.refl _ _) _ _) _ _) _ _) _ _) _ _) _ _) _ _) _ _) _ _) _ _
 have r_new:=e_v5 ▸ ((((((((((bO.now.set 4 (by simp) (.int .i64 x.W)).set 5 (by simp) (.int .i64 x.S)).set 6 (by simp) (.int .i64 x.L)).set 7 (by simp) (.int .i64 x.T)).set 8 (by simp) (.int .i64 x.H)).set 9 (by simp) (.int .i64 x.F)).set 10 (by simp) (.int .i64 x.R)).set 11 (by simp) (.int .i64 x.U)).set 12 (by simp) (.int .i64 x.O)).set 13 (by simp) (.slice (some ⟨g3,0,none⟩) x.rs.length x.rs.length))
 have s_v5:v4.heap.size<=v5.heap.size:=hgw.size
 have hgr:∀ g,(some (w.heap.size+1+1):Option Nat)=some g->w.heap.size+1+1<=g/\g<w.heap.size+1+1+1:=fun g hg=>by injection hg with hg;omega
 clear e_v5
 replace bA:=bA.grown hgw (fun g hg=>by have:=hgr g hg;omega)
 replace bR:=bR.grown hgw (fun g hg=>by have:=hgr g hg;omega)
 replace d1:=d1.grown hgw (fun g hg=>by have:=hgr g hg;omega)
 replace d2:=d2.grown hgw (fun g hg=>by have:=hgr g hg;omega)
 replace d3:=d3.grown hgw (fun g hg=>by have:=hgr g hg;omega)
 replace hE:=hE.trans (grown_below hgw hE.size (fun g hg=>by have:=hgr g hg;omega))
 have l_new:=r_new.lt
 clear bO
 have bO:=dep_at r_new
 clear r_new hgw hgr l_new
 refine (to_past q.p x.P q.cp _ (h.h4.below hE) hm.l4 (fun rs hr=>(hm.s4 rs hr).1)).mono ?_
 rintro e v6 ⟨g4,gs,rfl,hg4,hr4,hb⟩
 have s_v6:v5.heap.size<=v6.heap.size:=hb.size
 replace bA:=bA.below hb
 replace bR:=bR.below hb
 replace bO:=bO.below hb
 replace d1:=d1.below hb
 replace d2:=d2.below hb
 replace d3:=d3.below hb
 replace hE:=hE.trans (hb.mono hE.size)
 have d4:Dep v6 v5.heap.size v6.heap.size (fun W=>OwnP W g4 x.P gs x.P.length):=dep_ownp hr4 hg4
 have l4:=hr4.row.lt
 have lg:Hid (∀ i,i<x.P.length->gs i<v6.heap.size):=fun i hi=>(hr4.st i hi).1.lt
 clear hr4
 clear hb
 obtain ⟨q_bA_0,q_bA_1,q_bA_2,q_bA_3,q_bA_4,q_bA_5,q_bA_6,q_bA_7,q_bA_8,q_bA_9,q_bA_10,q_bA_11,q_bA_12,q_bA_13,q_bA_14,q_bA_15,q_bA_l⟩:=c16 bA.now
 have q_bO_0:=bO.now.cell 0 _ rfl
 have f_bO_0:=bO.now.froz 0 (by simp)
 have q_bO_1:=bO.now.cell 1 _ rfl
 have f_bO_1:=bO.now.froz 1 (by simp)
 have q_bO_2:=bO.now.cell 2 _ rfl
 have f_bO_2:=bO.now.froz 2 (by simp)
 have q_bO_3:=bO.now.cell 3 _ rfl
 have f_bO_3:=bO.now.froz 3 (by simp)
 have q_bO_4:=bO.now.cell 4 _ rfl
 have f_bO_4:=bO.now.froz 4 (by simp)
 have q_bO_5:=bO.now.cell 5 _ rfl
 have f_bO_5:=bO.now.froz 5 (by simp)
 have q_bO_6:=bO.now.cell 6 _ rfl
 have f_bO_6:=bO.now.froz 6 (by simp)
 have q_bO_7:=bO.now.cell 7 _ rfl
 have f_bO_7:=bO.now.froz 7 (by simp)
 have q_bO_8:=bO.now.cell 8 _ rfl
 have f_bO_8:=bO.now.froz 8 (by simp)
 have q_bO_9:=bO.now.cell 9 _ rfl
 have f_bO_9:=bO.now.froz 9 (by simp)
 have q_bO_10:=bO.now.cell 10 _ rfl
 have f_bO_10:=bO.now.froz 10 (by simp)
 have q_bO_11:=bO.now.cell 11 _ rfl
 have f_bO_11:=bO.now.froz 11 (by simp)
 have q_bO_12:=bO.now.cell 12 _ rfl
 have f_bO_12:=bO.now.froz 12 (by simp)
 have q_bO_13:=bO.now.cell 13 _ rfl
 have f_bO_13:=bO.now.froz 13 (by simp)
 have q_bO_14:=bO.now.cell 14 _ rfl
 have f_bO_14:=bO.now.froz 14 (by simp)
 have q_bO_15:=bO.now.cell 15 _ rfl
 have f_bO_15:=bO.now.froz 15 (by simp)
 have q_bO_l:=bO.now.lt
 go_wp2_with fail
 clear q_bA_0 q_bA_1 q_bA_2 q_bA_3 q_bA_4 q_bA_5 q_bA_6 q_bA_7 q_bA_8 q_bA_9 q_bA_10 q_bA_11 q_bA_12 q_bA_13 q_bA_14 q_bA_15 q_bA_l q_bO_0 f_bO_0 q_bO_1 f_bO_1 q_bO_2 f_bO_2 q_bO_3 f_bO_3 q_bO_4 f_bO_4 q_bO_5 f_bO_5 q_bO_6 f_bO_6 q_bO_7 f_bO_7 q_bO_8 f_bO_8 q_bO_9 f_bO_9 q_bO_10 f_bO_10 q_bO_11 f_bO_11 q_bO_12 f_bO_12 q_bO_13 f_bO_13 q_bO_14 f_bO_14 q_bO_15 f_bO_15 q_bO_l
 generalize e_v7:(v6.setCell _ _)=v7
 have hgw:v6.grownBy v7 (some (w.heap.size+1+1)):=by rw [<-e_v7];exact grown_set (World.grownBy.refl _ _) _ _
 have r_new:=e_v7 ▸ (bO.now.set 14 (by simp) (.slice (some ⟨g4,0,none⟩) x.P.length x.P.length))
 have s_v7:v6.heap.size<=v7.heap.size:=hgw.size
 have hgr:∀ g,(some (w.heap.size+1+1):Option Nat)=some g->w.heap.size+1+1<=g/\g<w.heap.size+1+1+1:=fun g hg=>by injection hg with hg;omega
 clear e_v7
 replace bA:=bA.grown hgw (fun g hg=>by have:=hgr g hg;omega)
 replace bR:=bR.grown hgw (fun g hg=>by have:=hgr g hg;omega)
 replace d1:=d1.grown hgw (fun g hg=>by have:=hgr g hg;omega)
 replace d2:=d2.grown hgw (fun g hg=>by have:=hgr g hg;omega)
 replace d3:=d3.grown hgw (fun g hg=>by have:=hgr g hg;omega)
 replace d4:=d4.grown hgw (fun g hg=>by have:=hgr g hg;omega)
 replace hE:=hE.trans (grown_below hgw hE.size (fun g hg=>by have:=hgr g hg;omega))
 have l_new:=r_new.lt
 clear bO
 have bO:=dep_at r_new
 clear r_new hgw hgr l_new
 refine (to_strs q.t x.ts q.ct _ (h.h5.below hE) hm.l5).mono ?_
 rintro e v8 ⟨g5,rfl,hg5,hr5,hb⟩
 have s_v8:v7.heap.size<=v8.heap.size:=hb.size
 replace bA:=bA.below hb
 replace bR:=bR.below hb
 replace bO:=bO.below hb
 replace d1:=d1.below hb
 replace d2:=d2.below hb
 replace d3:=d3.below hb
 replace d4:=d4.below hb
 replace hE:=hE.trans (hb.mono hE.size)
 have d5:Dep v8 v7.heap.size v8.heap.size (fun W=>Row W g5 (x.ts.map Value.string)):=dep_row hr5 hg5 hr5.lt (Nat.le_refl _)
 have l5:=hr5.lt
 clear hr5
 clear hb
 have q_bO_0:=bO.now.cell 0 _ rfl
 have f_bO_0:=bO.now.froz 0 (by simp)
 have q_bO_1:=bO.now.cell 1 _ rfl
 have f_bO_1:=bO.now.froz 1 (by simp)
 have q_bO_2:=bO.now.cell 2 _ rfl
 have f_bO_2:=bO.now.froz 2 (by simp)
 have q_bO_3:=bO.now.cell 3 _ rfl
 have f_bO_3:=bO.now.froz 3 (by simp)
 have q_bO_4:=bO.now.cell 4 _ rfl
 have f_bO_4:=bO.now.froz 4 (by simp)
 have q_bO_5:=bO.now.cell 5 _ rfl
 have f_bO_5:=bO.now.froz 5 (by simp)
 have q_bO_6:=bO.now.cell 6 _ rfl
 have f_bO_6:=bO.now.froz 6 (by simp)
 have q_bO_7:=bO.now.cell 7 _ rfl
 have f_bO_7:=bO.now.froz 7 (by simp)
 have q_bO_8:=bO.now.cell 8 _ rfl
 have f_bO_8:=bO.now.froz 8 (by simp)
 have q_bO_9:=bO.now.cell 9 _ rfl
 have f_bO_9:=bO.now.froz 9 (by simp)
 have q_bO_10:=bO.now.cell 10 _ rfl
 have f_bO_10:=bO.now.froz 10 (by simp)
 have q_bO_11:=bO.now.cell 11 _ rfl
 have f_bO_11:=bO.now.froz 11 (by simp)
 have q_bO_12:=bO.now.cell 12 _ rfl
 have f_bO_12:=bO.now.froz 12 (by simp)
 have q_bO_13:=bO.now.cell 13 _ rfl
 have f_bO_13:=bO.now.froz 13 (by simp)
 have q_bO_14:=bO.now.cell 14 _ rfl
 have f_bO_14:=bO.now.froz 14 (by simp)
 have q_bO_15:=bO.now.cell 15 _ rfl
 have f_bO_15:=bO.now.froz 15 (by simp)
 have q_bO_l:=bO.now.lt
 have q_bR_0:=bR.now.cell 0 _ rfl
 have f_bR_0:=bR.now.froz 0 (by simp)
 have q_bR_1:=bR.now.cell 1 _ rfl
 have f_bR_1:=bR.now.froz 1 (by simp)
 have q_bR_2:=bR.now.cell 2 _ rfl
 have f_bR_2:=bR.now.froz 2 (by simp)
 have q_bR_3:=bR.now.cell 3 _ rfl
 have f_bR_3:=bR.now.froz 3 (by simp)
 have q_bR_4:=bR.now.cell 4 _ rfl
 have f_bR_4:=bR.now.froz 4 (by simp)
 have q_bR_5:=bR.now.cell 5 _ rfl
 have f_bR_5:=bR.now.froz 5 (by simp)
 have q_bR_6:=bR.now.cell 6 _ rfl
 have f_bR_6:=bR.now.froz 6 (by simp)
 have q_bR_7:=bR.now.cell 7 _ rfl
 have f_bR_7:=bR.now.froz 7 (by simp)
 have q_bR_8:=bR.now.cell 8 _ rfl
 have f_bR_8:=bR.now.froz 8 (by simp)
 have q_bR_9:=bR.now.cell 9 _ rfl
 have f_bR_9:=bR.now.froz 9 (by simp)
 have q_bR_10:=bR.now.cell 10 _ rfl
 have f_bR_10:=bR.now.froz 10 (by simp)
 have q_bR_11:=bR.now.cell 11 _ rfl
 have f_bR_11:=bR.now.froz 11 (by simp)
 have q_bR_12:=bR.now.cell 12 _ rfl
 have f_bR_12:=bR.now.froz 12 (by simp)
 have q_bR_13:=bR.now.cell 13 _ rfl
 have f_bR_13:=bR.now.froz 13 (by simp)
 have q_bR_14:=bR.now.cell 14 _ rfl
 have f_bR_14:=bR.now.froz 14 (by simp)
 have q_bR_15:=bR.now.cell 15 _ rfl
 have f_bR_15:=bR.now.froz 15 (by simp)
 have q_bR_l:=bR.now.lt
 go_wp2
 clear q_bO_0 f_bO_0 q_bO_1 f_bO_1 q_bO_2 f_bO_2 q_bO_3 f_bO_3 q_bO_4 f_bO_4 q_bO_5 f_bO_5 q_bO_6 f_bO_6 q_bO_7 f_bO_7 q_bO_8 f_bO_8 q_bO_9 f_bO_9 q_bO_10 f_bO_10 q_bO_11 f_bO_11 q_bO_12 f_bO_12 q_bO_13 f_bO_13 q_bO_14 f_bO_14 q_bO_15 f_bO_15 q_bO_l
 have ne:w.heap.size+1+1≠w.heap.size+1:=by omega
 refine bodyPost_ret (v:=.agg #[.int .i64 x.w,.slice (some ⟨g1,0,none⟩) x.ss.length x.ss.length,.slice (some ⟨g2,0,none⟩) x.ws.length x.ws.length,.bool x.up,.int .i64 x.W,.int .i64 x.S,.int .i64 x.L,.int .i64 x.T,.int .i64 x.H,.int .i64 x.F,.int .i64 x.R,.int .i64 x.U,.int .i64 x.O,.slice (some ⟨g3,0,none⟩) x.rs.length x.rs.length,.slice (some ⟨g4,0,none⟩) x.P.length x.P.length,.slice (some ⟨g5,0,none⟩) x.ts.length x.ts.length]) (by simp [results,Tryz.results6,go_sem,q_bR_0,f_bR_0,q_bR_1,f_bR_1,q_bR_2,f_bR_2,q_bR_3,f_bR_3,q_bR_4,f_bR_4,q_bR_5,f_bR_5,q_bR_6,f_bR_6,q_bR_7,f_bR_7,q_bR_8,f_bR_8,q_bR_9,f_bR_9,q_bR_10,f_bR_10,q_bR_11,f_bR_11,q_bR_12,f_bR_12,q_bR_13,f_bR_13,q_bR_14,f_bR_14,q_bR_15,f_bR_15,q_bR_l]) rfl ⟨g1,g2,g3,g4,g5,gs,rfl,?_,?_⟩
 ·refine ⟨?_,?_,?_,?_,?_,by omega,by omega,hn12,by omega,by omega,by omega,by omega,fun i hi=>by have:=lg.out i hi;omega⟩
  ·iterate 17 (refine Row.other ?_ _ (by first | (show w.heap.size+1+1≠_;omega) | (show w.heap.size+1≠_;omega)) _)
   exact d1.now
  ·iterate 17 (refine Row.other ?_ _ (by first | (show w.heap.size+1+1≠_;omega) | (show w.heap.size+1≠_;omega)) _)
   exact d2.now
  ·iterate 17 (refine Row.other ?_ _ (by first | (show w.heap.size+1+1≠_;omega) | (show w.heap.size+1≠_;omega)) _)
   exact d3.now
  ·iterate 17 (refine OwnP.other ?_ _ (by first | (show w.heap.size+1+1<_;omega) | (show w.heap.size+1<_;omega)) _)
   exact d4.now
  ·iterate 17 (refine Row.other ?_ _ (by first | (show w.heap.size+1+1≠_;omega) | (show w.heap.size+1≠_;omega)) _)
   exact d5.now
 ·iterate 17 (refine Below.setCell ?_ (by first | (show w.heap.size<=w.heap.size+1+1;omega) | (show w.heap.size<=w.heap.size+1;omega)) _)
  exact hE
set_option maxHeartbeats 4000000 in
theorem eq_world (x:Wo) (q r:Wp) (w:World) (h:x.at w q) (k:x.at w r) (hm:x.le 1048576) :
  Calls Tryz.prog 9 #[worldW x q,worldW x r] w fun e w'=>e=.returned (.bool true)/\Below w.heap.size w w':=by
 unfold worldW
 have hE:Below w.heap.size w w:=Below.refl _ _
 have C3:=hid (fun w h k=>eq_store x.W x.S x.L x.T x.H x.F x.R x.U x.O q.s r.s x.rs q.cs r.cs w h k hm.l3)
 unfold storeV at C3
 go_enter Tryz.func9,Tryz.ntmps9
 go_wp2_with fail
 generalize e_v1:w.alloc _=v1
 obtain ⟨hb,z_v1,bA⟩:=bx1 e_v1
 clear e_v1
 replace hE:=hE.trans (hb.mono hE.size)
 clear hb
 generalize e_v2:v1.alloc _=v2
 obtain ⟨hb,z_v2,bB⟩:=bx1 e_v2
 clear e_v2
 rw [z_v1] at bB z_v2
 replace bA:=bA.below hb
 replace hE:=hE.trans (hb.mono hE.size)
 clear hb
 refine (eq_disk q.a r.a x.ss q.c r.c q.a' r.a' x.ws q.c' r.c' _ (h.h1.below hE) (k.h1.below hE) (h.h2.below hE) (k.h2.below hE) hm.l1 hm.l2).mono ?_
 rintro e v3 ⟨rfl,hb⟩
 have s_v3:v2.heap.size<=v3.heap.size:=hb.size
 replace bA:=bA.below hb
 replace bB:=bB.below hb
 replace hE:=hE.trans (hb.mono hE.size)
 clear hb
 obtain ⟨q_bA_0,q_bA_1,q_bA_2,q_bA_3,q_bA_4,q_bA_5,q_bA_6,q_bA_7,q_bA_8,q_bA_9,q_bA_10,q_bA_11,q_bA_12,q_bA_13,q_bA_14,q_bA_15,q_bA_l⟩:=c16 bA.now
 obtain ⟨q_bB_0,q_bB_1,q_bB_2,q_bB_3,q_bB_4,q_bB_5,q_bB_6,q_bB_7,q_bB_8,q_bB_9,q_bB_10,q_bB_11,q_bB_12,q_bB_13,q_bB_14,q_bB_15,q_bB_l⟩:=c16 bB.now
 go_wp2_with fail
 clear q_bA_0 q_bA_1 q_bA_2 q_bA_3 q_bA_4 q_bA_5 q_bA_6 q_bA_7 q_bA_8 q_bA_9 q_bA_10 q_bA_11 q_bA_12 q_bA_13 q_bA_14 q_bA_15 q_bA_l q_bB_0 q_bB_1 q_bB_2 q_bB_3 q_bB_4 q_bB_5 q_bB_6 q_bB_7 q_bB_8 q_bB_9 q_bB_10 q_bB_11 q_bB_12 q_bB_13 q_bB_14 q_bB_15 q_bB_l
 refine (C3.out _ (h.h3.below hE) (k.h3.below hE)).mono ?_
 rintro e v4 ⟨rfl,hb⟩
 have s_v4:v3.heap.size<=v4.heap.size:=hb.size
 replace bA:=bA.below hb
 replace bB:=bB.below hb
 replace hE:=hE.trans (hb.mono hE.size)
 clear hb
 obtain ⟨q_bA_0,q_bA_1,q_bA_2,q_bA_3,q_bA_4,q_bA_5,q_bA_6,q_bA_7,q_bA_8,q_bA_9,q_bA_10,q_bA_11,q_bA_12,q_bA_13,q_bA_14,q_bA_15,q_bA_l⟩:=c16 bA.now
 obtain ⟨q_bB_0,q_bB_1,q_bB_2,q_bB_3,q_bB_4,q_bB_5,q_bB_6,q_bB_7,q_bB_8,q_bB_9,q_bB_10,q_bB_11,q_bB_12,q_bB_13,q_bB_14,q_bB_15,q_bB_l⟩:=c16 bB.now
 go_wp2_with fail
 clear q_bA_0 q_bA_1 q_bA_2 q_bA_3 q_bA_4 q_bA_5 q_bA_6 q_bA_7 q_bA_8 q_bA_9 q_bA_10 q_bA_11 q_bA_12 q_bA_13 q_bA_14 q_bA_15 q_bA_l q_bB_0 q_bB_1 q_bB_2 q_bB_3 q_bB_4 q_bB_5 q_bB_6 q_bB_7 q_bB_8 q_bB_9 q_bB_10 q_bB_11 q_bB_12 q_bB_13 q_bB_14 q_bB_15 q_bB_l
 refine (eq_pst q.p r.p x.P q.cp r.cp _ (h.h4.below hE) (k.h4.below hE) hm.l4 (fun rs hr=>(hm.s4 rs hr).1)).mono ?_
 rintro e v5 ⟨rfl,hb⟩
 have s_v5:v4.heap.size<=v5.heap.size:=hb.size
 replace bA:=bA.below hb
 replace bB:=bB.below hb
 replace hE:=hE.trans (hb.mono hE.size)
 clear hb
 obtain ⟨q_bA_0,q_bA_1,q_bA_2,q_bA_3,q_bA_4,q_bA_5,q_bA_6,q_bA_7,q_bA_8,q_bA_9,q_bA_10,q_bA_11,q_bA_12,q_bA_13,q_bA_14,q_bA_15,q_bA_l⟩:=c16 bA.now
 obtain ⟨q_bB_0,q_bB_1,q_bB_2,q_bB_3,q_bB_4,q_bB_5,q_bB_6,q_bB_7,q_bB_8,q_bB_9,q_bB_10,q_bB_11,q_bB_12,q_bB_13,q_bB_14,q_bB_15,q_bB_l⟩:=c16 bB.now
 go_wp2_with fail
 clear q_bA_0 q_bA_1 q_bA_2 q_bA_3 q_bA_4 q_bA_5 q_bA_6 q_bA_7 q_bA_8 q_bA_9 q_bA_10 q_bA_11 q_bA_12 q_bA_13 q_bA_14 q_bA_15 q_bA_l q_bB_0 q_bB_1 q_bB_2 q_bB_3 q_bB_4 q_bB_5 q_bB_6 q_bB_7 q_bB_8 q_bB_9 q_bB_10 q_bB_11 q_bB_12 q_bB_13 q_bB_14 q_bB_15 q_bB_l
 refine (eq_strs q.t r.t x.ts q.ct r.ct _ (h.h5.below hE) (k.h5.below hE) hm.l5).mono ?_
 rintro e v6 ⟨rfl,hb⟩
 have s_v6:v5.heap.size<=v6.heap.size:=hb.size
 replace bA:=bA.below hb
 replace bB:=bB.below hb
 replace hE:=hE.trans (hb.mono hE.size)
 clear hb
 go_wp2
 go_ret
 exact ⟨rfl,hE⟩
end Go.Proofs.YtcoegjnjjdndjaaGreatDoor
