import Derived.Test.YthdilmkbnpmdaaaPrG45
import Derived.Test.YthdilmkbnpmdaaaPrG33
set_option maxHeartbeats 16000000
set_option maxRecDepth 8000
set_option linter.unusedVariables false
set_option linter.unusedSimpArgs false
namespace Go.Proofs.Ythdilmkbnpmdaaa
open Go.RowKit
def DkPost (w w':World) (e:Ending) (ss:List ByteArray) (ws:List (Int×ByteArray)):Prop:=∃ g c g' c',e=.returned (diskV (some ⟨g,0,none⟩) ss.length c (some ⟨g',0,none⟩) ws.length c')/\w'.ownsRow w.heap.size 9 1 (.slice (some ⟨g,0,none⟩) ss.length c) ss.length (ss.map Value.string)/\w'.ownsRow w.heap.size 46 2 (.slice (some ⟨g',0,none⟩) ws.length c') ws.length (wcells ws)/\g≠g'/\Below w.heap.size w w'
theorem copy_o (a:Option Addr) (ss:List ByteArray) (c:Nat) (a':Option Addr) (ws:List (Int×ByteArray)) (c':Nat) (w:World) (h:Strs w a ss) (h':Wrs w a' ws) (hl:ss.length<=1048576) (hl':ws.length<=1048576) :
  Calls Try.prog 21 #[diskV a ss.length c a' ws.length c'] w fun e w'=>DkPost w w' e ss ws:=by
 obtain ⟨i0,hi0,hz0,hz1,hz2⟩:=info_parts' infoStr
 have HI:=hid (And.intro hi0 (And.intro hz0 (And.intro hz1 hz2)))
 clear hi0 hz0 hz1 hz2
 obtain ⟨i1,hi0,hz0,hz1,hz2⟩:=info_parts' infoWr
 have HJ:=hid (And.intro hi0 (And.intro hz0 (And.intro hz1 hz2)))
 clear hi0 hz0 hz1 hz2
 unfold diskV
 go_enter Try.func21,Try.ntmps21
 go_wp2_with fail
 generalize e_v1:w.alloc _=v1
 obtain ⟨b1,z1,bA⟩:=bx1 e_v1
 clear e_v1
 generalize e_v2:v1.alloc _=v2
 obtain ⟨b2,z2,bR⟩:=bx1 e_v2
 clear e_v2
 rw [z1] at bR
 have HZ:Hid (v2.heap.size=w.heap.size+1+1):=hid (by omega)
 have hE:Below w.heap.size w v2:=b1.trans (b2.mono (by omega))
 replace bA:=bA.below b2
 clear b1 b2 z1 z2
 have HK:Hid (∀ W,Below v2.heap.size v2 W->W.cell? ⟨w.heap.size,0,none⟩=some (.slice a ss.length c)/\W.cell? ⟨w.heap.size,1,none⟩=some (.slice a' ws.length c')):=fun W hb=>⟨(bA.below hb).now.cell 0 _ rfl,(bA.below hb).now.cell 1 _ rfl⟩
 refine wp_region_held_drew (S:=fun w'=>w'.cell? ⟨w.heap.size,0,none⟩=some (.slice a ss.length c)/\w'.cell? ⟨w.heap.size,1,none⟩=some (.slice a' ws.length c')) (by kernel_rfl) (HK.out _ (Below.refl _ _).drew) (fun hHe=>?_)
 refine TY 1 (.pointer (some ⟨w.heap.size,0,none⟩)) rfl hHe ?_
 simp only [PS]
 refine TY 2 (.slice a ss.length c) rfl hHe ?_
 simp only [PS]
 refine TY 5 (.pointer (some ⟨w.heap.size,1,none⟩)) rfl hHe ?_
 simp only [PS]
 refine TY 6 (.slice a' ws.length c') rfl hHe ?_
 simp only [PS]
 refine wpAnyH_ready (rs:=[0,4]) (by kernel_rfl) (by simp) ?_
 refine AllReadyH.cons rfl (fun Kq hKq=>?_) (AllReadyH.cons rfl (fun Kq hKq=>?_) AllReadyH.nil)
 ·obtain ⟨y0,e_y0⟩:∃ y,y=v2.drew:=⟨_,rfl⟩
  rw [<-e_y0]
  have hA0:Below v2.heap.size v2 y0:=by rw [e_y0];exact (Below.refl _ _).drew
  clear e_y0
  go_simp
  have hb0:=below_nwD y0 (.cells #[] 9)
  have o_b0:=World.ownsRow_lit (w:=y0) (e:=9) (size:=1) (base:=w.heap.size) #[] 0 (by have:=hA0.size;have:=HZ.out;omega) (by simp) (by simp)
  have l0:=(show (y0.alloc (.cells #[] 9)).heap.size=y0.heap.size+1 by simp)
  obtain ⟨y1,e_n⟩:∃ y,y=y0.alloc (.cells #[] 9):=⟨_,rfl⟩
  obtain ⟨b0,e_b0⟩:∃ y,y=y0.heap.size:=⟨_,rfl⟩
  rw [<-e_n] at hb0 o_b0 l0 ⊢
  rw [<-e_b0] at o_b0 ⊢
  have hA1:=hA0.trans (hb0.mono hA0.size)
  have E0:=hid e_b0
  have LS0:=hid l0
  clear l0
  clear e_n
  clear e_b0
  refine hKq.out _ _ (HK.out _ hA1) (fun hHd1=>?_)
  try simp only [PS]
  refine wpAnyH_ready (rs:=[3,4]) (by kernel_rfl) (by simp) ?_
  refine AllReadyH.cons rfl (fun Kq hKq=>?_) (AllReadyH.cons rfl (fun Kq hKq=>?_) AllReadyH.nil)
  ·refine step_append_copy3 (by rfl) _ _ 23 (by rfl) 9 i0 (.string ByteArray.empty) 1 16 Try.underlying23 HI.out.1 HI.out.2.1 HI.out.2.2.1 HI.out.2.2.2 rfl b0 w.heap.size (by rfl) o_b0 _ (by rfl) ss.length _ (src_strs (h.below (hE.trans (hA1.mono hE.size))) _ _ Try.underlying23 _) (by omega) (by omega) (by have:=hA1.size;have:=hE.size;omega) ?_
   intro g3 cap3 y2 o_g3 hg3 hb1
   have hA2:=hA1.trans (hb1.mono hA1.size)
   have lg3:g3<y2.heap.size:=(o_g3.lt _ rfl).2
   refine hKq.out _ _ (HK.out _ hA2) (fun hHd2=>?_)
   try simp only [PS]
   refine RD 4 rfl (fun Kq hKq=>?_)
   go_simp
   have hb2:=below_nwD y2 (.cells #[] 46)
   have o_b4:=World.ownsRow_lit (w:=y2) (e:=46) (size:=2) (base:=w.heap.size) #[] 0 (by have:=hA2.size;have:=HZ.out;omega) (by simp) (by simp)
   have l2:=(show (y2.alloc (.cells #[] 46)).heap.size=y2.heap.size+1 by simp)
   obtain ⟨y3,e_n⟩:∃ y,y=y2.alloc (.cells #[] 46):=⟨_,rfl⟩
   obtain ⟨b4,e_b4⟩:∃ y,y=y2.heap.size:=⟨_,rfl⟩
   rw [<-e_n] at hb2 o_b4 l2 ⊢
   rw [<-e_b4] at o_b4 ⊢
   have hA3:=hA2.trans (hb2.mono hA2.size)
   have E4:=hid e_b4
   have LS2:=hid l2
   clear l2
   clear e_n
   clear e_b4
   have o_g3:=owns_below o_g3 hb2
   refine hKq.out _ _ (HK.out _ hA3) (fun hHd3=>?_)
   try simp only [PS]
   refine RD 7 rfl (fun Kq hKq=>?_)
   refine step_append_copy3 (by rfl) _ _ 24 (by rfl) 46 i1 (.agg #[.int .i64 0,.string ByteArray.empty]) 2 24 Try.underlying24 HJ.out.1 HJ.out.2.1 HJ.out.2.2.1 HJ.out.2.2.2 rfl b4 w.heap.size (by rfl) o_b4 _ (by rfl) ws.length _ (src_wrs (h'.below (hE.trans (hA3.mono hE.size))) _ _ Try.underlying24 _) (by omega) (by omega) (by have:=hA3.size;have:=hE.size;omega) ?_
   intro g7 cap7 y4 o_g7 hg7 hb3
   have hA4:=hA3.trans (hb3.mono hA3.size)
   have o_g3:=owns_below o_g3 hb3
   refine hKq.out _ _ (HK.out _ hA4) (fun hHd4=>?_)
   try simp only [PS]
   refine TY 8 (.agg #[.slice (some ⟨g3,0,none⟩) ss.length cap3,.slice (some ⟨g7,0,none⟩) ws.length cap7]) rfl hHd4 ?_
   simp only [PS]
   refine RD 9 rfl (fun Kq hKq=>?_)
   have R2:=(bR.below hA4).now
   have k0:=R2.cell 0 _ rfl
   have k1:=R2.cell 1 _ rfl
   obtain ⟨f0,f1⟩:=R2.z2
   have kl:=R2.lt
   go_simp
   refine hKq.out _ _ ((HK.out _ hA4).imp (fun k=>(World.cell?_setCell_far _ _ _ _ (by simp)).trans ((World.cell?_setCell_far _ _ _ _ (by simp)).trans k)) (fun k=>(World.cell?_setCell_far _ _ _ _ (by simp)).trans ((World.cell?_setCell_far _ _ _ _ (by simp)).trans k))) (fun hHd5=>?_)
   try simp only [PS]
   refine DN ?_
   go_wp2_with fail
   have rF:=(R2.set 0 (by simp) (.slice (some ⟨g3,0,none⟩) ss.length cap3)).set 1 (by simp) (.slice (some ⟨g7,0,none⟩) ws.length cap7)
   have s0:=hA0.size
   have sz:=HZ.out
   have e0:=E0.out
   have e4:=E4.out
   have t0:=hb0.size
   have t1:=hb1.size
   have t2:=hb2.size
   have t3:=hb3.size
   have q0:=LS0.out
   have q2:=LS2.out
   have gA:g3≠w.heap.size+1:=fun e=>by clear o_g3 o_g7;rcases hg3 with hg3 | hg3<;>omega
   have gB:g7≠w.heap.size+1:=fun e=>by rcases hg7 with hg7 | hg7<;>omega
   have gC:g3≠g7:=by rcases hg3 with hg3 | hg3<;>rcases hg7 with hg7 | hg7<;>omega
   clear q0 q2 sz e0 e4
   have o3:=ownsRow_setCell_other (a:=⟨w.heap.size+1,1,none⟩) (ownsRow_setCell_other (a:=⟨w.heap.size+1,0,none⟩) o_g3 (fun e=>gA (by injection e)) (.slice (some ⟨g3,0,none⟩) ss.length cap3)) (fun e=>gA (by injection e)) (.slice (some ⟨g7,0,none⟩) ws.length cap7)
   have o7:=ownsRow_setCell_other (a:=⟨w.heap.size+1,1,none⟩) (ownsRow_setCell_other (a:=⟨w.heap.size+1,0,none⟩) o_g7 (fun e=>gB (by injection e)) (.slice (some ⟨g3,0,none⟩) ss.length cap3)) (fun e=>gB (by injection e)) (.slice (some ⟨g7,0,none⟩) ws.length cap7)
   have c0:=rF.cell 0 _ rfl
   have c1:=rF.cell 1 _ rfl
   have hF:Below w.heap.size w ((y4.setCell ⟨w.heap.size+1,0,none⟩ (.slice (some ⟨g3,0,none⟩) ss.length cap3)).setCell ⟨w.heap.size+1,1,none⟩ (.slice (some ⟨g7,0,none⟩) ws.length cap7)):=((hE.trans (hA4.mono hE.size)).setCell (by simp) _).setCell (by simp) _
   refine bodyPost_ret (v:=.agg #[.slice (some ⟨g3,0,none⟩) ss.length cap3,.slice (some ⟨g7,0,none⟩) ws.length cap7]) (by simp [results,Try.results21,go_sem,c0,c1]) rfl ⟨g3,cap3,g7,cap7,rfl,o3,o7,gC,hF⟩
  ·go_simp
   have hb1:=below_nwD y1 (.cells #[] 46)
   have o_b4:=World.ownsRow_lit (w:=y1) (e:=46) (size:=2) (base:=w.heap.size) #[] 0 (by have:=hA1.size;have:=HZ.out;omega) (by simp) (by simp)
   have l1:=(show (y1.alloc (.cells #[] 46)).heap.size=y1.heap.size+1 by simp)
   obtain ⟨y2,e_n⟩:∃ y,y=y1.alloc (.cells #[] 46):=⟨_,rfl⟩
   obtain ⟨b4,e_b4⟩:∃ y,y=y1.heap.size:=⟨_,rfl⟩
   rw [<-e_n] at hb1 o_b4 l1 ⊢
   rw [<-e_b4] at o_b4 ⊢
   have hA2:=hA1.trans (hb1.mono hA1.size)
   have E4:=hid e_b4
   have LS1:=hid l1
   clear l1
   clear e_n
   clear e_b4
   have o_b0:=owns_below o_b0 hb1
   refine hKq.out _ _ (HK.out _ hA2) (fun hHd6=>?_)
   try simp only [PS]
   refine RD 3 rfl (fun Kq hKq=>?_)
   refine step_append_copy3 (by rfl) _ _ 23 (by rfl) 9 i0 (.string ByteArray.empty) 1 16 Try.underlying23 HI.out.1 HI.out.2.1 HI.out.2.2.1 HI.out.2.2.2 rfl b0 w.heap.size (by rfl) o_b0 _ (by rfl) ss.length _ (src_strs (h.below (hE.trans (hA2.mono hE.size))) _ _ Try.underlying23 _) (by omega) (by omega) (by have:=hA2.size;have:=hE.size;omega) ?_
   intro g3 cap3 y3 o_g3 hg3 hb2
   have hA3:=hA2.trans (hb2.mono hA2.size)
   have lg3:g3<y3.heap.size:=(o_g3.lt _ rfl).2
   have o_b4:=owns_below o_b4 hb2
   refine hKq.out _ _ (HK.out _ hA3) (fun hHd7=>?_)
   try simp only [PS]
   refine RD 7 rfl (fun Kq hKq=>?_)
   refine step_append_copy3 (by rfl) _ _ 24 (by rfl) 46 i1 (.agg #[.int .i64 0,.string ByteArray.empty]) 2 24 Try.underlying24 HJ.out.1 HJ.out.2.1 HJ.out.2.2.1 HJ.out.2.2.2 rfl b4 w.heap.size (by rfl) o_b4 _ (by rfl) ws.length _ (src_wrs (h'.below (hE.trans (hA3.mono hE.size))) _ _ Try.underlying24 _) (by omega) (by omega) (by have:=hA3.size;have:=hE.size;omega) ?_
   intro g7 cap7 y4 o_g7 hg7 hb3
   have hA4:=hA3.trans (hb3.mono hA3.size)
   have o_g3:=owns_below o_g3 hb3
   refine hKq.out _ _ (HK.out _ hA4) (fun hHd8=>?_)
   try simp only [PS]
   refine TY 8 (.agg #[.slice (some ⟨g3,0,none⟩) ss.length cap3,.slice (some ⟨g7,0,none⟩) ws.length cap7]) rfl hHd8 ?_
   simp only [PS]
   refine RD 9 rfl (fun Kq hKq=>?_)
   have R2:=(bR.below hA4).now
   have k0:=R2.cell 0 _ rfl
   have k1:=R2.cell 1 _ rfl
   obtain ⟨f0,f1⟩:=R2.z2
   have kl:=R2.lt
   go_simp
   refine hKq.out _ _ ((HK.out _ hA4).imp (fun k=>(World.cell?_setCell_far _ _ _ _ (by simp)).trans ((World.cell?_setCell_far _ _ _ _ (by simp)).trans k)) (fun k=>(World.cell?_setCell_far _ _ _ _ (by simp)).trans ((World.cell?_setCell_far _ _ _ _ (by simp)).trans k))) (fun hHd9=>?_)
   try simp only [PS]
   refine DN ?_
   go_wp2_with fail
   have rF:=(R2.set 0 (by simp) (.slice (some ⟨g3,0,none⟩) ss.length cap3)).set 1 (by simp) (.slice (some ⟨g7,0,none⟩) ws.length cap7)
   have s0:=hA0.size
   have sz:=HZ.out
   have e0:=E0.out
   have e4:=E4.out
   have t0:=hb0.size
   have t1:=hb1.size
   have t2:=hb2.size
   have t3:=hb3.size
   have q0:=LS0.out
   have q1:=LS1.out
   have gA:g3≠w.heap.size+1:=fun e=>by clear o_g3 o_g7;rcases hg3 with hg3 | hg3<;>omega
   have gB:g7≠w.heap.size+1:=fun e=>by rcases hg7 with hg7 | hg7<;>omega
   have gC:g3≠g7:=by rcases hg3 with hg3 | hg3<;>rcases hg7 with hg7 | hg7<;>omega
   clear q0 q1 sz e0 e4
   have o3:=ownsRow_setCell_other (a:=⟨w.heap.size+1,1,none⟩) (ownsRow_setCell_other (a:=⟨w.heap.size+1,0,none⟩) o_g3 (fun e=>gA (by injection e)) (.slice (some ⟨g3,0,none⟩) ss.length cap3)) (fun e=>gA (by injection e)) (.slice (some ⟨g7,0,none⟩) ws.length cap7)
   have o7:=ownsRow_setCell_other (a:=⟨w.heap.size+1,1,none⟩) (ownsRow_setCell_other (a:=⟨w.heap.size+1,0,none⟩) o_g7 (fun e=>gB (by injection e)) (.slice (some ⟨g3,0,none⟩) ss.length cap3)) (fun e=>gB (by injection e)) (.slice (some ⟨g7,0,none⟩) ws.length cap7)
   have c0:=rF.cell 0 _ rfl
   have c1:=rF.cell 1 _ rfl
   have hF:Below w.heap.size w ((y4.setCell ⟨w.heap.size+1,0,none⟩ (.slice (some ⟨g3,0,none⟩) ss.length cap3)).setCell ⟨w.heap.size+1,1,none⟩ (.slice (some ⟨g7,0,none⟩) ws.length cap7)):=((hE.trans (hA4.mono hE.size)).setCell (by simp) _).setCell (by simp) _
   refine bodyPost_ret (v:=.agg #[.slice (some ⟨g3,0,none⟩) ss.length cap3,.slice (some ⟨g7,0,none⟩) ws.length cap7]) (by simp [results,Try.results21,go_sem,c0,c1]) rfl ⟨g3,cap3,g7,cap7,rfl,o3,o7,gC,hF⟩
 ·obtain ⟨y0,e_y0⟩:∃ y,y=v2.drew:=⟨_,rfl⟩
  rw [<-e_y0]
  have hA0:Below v2.heap.size v2 y0:=by rw [e_y0];exact (Below.refl _ _).drew
  clear e_y0
  go_simp
  have hb0:=below_nwD y0 (.cells #[] 46)
  have o_b4:=World.ownsRow_lit (w:=y0) (e:=46) (size:=2) (base:=w.heap.size) #[] 0 (by have:=hA0.size;have:=HZ.out;omega) (by simp) (by simp)
  have l0:=(show (y0.alloc (.cells #[] 46)).heap.size=y0.heap.size+1 by simp)
  obtain ⟨y1,e_n⟩:∃ y,y=y0.alloc (.cells #[] 46):=⟨_,rfl⟩
  obtain ⟨b4,e_b4⟩:∃ y,y=y0.heap.size:=⟨_,rfl⟩
  rw [<-e_n] at hb0 o_b4 l0 ⊢
  rw [<-e_b4] at o_b4 ⊢
  have hA1:=hA0.trans (hb0.mono hA0.size)
  have E4:=hid e_b4
  have LS0:=hid l0
  clear l0
  clear e_n
  clear e_b4
  refine hKq.out _ _ (HK.out _ hA1) (fun hHd10=>?_)
  try simp only [PS]
  refine RD 0 rfl (fun Kq hKq=>?_)
  go_simp
  have hb1:=below_nwD y1 (.cells #[] 9)
  have o_b0:=World.ownsRow_lit (w:=y1) (e:=9) (size:=1) (base:=w.heap.size) #[] 0 (by have:=hA1.size;have:=HZ.out;omega) (by simp) (by simp)
  have l1:=(show (y1.alloc (.cells #[] 9)).heap.size=y1.heap.size+1 by simp)
  obtain ⟨y2,e_n⟩:∃ y,y=y1.alloc (.cells #[] 9):=⟨_,rfl⟩
  obtain ⟨b0,e_b0⟩:∃ y,y=y1.heap.size:=⟨_,rfl⟩
  rw [<-e_n] at hb1 o_b0 l1 ⊢
  rw [<-e_b0] at o_b0 ⊢
  have hA2:=hA1.trans (hb1.mono hA1.size)
  have E0:=hid e_b0
  have LS1:=hid l1
  clear l1
  clear e_n
  clear e_b0
  have o_b4:=owns_below o_b4 hb1
  refine hKq.out _ _ (HK.out _ hA2) (fun hHd11=>?_)
  try simp only [PS]
  refine RD 3 rfl (fun Kq hKq=>?_)
  refine step_append_copy3 (by rfl) _ _ 23 (by rfl) 9 i0 (.string ByteArray.empty) 1 16 Try.underlying23 HI.out.1 HI.out.2.1 HI.out.2.2.1 HI.out.2.2.2 rfl b0 w.heap.size (by rfl) o_b0 _ (by rfl) ss.length _ (src_strs (h.below (hE.trans (hA2.mono hE.size))) _ _ Try.underlying23 _) (by omega) (by omega) (by have:=hA2.size;have:=hE.size;omega) ?_
  intro g3 cap3 y3 o_g3 hg3 hb2
  have hA3:=hA2.trans (hb2.mono hA2.size)
  have lg3:g3<y3.heap.size:=(o_g3.lt _ rfl).2
  have o_b4:=owns_below o_b4 hb2
  refine hKq.out _ _ (HK.out _ hA3) (fun hHd12=>?_)
  try simp only [PS]
  refine RD 7 rfl (fun Kq hKq=>?_)
  refine step_append_copy3 (by rfl) _ _ 24 (by rfl) 46 i1 (.agg #[.int .i64 0,.string ByteArray.empty]) 2 24 Try.underlying24 HJ.out.1 HJ.out.2.1 HJ.out.2.2.1 HJ.out.2.2.2 rfl b4 w.heap.size (by rfl) o_b4 _ (by rfl) ws.length _ (src_wrs (h'.below (hE.trans (hA3.mono hE.size))) _ _ Try.underlying24 _) (by omega) (by omega) (by have:=hA3.size;have:=hE.size;omega) ?_
  intro g7 cap7 y4 o_g7 hg7 hb3
  have hA4:=hA3.trans (hb3.mono hA3.size)
  have o_g3:=owns_below o_g3 hb3
  refine hKq.out _ _ (HK.out _ hA4) (fun hHd13=>?_)
  try simp only [PS]
  refine TY 8 (.agg #[.slice (some ⟨g3,0,none⟩) ss.length cap3,.slice (some ⟨g7,0,none⟩) ws.length cap7]) rfl hHd13 ?_
  simp only [PS]
  refine RD 9 rfl (fun Kq hKq=>?_)
  have R2:=(bR.below hA4).now
  have k0:=R2.cell 0 _ rfl
  have k1:=R2.cell 1 _ rfl
  obtain ⟨f0,f1⟩:=R2.z2
  have kl:=R2.lt
  go_simp
  refine hKq.out _ _ ((HK.out _ hA4).imp (fun k=>(World.cell?_setCell_far _ _ _ _ (by simp)).trans ((World.cell?_setCell_far _ _ _ _ (by simp)).trans k)) (fun k=>(World.cell?_setCell_far _ _ _ _ (by simp)).trans ((World.cell?_setCell_far _ _ _ _ (by simp)).trans k))) (fun hHd14=>?_)
  try simp only [PS]
  refine DN ?_
  go_wp2_with fail
  have rF:=(R2.set 0 (by simp) (.slice (some ⟨g3,0,none⟩) ss.length cap3)).set 1 (by simp) (.slice (some ⟨g7,0,none⟩) ws.length cap7)
  have s0:=hA0.size
  have sz:=HZ.out
  have e0:=E0.out
  have e4:=E4.out
  have t0:=hb0.size
  have t1:=hb1.size
  have t2:=hb2.size
  have t3:=hb3.size
  have q0:=LS0.out
  have q1:=LS1.out
  have gA:g3≠w.heap.size+1:=fun e=>by clear o_g3 o_g7;rcases hg3 with hg3 | hg3<;>omega
  have gB:g7≠w.heap.size+1:=fun e=>by rcases hg7 with hg7 | hg7<;>omega
  have gC:g3≠g7:=by rcases hg3 with hg3 | hg3<;>rcases hg7 with hg7 | hg7<;>omega
  clear q0 q1 sz e0 e4
  have o3:=ownsRow_setCell_other (a:=⟨w.heap.size+1,1,none⟩) (ownsRow_setCell_other (a:=⟨w.heap.size+1,0,none⟩) o_g3 (fun e=>gA (by injection e)) (.slice (some ⟨g3,0,none⟩) ss.length cap3)) (fun e=>gA (by injection e)) (.slice (some ⟨g7,0,none⟩) ws.length cap7)
  have o7:=ownsRow_setCell_other (a:=⟨w.heap.size+1,1,none⟩) (ownsRow_setCell_other (a:=⟨w.heap.size+1,0,none⟩) o_g7 (fun e=>gB (by injection e)) (.slice (some ⟨g3,0,none⟩) ss.length cap3)) (fun e=>gB (by injection e)) (.slice (some ⟨g7,0,none⟩) ws.length cap7)
  have c0:=rF.cell 0 _ rfl
  have c1:=rF.cell 1 _ rfl
  have hF:Below w.heap.size w ((y4.setCell ⟨w.heap.size+1,0,none⟩ (.slice (some ⟨g3,0,none⟩) ss.length cap3)).setCell ⟨w.heap.size+1,1,none⟩ (.slice (some ⟨g7,0,none⟩) ws.length cap7)):=((hE.trans (hA4.mono hE.size)).setCell (by simp) _).setCell (by simp) _
  refine bodyPost_ret (v:=.agg #[.slice (some ⟨g3,0,none⟩) ss.length cap3,.slice (some ⟨g7,0,none⟩) ws.length cap7]) (by simp [results,Try.results21,go_sem,c0,c1]) rfl ⟨g3,cap3,g7,cap7,rfl,o3,o7,gC,hF⟩
section
theorem info_wo:(Try.prog.info? 82).map (·.size)=some 16:=by kernel_rfl
theorem grown_sets (w:World) (b o:Nat) (vs:List Value):w.grownBy (w.setCells b o vs) (some b) :=
 ⟨(setCells_os b vs o w).1,(setCells_os b vs o w).2.1,(setCells_os b vs o w).2.2,Nat.le_of_eq (setCells_size b vs o w).symm,fun i hi hr=>setCells_other b vs o w i (fun e=>hr (congrArg some e))⟩
theorem Row.sets {w:World} {g:Nat} {cs:List Value} (h:Row w g cs) (vs:List Value) (hl:vs.length=cs.length):Row (w.setCells g 0 vs) g vs:=by
 have ht:w.there g 0 vs.length:=h.there hl
 have hr:=World.rangeAt_setCells_same w g 0 vs ht
 have ht2:=World.there_setCells ht g 0 vs
 refine ⟨by rw [setCells_size];exact h.lt,fun i v hv=>?_,fun i hi=>?_⟩
 ·have:=hr i v hv;rwa [Nat.zero_add] at this
 ·have:=(ht2 i hi).2;rwa [Nat.zero_add] at this
theorem PstF.grown {w w':World} {F:Nat->Prop} {p:Option Addr} {P:List (List Pr)} {r:Option Nat} (h:PstF w F p P) (hg:w.grownBy w' r) (hr:∀ g,r=some g->¬ F g):PstF w' F p P :=
 h.step (grown_below hg (Nat.zero_le _) (fun _ _=>Nat.zero_le _)) (fun b hb hl=>hg.block b hl (fun e=>hr b e.symm hb))
theorem info_stG:(Try.prog.info? 79).map (·.size)=some 10:=by kernel_rfl
theorem wpList_fieldAt {P:Program} {ops:Array Oper} {rest:List Oper} {op:Oper} {a:Act} {w:World} {Q:Exit->Act->World->Prop} (hgd:op.guard=none) (s:TypeId) (x:Operand) (f:Nat) (ho:op.op=.fieldAddr s x f) (v:Value) (hrun:(Instr.fieldAt s (a.eval x) f).run P w=.ok v w) (h:wpList P ops Q rest (a.put op.dst v) w):wpList P ops Q (op::rest) a w:=by
 refine wpList_plain hgd fun K hK=>?_
 unfold Oper.wp execOp
 simp only [ho,hrun,Sem.run_bind,Sem.run_pure,Result.andThen_ok]
 exact hK _ _ h
section
variable {w:World} {g:Nat} {pre cs post:List Value}
theorem Row.rangeMid (h:Row w g (pre++cs++post)):w.rangeAt g pre.length cs:=fun j v hv=>by
 have hj:j<cs.length:=(List.getElem?_eq_some_iff.1 hv).1
 exact h.cell (pre.length+j) v (by rw [List.append_assoc,List.getElem?_append_right (by omega),List.getElem?_append_left (by omega),<-hv];congr 1;omega)
theorem Row.thereMid (h:Row w g (pre++cs++post)) {n:Nat} (hn:n=cs.length):w.there g pre.length n:=fun j hj=>by
 subst hn
 exact ⟨by rw [h.rangeMid j cs[j] (List.getElem?_eq_getElem hj)];rfl,h.froz (pre.length+j) (by simp;omega)⟩
theorem Row.setsMid (h:Row w g (pre++cs++post)) (vs:List Value) (hl:vs.length=cs.length):Row (w.setCells g pre.length vs) g (pre++vs++post):=by
 have ht:w.there g pre.length vs.length:=h.thereMid hl
 refine ⟨by rw [setCells_size];exact h.lt,fun i v hv=>?_,fun i hi=>by rw [World.frozen?_setCells];exact h.froz i (by simp at hi ⊢;omega)⟩
 by_cases h1:i<pre.length
 ·rw [World.cell?_setCells_out g vs _ w ⟨g,i,none⟩ (fun _ _=>.inl h1)]
  refine h.cell i v ?_
  rw [List.append_assoc,List.getElem?_append_left h1] at hv ⊢
  exact hv
 ·by_cases h2:i<pre.length+vs.length
  ·have:=World.rangeAt_setCells_same w g pre.length vs ht (i-pre.length) v (by rw [List.append_assoc,List.getElem?_append_right (by omega),List.getElem?_append_left (by omega)] at hv;exact hv)
   rwa [show pre.length+(i-pre.length)=i by omega] at this
  ·rw [World.cell?_setCells_out g vs _ w ⟨g,i,none⟩ (fun _ _=>.inr (by show pre.length+vs.length<=i;omega))]
   refine h.cell i v ?_
   rw [List.append_assoc,List.getElem?_append_right (by omega),List.getElem?_append_right (by omega)] at hv ⊢
   rw [<-hl];exact hv
end
end
end Go.Proofs.Ythdilmkbnpmdaaa
namespace Go.Proofs.Ythdilmkbnpmdaaa
open Go.RowKit Go.Proofs.Ythdilmkbnpmdaaa.nw
def newWo (n wd:Int):Wo:={ w:=wd,ss:=newSS n,ws:=[],up:=false,W:=0,S:=0,L:=0,T:=0,H:=0,F:=0,R:=0,U:=0,O:=0,rs:=[],P:=[[]],ts:=[] }
theorem newWo_ok {n wd:Int} (hn:8<=n/\n<=200):(newWo n wd).ok:=by
 refine ⟨.inl ?_,stateOk_nil,⟨by simp [newWo],fun r hr=>?_⟩,⟨by simp [newWo],fun s hs=>by simp [newWo] at hs⟩⟩
 ·show diskOk (newSS n) []=true
  unfold newSS
  rw [if_pos hn]
  exact diskOk_yes (by rw [List.length_replicate];simp;omega) (fun s hs=>by rw [List.eq_of_mem_replicate hs];decide) (fun x hx=>by cases hx)
 ·simp [newWo] at hr
  subst hr
  exact stateOk_nil
theorem nw_w (n wd:Int) (w:World) (hn:8<=n/\n<=200) (h1:1<=wd/\wd<=8):Calls Try.prog 41 #[.int .i64 n,.int .i64 wd] w fun e w'=>WPost w w' (fun _=>False) e (newWo n wd):=by
 refine (nw_s_yes n wd w hn h1).mono ?_
 rintro e w' ⟨a,c,a',c',p,cp,rfl,h1,h2,h3,h4,hb⟩
 have hd:=dep_own (lo:=w.heap.size) h1 ne_of_strs (fun g hg=>(h3 g hg).1)
 refine ⟨⟨a,c,a',c',none,0,p,cp,none,0⟩,rfl,⟨(depF_of hd (fun b hb _=>.inr hb)).map fun U k=>k.strs,depF_true fun _=>.inl rfl,depF_true fun _=>.inl rfl,?_,depF_true fun _=>.inl rfl⟩,hb⟩
 obtain ⟨g,rfl,hr⟩:=h2.resolve_left (by simp [nops])
 exact pst_one (oa:=none) (oc:=0) hr (.inr (h4 g rfl)) (depF_true fun _=>.inl rfl)
theorem step_store_mid {P:Program} {ops:Array Oper} {o:Oper} {a:Act} {w:World} {K:Act->World->Prop} {Q:Exit->Act->World->Prop} {E:Prop} (hgd:o.guard=none) (ty:TypeId) (x y:Operand) (ho:o.op=.store ty x y) (b k:Nat) (cells:Array Value) (hx:a.eval x=.pointer (some ⟨b,k,none⟩)) (hy:a.eval y=.agg cells) (ht:w.there b k cells.size) (hi:(P.info? ty).map (·.size)=some cells.size) (h1:cells.all (·.oneCell')=true)
  (h:K (a.put o.dst undef) (w.setCells b k cells.toList)):if Region.wanted o (yielded ops a.tmps)=true then Oper.wp P o a w K Q else E:=by
 have hw:Region.wanted o (yielded ops a.tmps)=true:=by simp [Region.wanted,hgd]
 rw [if_pos hw]
 exact wp_store_mid ty x y ho b k cells hx hy ht hi h1 h
theorem step_load_mid {P:Program} {ops:Array Oper} {o:Oper} {a:Act} {w:World} {K:Act->World->Prop} {Q:Exit->Act->World->Prop} {E:Prop} (hgd:o.guard=none) (ty:TypeId) (x:Operand) (ho:o.op=.load ty x) (b k:Nat) (hx:a.eval x=.pointer (some ⟨b,k,none⟩)) (cs:List Value) (d:TypeDesc) (hc:w.rangeAt b k cs) (hu:P.underlying ty=some d) (hd:d.isRow=true) (hi:(P.info? ty).map (·.size)=some cs.length)
  (h:K (a.put o.dst (.agg cs.toArray)) w):if Region.wanted o (yielded ops a.tmps)=true then Oper.wp P o a w K Q else E:=by
 have hw:Region.wanted o (yielded ops a.tmps)=true:=by simp [Region.wanted,hgd]
 rw [if_pos hw]
 exact wp_load_mid ty x ho b k hx cs d hc hu hd hi h
end Go.Proofs.Ythdilmkbnpmdaaa
namespace Go.Proofs.Ythdilmkbnpmdaaa
open Go.RowKit
section
abbrev WrT:=Int×ByteArray
structure SpS (w wx:World) (R:Nat) (a:Option Addr) (n c:Nat) (p:Int) (A4 B g sc:Nat) (ss:List ByteArray) (g' sc':Nat) (ws:List WrT):Prop where
 rd:Rdr wx R a n c p
 gr:w.grownBy wx (some R)
 lR:R<w.heap.size
 ga:∀ g o,a=some ⟨g,o,none⟩->0<n->g<w.heap.size
 r4:Row wx A4 [.slice none 0 0,.slice none 0 0]
 r5:Row wx B [.slice (some ⟨g,0,none⟩) ss.length sc,.slice (some ⟨g',0,none⟩) ws.length sc']
 hA:w.heap.size<=A4
 hB:A4<B
 so:wx.ownsRow (A4+1) 9 1 (.slice (some ⟨g,0,none⟩) ss.length sc) ss.length (ss.map Value.string)
 wo:wx.ownsRow (A4+1) 46 2 (.slice (some ⟨g',0,none⟩) ws.length sc') ws.length (wcells ws)
 n1:g≠B
 n2:g'≠B
 ne:g≠g'
section
variable {w wx wy:World} {R:Nat} {a:Option Addr} {n c:Nat} {p p':Int} {A4 B g sc:Nat} {ss:List ByteArray} {g' sc':Nat} {ws:List WrT}
theorem SpS.lt (h:SpS w wx R a n c p A4 B g sc ss g' sc' ws):w.heap.size<=wx.heap.size:=h.gr.size
theorem SpS.lg (h:SpS w wx R a n c p A4 B g sc ss g' sc' ws):(A4+1<=g/\g<wx.heap.size)/\(A4+1<=g'/\g'<wx.heap.size):=⟨h.so.lt g rfl,h.wo.lt g' rfl⟩
theorem SpS.below (h:SpS w wx R a n c p A4 B g sc ss g' sc' ws) (hb:Below wx.heap.size wx wy):SpS w wy R a n c p A4 B g sc ss g' sc' ws :=
 ⟨h.rd.below hb,grown_trans h.gr (grown_of_below _ hb),h.lR,h.ga,h.r4.below hb,h.r5.below hb,h.hA,h.hB,owns_below h.so hb,owns_below h.wo hb,h.n1,h.n2,h.ne⟩
theorem SpS.drew (h:SpS w wx R a n c p A4 B g sc ss g' sc' ws):SpS w wx.drew R a n c p A4 B g sc ss g' sc' ws:=h.below (Below.refl _ _).drew
theorem SpS.pick (h:SpS w wx R a n c p A4 B g sc ss g' sc' ws) (hr:Rdr wy R a n c p') (hg:wx.grownBy wy (some R)):SpS w wy R a n c p' A4 B g sc ss g' sc' ws:=by
 have h1:=h.lR
 have h2:=h.hA
 have h3:=h.hB
 have h4:=h.lg
 exact ⟨hr,grown_trans h.gr hg,h.lR,h.ga,h.r4.grown hg (fun e=>by injection e with e;omega),h.r5.grown hg (fun e=>by injection e with e;omega),h.hA,h.hB,h.so.kept hg (.inr (fun e=>by have e:=Option.some.inj e;(try dsimp only at e);omega)),h.wo.kept hg (.inr (fun e=>by have e:=Option.some.inj e;(try dsimp only at e);omega)),h.n1,h.n2,h.ne⟩
theorem sp_rd (hr:Rdr wx R a n c p) (g0:w.grownBy wx (some R)) (lR:R<w.heap.size) (ga:∀ g o,a=some ⟨g,o,none⟩->0<n->g<w.heap.size) (hb:Below w.heap.size wx wy):Rdr wy R a n c p/\w.grownBy wy (some R) :=
 ⟨hr.keep (N:=w.heap.size) lR ga hb,⟨hb.os.trans g0.os,hb.tape.trans g0.tape,hb.output.trans g0.output,Nat.le_trans g0.size hb.size,fun i hi hr=>(hb.block i hi).trans (g0.block i hi hr)⟩⟩
theorem SpS.sect (h:SpS w wx R a n c p A4 B g sc ss g' sc' ws) (k:Nat) (hk:k<ss.length) (s:ByteArray):SpS w (wx.setCell ⟨g,k,none⟩ (.string s)) R a n c p A4 B g sc (ss.set k s) g' sc' ws:=by
 have h2:=h.hA
 have h3:=h.hB
 have h4:=h.lg
 have G:wx.grownBy (wx.setCell ⟨g,k,none⟩ (.string s)) (some g):=grown_setC wx g k _
 have hb:Below w.heap.size wx (wx.setCell ⟨g,k,none⟩ (.string s)):=(Below.refl _ _).setCell (by show _<=g;omega) _
 obtain ⟨q1,q2⟩:=sp_rd h.rd h.gr h.lR h.ga hb
 have hne:=h.ne
 have hn1:=h.n1
 have so:=(h.so.stored k (.string s)).1
 rw [show (ss.map Value.string).set k (.string s)=(ss.set k s).map Value.string by rw [List.map_set]] at so
 exact ⟨q1,q2,h.lR,h.ga,h.r4.grown G (fun e=>by injection e with e;omega),by rw [List.length_set];exact h.r5.grown G (fun e=>by injection e with e;omega),h.hA,h.hB,by rw [List.length_set];exact so,h.wo.kept G (.inr (fun e=>by have e:=Option.some.inj e;(try dsimp only at e);omega)),h.n1,h.n2,h.ne⟩
theorem SpS.pushW (h:SpS w wx R a n c p A4 B g sc ss g' sc' ws) {k cap H:Nat} {ws':List WrT} (hown:wy.ownsRow (A4+1) 46 2 (.slice (some ⟨k,0,none⟩) ws'.length cap) ws'.length (wcells ws')) (hg:wx.grownBy wy (some g')) (hat:(some g':Option Nat)=some k\/k=H) (hH:wx.heap.size<=H) :
  Row wy B [.slice (some ⟨g,0,none⟩) ss.length sc,.slice (some ⟨g',0,none⟩) ws.length sc']/\SpS w (wy.setCell ⟨B,1,none⟩ (.slice (some ⟨k,0,none⟩) ws'.length cap)) R a n c p A4 B g sc ss k cap ws':=by
 have h2:=h.hA
 have h3:=h.hB
 have h4:=h.lg
 have h5:=h.r5.lt
 have hne:=h.ne
 have hn2:=h.n2
 have kB:k≠B:=fun e=>by rcases hat with q | q;(have q:=Option.some.inj q;omega);omega
 have kg:g≠k:=fun e=>by rcases hat with q | q;(have q:=Option.some.inj q;omega);omega
 have hb:Below w.heap.size wx wy:=grown_below hg h.lt (fun x e=>by have e:=Option.some.inj e;(try dsimp only at e);omega)
 have r5:Row wy B _:=h.r5.grown hg (fun e=>by injection e with e;omega)
 refine ⟨r5,?_⟩
 have G:wy.grownBy (wy.setCell ⟨B,1,none⟩ (.slice (some ⟨k,0,none⟩) ws'.length cap)) (some B):=grown_setC wy B 1 _
 obtain ⟨q1,q2⟩:=sp_rd h.rd h.gr h.lR h.ga (hb.trans ((Below.refl w.heap.size wy).setCell (by show _<=B;omega) (.slice (some ⟨k,0,none⟩) ws'.length cap):Below w.heap.size wy (wy.setCell ⟨B,1,none⟩ (.slice (some ⟨k,0,none⟩) ws'.length cap))))
 exact ⟨q1,q2,h.lR,h.ga,(h.r4.grown hg (fun e=>by injection e with e;omega)).grown G (fun e=>by injection e with e;omega),r5.set 1 (by simp) _,h.hA,h.hB,(h.so.kept hg (.inr (fun e=>by have e:=Option.some.inj e;(try dsimp only at e);omega))).kept G (.inr (fun e=>by have e:=Option.some.inj e;(try dsimp only at e);have:=h.n1;omega)),hown.kept G (.inr (fun e=>by have e:=Option.some.inj e;(try dsimp only at e);omega)),h.n1,kB,kg⟩
theorem SpS.pushS (h:SpS w wx R a n c p A4 B g sc ss g' sc' ws) {k cap H:Nat} {ss':List ByteArray} (hown:wy.ownsRow (A4+1) 9 1 (.slice (some ⟨k,0,none⟩) ss'.length cap) ss'.length (ss'.map Value.string)) (hg:wx.grownBy wy (some g)) (hat:(some g:Option Nat)=some k\/k=H) (hH:wx.heap.size<=H) :
  Row wy B [.slice (some ⟨g,0,none⟩) ss.length sc,.slice (some ⟨g',0,none⟩) ws.length sc']/\SpS w (wy.setCell ⟨B,0,none⟩ (.slice (some ⟨k,0,none⟩) ss'.length cap)) R a n c p A4 B k cap ss' g' sc' ws:=by
 have h2:=h.hA
 have h3:=h.hB
 have h4:=h.lg
 have h5:=h.r5.lt
 have hne:=h.ne
 have hn1:=h.n1
 have kB:k≠B:=fun e=>by rcases hat with q | q;(have q:=Option.some.inj q;omega);omega
 have kg:k≠g':=fun e=>by rcases hat with q | q;(have q:=Option.some.inj q;omega);omega
 have hb:Below w.heap.size wx wy:=grown_below hg h.lt (fun x e=>by have e:=Option.some.inj e;(try dsimp only at e);omega)
 have r5:Row wy B _:=h.r5.grown hg (fun e=>by injection e with e;omega)
 refine ⟨r5,?_⟩
 have G:wy.grownBy (wy.setCell ⟨B,0,none⟩ (.slice (some ⟨k,0,none⟩) ss'.length cap)) (some B):=grown_setC wy B 0 _
 obtain ⟨q1,q2⟩:=sp_rd h.rd h.gr h.lR h.ga (hb.trans ((Below.refl w.heap.size wy).setCell (by show _<=B;omega) (.slice (some ⟨k,0,none⟩) ss'.length cap):Below w.heap.size wy (wy.setCell ⟨B,0,none⟩ (.slice (some ⟨k,0,none⟩) ss'.length cap))))
 exact ⟨q1,q2,h.lR,h.ga,(h.r4.grown hg (fun e=>by injection e with e;omega)).grown G (fun e=>by injection e with e;omega),r5.set 0 (by simp) _,h.hA,h.hB,hown.kept G (.inr (fun e=>by have e:=Option.some.inj e;(try dsimp only at e);omega)),(h.wo.kept hg (.inr (fun e=>by have e:=Option.some.inj e;(try dsimp only at e);omega))).kept G (.inr (fun e=>by have e:=Option.some.inj e;(try dsimp only at e);have:=h.n2;omega)),kB,h.n2,kg⟩
def DkLe (ss:List ByteArray) (ws:List WrT):Prop:=(ss.length<=201/\∀ s∈ss,s.size<=64)/\(ws.length<=301/\∀ x∈ws,x.2.size<=64)
def SpPost (w w':World) (r:Ending):Prop:=∃ (ss:List ByteArray) (ws:List WrT) (g sc g' sc':Nat),r=.returned (diskV (some ⟨g,0,none⟩) ss.length sc (some ⟨g',0,none⟩) ws.length sc')/\DkLe ss ws/\w'.ownsRow w.heap.size 46 2 (.slice (some ⟨g',0,none⟩) ws.length sc') ws.length (wcells ws)/\DepF w' (fun b=>w.heap.size<=b/\b≠g') (fun W=>Strs W (some ⟨g,0,none⟩) ss)
theorem strs_own {B:Nat} (h:wx.ownsRow B 9 1 (.slice (some ⟨g,0,none⟩) ss.length sc) ss.length (ss.map Value.string)) (k:Nat) (hk:k<=ss.length):DepF wx (fun b=>b=g) (fun W=>Strs W (some ⟨g,0,none⟩) (ss.take k)):=by
 have hl:=(h.lt g rfl).2
 have hc:∀ i,i<ss.length->wx.cell? ⟨g,i,none⟩=some (.string (ss.getD i ByteArray.empty)):=fun i hi=>by
  have:=h.cellAt i (by simpa using hi)
  rw [this]
  simp [List.getD,hi]
 have key:∀ W:World,(∀ i,i<ss.length->W.cell? ⟨g,i,none⟩=some (.string (ss.getD i ByteArray.empty)))->g<W.heap.size->Strs W (some ⟨g,0,none⟩) (ss.take k):=fun W hW hs=>.inr ⟨g,0,rfl,hs,fun i hi=>by
  rw [List.length_take] at hi
  rw [Nat.zero_add,hW i (by omega)]
  simp [List.getD,List.getElem?_take,show i<k by omega]⟩
 refine ⟨key wx hc hl,fun W hb hk=>key W (fun i hi=>?_) (Nat.lt_of_lt_of_le hl hb.size)⟩
 rw [<-hc i hi]
 exact World.cell?_of_block (a:=⟨g,i,none⟩) (hk g rfl hl)
theorem SpS.fin (h:SpS w wx R a n c p A4 B g sc ss g' sc' ws) (k:Nat) (hk:k<=ss.length) (u v:Value) :
  Row ((wx.setCell ⟨A4,0,none⟩ u).setCell ⟨A4,1,none⟩ v) A4 [u,v]/\Rdr ((wx.setCell ⟨A4,0,none⟩ u).setCell ⟨A4,1,none⟩ v) R a n c p/\w.grownBy ((wx.setCell ⟨A4,0,none⟩ u).setCell ⟨A4,1,none⟩ v) (some R)/\((wx.setCell ⟨A4,0,none⟩ u).setCell ⟨A4,1,none⟩ v).ownsRow w.heap.size 46 2 (.slice (some ⟨g',0,none⟩) ws.length sc') ws.length (wcells ws)/\DepF ((wx.setCell ⟨A4,0,none⟩ u).setCell ⟨A4,1,none⟩ v) (fun b=>w.heap.size<=b/\b≠g') (fun W=>Strs W (some ⟨g,0,none⟩) (ss.take k)):=by
 have h2:=h.hA
 have h3:=h.hB
 have h4:=h.lg
 have hne:=h.ne
 have G1:wx.grownBy (wx.setCell ⟨A4,0,none⟩ u) (some A4):=grown_setC wx A4 0 u
 have G2:(wx.setCell ⟨A4,0,none⟩ u).grownBy ((wx.setCell ⟨A4,0,none⟩ u).setCell ⟨A4,1,none⟩ v) (some A4):=grown_setC _ A4 1 v
 have G:=grown_trans G1 G2
 have hb:Below w.heap.size wx ((wx.setCell ⟨A4,0,none⟩ u).setCell ⟨A4,1,none⟩ v):=grown_below G h.lt (fun x e=>by have e:=Option.some.inj e;(try dsimp only at e);omega)
 obtain ⟨q1,q2⟩:=sp_rd h.rd h.gr h.lR h.ga hb
 exact ⟨(h.r4.set 0 (by simp) u).set 1 (by simp) v,q1,q2,(h.wo.kept G (.inr (fun e=>by have e:=Option.some.inj e;(try dsimp only at e);omega))).mono (by omega),((strs_own h.so k hk).grown G (fun x e q=>by have e:=Option.some.inj e;(try dsimp only at e);omega)).mono (fun b _ q=>by omega)⟩
theorem SpS.fin1 (h:SpS w wx R a n c p A4 B g sc ss g' sc' ws) (k:Nat) (hk:k<=ss.length) (x u v:Value) :
  Row (((wx.setCell ⟨B,0,none⟩ x).setCell ⟨A4,0,none⟩ u).setCell ⟨A4,1,none⟩ v) A4 [u,v]/\Rdr (((wx.setCell ⟨B,0,none⟩ x).setCell ⟨A4,0,none⟩ u).setCell ⟨A4,1,none⟩ v) R a n c p/\w.grownBy (((wx.setCell ⟨B,0,none⟩ x).setCell ⟨A4,0,none⟩ u).setCell ⟨A4,1,none⟩ v) (some R)/\(((wx.setCell ⟨B,0,none⟩ x).setCell ⟨A4,0,none⟩ u).setCell ⟨A4,1,none⟩ v).ownsRow w.heap.size 46 2 (.slice (some ⟨g',0,none⟩) ws.length sc') ws.length (wcells ws)/\DepF (((wx.setCell ⟨B,0,none⟩ x).setCell ⟨A4,0,none⟩ u).setCell ⟨A4,1,none⟩ v) (fun b=>w.heap.size<=b/\b≠g') (fun W=>Strs W (some ⟨g,0,none⟩) (ss.take k)):=by
 have h2:=h.hA
 have h3:=h.hB
 have h4:=h.lg
 have hne:=h.ne
 have hn1:=h.n1
 have hn2:=h.n2
 have G0:wx.grownBy (wx.setCell ⟨B,0,none⟩ x) (some B):=grown_setC wx B 0 x
 have hb0:Below w.heap.size wx (wx.setCell ⟨B,0,none⟩ x):=grown_below G0 h.lt (fun x e=>by have e:=Option.some.inj e;omega)
 have r4:=h.r4.grown G0 (fun e=>by injection e with e;omega)
 have wo:=h.wo.kept G0 (.inr (fun e=>by have e:=Option.some.inj e;(try dsimp only at e);omega))
 have dp:=(strs_own h.so k hk).grown G0 (fun x e q=>by have e:=Option.some.inj e;omega)
 obtain ⟨q1,q2⟩:=sp_rd h.rd h.gr h.lR h.ga hb0
 have s0:=hb0.size
 generalize wx.setCell ⟨B,0,none⟩ x=wz at *
 have G1:wz.grownBy (wz.setCell ⟨A4,0,none⟩ u) (some A4):=grown_setC wz A4 0 u
 have G2:(wz.setCell ⟨A4,0,none⟩ u).grownBy ((wz.setCell ⟨A4,0,none⟩ u).setCell ⟨A4,1,none⟩ v) (some A4):=grown_setC _ A4 1 v
 have G:=grown_trans G1 G2
 have hb:Below w.heap.size wz ((wz.setCell ⟨A4,0,none⟩ u).setCell ⟨A4,1,none⟩ v):=grown_below G q2.size (fun x e=>by have e:=Option.some.inj e;omega)
 obtain ⟨q3,q4⟩:=sp_rd q1 q2 h.lR h.ga hb
 exact ⟨(r4.set 0 (by simp) u).set 1 (by simp) v,q3,q4,(wo.kept G (.inr (fun e=>by have e:=Option.some.inj e;(try dsimp only at e);omega))).mono (by omega),(dp.grown G (fun x e q=>by have e:=Option.some.inj e;omega)).mono (fun b _ q=>by omega)⟩
theorem DkLe.set (h:DkLe ss ws) (k:Nat) (s:ByteArray) (hs:s.size<=64):DkLe (ss.set k s) ws :=
 ⟨⟨by rw [List.length_set];exact h.1.1,fun t ht=>by rcases List.mem_or_eq_of_mem_set ht with q | q;exact h.1.2 t q;rw [q];exact hs⟩,h.2⟩
theorem DkLe.take (h:DkLe ss ws) (k:Nat):DkLe (ss.take k) ws :=
 ⟨⟨by rw [List.length_take];have:=h.1.1;omega,fun t ht=>h.1.2 t (List.mem_of_mem_take ht)⟩,h.2⟩
theorem DkLe.pushW (h:DkLe ss ws) (x:WrT) (hl:ws.length<=300) (hx:x.2.size<=64):DkLe ss (ws++[x]) :=
 ⟨h.1,by rw [List.length_append];simp;omega,fun y hy=>by rcases List.mem_append.1 hy with q | q;exact h.2.2 y q;rw [List.mem_singleton.1 q];exact hx⟩
theorem DkLe.pushS (h:DkLe ss ws) (s:ByteArray) (hl:ss.length<=200) (hx:s.size<=64):DkLe (ss++[s]) ws :=
 ⟨⟨by rw [List.length_append];simp;omega,fun y hy=>by rcases List.mem_append.1 hy with q | q;exact h.1.2 y q;rw [List.mem_singleton.1 q];exact hx⟩,h.2⟩
theorem dkLe_good (h:diskOk ss ws=true):DkLe ss ws:=by
 obtain ⟨h1,h2,h3⟩:=diskOk_of h
 exact ⟨⟨by omega,fun s hs=>by have:=h2 s hs;omega⟩,by omega,fun x hx=>by have:=wOk_64 (h3 x hx);omega⟩
end
end
def FdPost (w w':World) (e:Ending) (res:Option (List Pr)):Prop:=∃ a c,e=.returned (.tuple #[stV a (res.getD []).length c,.bool res.isSome])/\(res.getD []).length<=c/\OwnS w' a (prcells (res.getD []))/\(∀ g,blk a (res.getD []).length=some g->w.heap.size<=g)/\Below w.heap.size w w'
theorem resS_ok {s:ByteArray} {o:List Ch} (h:resS s=some o):batchOk o=true:=by
 rw [<-res_eq] at h
 unfold resI at h
 split at h
 ·cases h
 ·split at h
  ·rename_i hh;cases h;exact hh
  ·cases h
theorem ownS_chs {w:World} {a:Option Addr} {rs:List Ch} (h:OwnS w a (chcells rs)):Chs w a rs:=by
 rcases h with h | ⟨g,rfl,h⟩
 ·refine .inl ?_
  cases rs with
  | nil=>rfl
  | cons x r=>obtain ⟨x0,x1,x2⟩:=x;exact absurd h (by simp [chcells])
 ·exact h.chs
theorem prcells_neF {l:List Pr} (h:prcells l≠[]):l.length≠0:=fun e=>h (by rw [List.eq_nil_of_length_eq_zero e];rfl)
theorem OwnS.setF {w:World} {a:Option Addr} {cs:List Value} (h:OwnS w a cs) (p:Addr) (hp:∀ g,a=some ⟨g,0,none⟩->cs≠[]->p.block≠g) (v:Value):OwnS (w.setCell p v) a cs:=by
 by_cases h0:cs=[]
 ·exact .inl h0
 ·rcases h with h | ⟨g,rfl,hr⟩
  ·exact absurd h h0
  ·exact .inr ⟨g,rfl,hr.other p (hp g rfl h0) v⟩
structure FdB (w W:World) (rs:List Pr) (sa:Option Addr) (sc:Nat):Prop where
 rb:Row W w.heap.size [.slice none 0 0]
 st:Row W (w.heap.size+1) [.slice sa rs.length sc]
 own:OwnS W sa (prcells rs)
 lo:∀ g,blk sa rs.length=some g->w.heap.size+2<=g
 cap:rs.length<=sc
 be:Below w.heap.size w W
theorem FdB.new (w:World):FdB w ((w.alloc (.cells #[.slice none 0 0] 77)).alloc (.cells #[.slice none 0 0] 77)) [] none 0 :=
 ⟨(row_new' w #[.slice none 0 0] 77 w.heap.size rfl).alloc _,row_new' _ #[.slice none 0 0] 77 _ (by simp),.inl rfl,fun g hg=>(by cases hg),Nat.le_refl _,((Below.refl _ _).alloc (Nat.le_refl _) _).alloc (by simp) _⟩
theorem FdB.below {w W W':World} {rs:List Pr} {sa:Option Addr} {sc:Nat} (h:FdB w W rs sa sc) (hb:Below W.heap.size W W'):FdB w W' rs sa sc:=⟨h.rb.below hb,h.st.below hb,h.own.below hb,h.lo,h.cap,h.be.trans (hb.mono h.be.size)⟩
theorem FdB.set {w X:World} {W':Obj} {rs rs':List Pr} {sa sa':Option Addr} {sc sc':Nat} (h:FdB w (X.alloc W') rs sa sc) (ho:OwnS X sa' (prcells rs')) (hc:rs'.length<=sc') (hlo:∀ g,blk sa' rs'.length=some g->w.heap.size+2<=g) :
  FdB w ((X.alloc W').setCell ⟨w.heap.size+1,0,none⟩ (.slice sa' rs'.length sc')) rs' sa' sc':=by
 refine ⟨h.rb.other _ (by show w.heap.size+1≠w.heap.size;omega) _,h.st.set 0 (by simp) _,OwnS.setF (ho.below ((Below.refl _ _).alloc (Nat.le_refl _) _)) _ (fun g hg hn=>?_) _,hlo,hc,h.be.setCell (by show w.heap.size<=w.heap.size+1;omega) _⟩
 have:=hlo g (by subst hg;exact blk_pos _ _ _ (prcells_neF hn))
 show w.heap.size+1≠g
 omega
theorem fold_s (a:Option Addr) (es:List ByteArray) (c:Nat) (w:World) (h:Strs w a es) (hl:es.length<=1000) (hs:∀ e∈es,e.size<=1048576) :
  Calls Try.prog 79 #[.slice a es.length c] w fun e w'=>FdPost w w' e (foldE es []):=by
 obtain ⟨RES,HRES⟩:∃ RES,Hid (RES=foldE es []):=⟨_,hid rfl⟩
 rw [<-HRES.out]
 have HH:=hid h
 have HS:=hid hs
 clear h hs
 go_enter Try.func79,Try.ntmps79
 go_wp2
 go_loopw [5] (fun iv wr=>∃ (i:Nat) (rs:List Pr) (sa:Option Addr) (sc:Nat) (W:World),W=wr/\iv=.int .i64 (i:Int)/\i<=es.length/\stateOk rs=true/\Hid (foldE (es.drop i) rs=RES)/\FdB w W rs sa sc) (fun iv _=>((es.length:Int)-intOf iv).toNat)
 case atStart=>exact ⟨0,[],none,0,_,rfl,rfl,Nat.zero_le _,stateOk_nil,by show _=_;rw [HRES.out];rfl,FdB.new w⟩
 case round =>
  obtain ⟨i,rs,sa,sc,wr,rfl,rfl,hi,hok,HF,D⟩:=hrel
  have HD:=hid D
  have d1:=D.st.cell 0 _ rfl
  have d1l:=D.st.lt
  have d0:=D.rb.cell 0 _ rfl
  have d0l:=D.rb.lt
  have d0f:=D.rb.froz 0 (by simp)
  have hok':=stateOk_sizes hok
  have hrl:=hok'.1
  have HOK:=hid hok
  have HSZ:=hid hok'.2
  clear hok hok' D
  by_cases hlt:i<es.length
  ·have hlt':(i:Int)<(es.length:Int):=by omega
   have hi0:(0:Int)<=(i:Int):=by omega
   have hw1:IntKind.i64.wrap ((i:Int)+1)=(i:Int)+1:=by simp [IntKind.wrap,IntKind.bits,IntKind.signed];omega
   obtain ⟨b,o,s,rfl,hc,HE⟩:=(HH.out.below HD.out.be).at hlt
   have hes:s.size<=1048576:=HS.out s (by rw [HE.out];simp [List.getD,hlt])
   have hdr:es.drop i=s::es.drop (i+1):=by rw [HE.out];simp [List.getD,hlt]
   have hbl:b<wr.heap.size:=by have:=World.block_lt_of_cell? wr _ hc;simpa using this
   have HRB:=hid (fun wx=>read_s s wx hes)
   skip
   rw [hdr] at HF
   have HDR:=hid hdr
   clear hdr
   cases hR:resS s with
   | none =>
    rw [hR] at HRB
    have HN:Hid (RES=none):=by show _=_;rw [<-HF.out];exact foldE_none hR
    clear hR
    go_wp2_with fail
    refine (HRB.out _).mono ?_
    rintro e w5 ⟨ab,cb,rfl,_,_,hb5⟩
    simp only [Option.getD_none,Option.isSome_none,List.length_nil]
    have D5:=HD.out.below hb5
    have HD5:=hid D5
    have r0:=D5.rb.cell 0 _ rfl
    have r0l:=D5.rb.lt
    have r0f:=D5.rb.froz 0 (by simp)
    clear d1 d1l d0 d0l d0f D5 hb5 hc
    go_wp2
    refine bodyPost_ret (v:=.tuple #[stV none 0 0,.bool false]) (by simp [results,Try.results79,go_sem,r0,stV]) rfl ?_
    rw [HN.out]
    exact ⟨none,0,rfl,Nat.le_refl _,.inl rfl,fun g hg=>(by cases hg),HD5.out.be.setCell (by show w.heap.size<=w.heap.size;omega) _⟩
   | some bb =>
    rw [hR] at HRB
    have hbs:=batchOk_sizes (resS_ok hR)
    have HBS:=hid hbs.2
    have hbl2:=hbs.1
    clear hbs
    by_cases hc0:apC rs bb=0
    ·have HN:Hid (foldE (es.drop (i+1)) (apU rs bb)=RES):=by show _=_;rw [<-HF.out];exact (foldE_yes hR hc0).symm
     have hU:apR rs bb=apU rs bb:=by unfold apR;rw [if_pos hc0]
     have HOU:=hid (apU_ok hc0)
     clear hR
     go_wp2_with fail
     refine (HRB.out _).mono ?_
     rintro e w5 ⟨ab,cb,rfl,ho5,hg5,hb5⟩
     simp only [Option.getD_some,Option.isSome_some] at ho5 hg5 ⊢
     have D5:=HD.out.below hb5
     have HD5:=hid D5
     have r1:=D5.st.cell 0 _ rfl
     have r1l:=D5.st.lt
     have HAP:=hid (apply_s sa rs sc ab bb cb w5 D5.own.prs (by omega) HSZ.out (ownS_chs ho5) (by omega) HBS.out)
     rw [hU,hc0] at HAP
     clear d1 d1l d0 d0l d0f D5 hb5 hc ho5 hg5
     go_wp2_with fail
     refine HAP.out.mono ?_
     rintro e w6 ⟨a6,c6,rfl,hc6,ho6,hg6,hb6⟩
     have D6:=(HD5.out.below hb6).below (below_new w6 (.cells #[.slice a6 (apU rs bb).length c6] 77))
     have HD6:=hid (D6.set ho6 hc6 (fun g hg=>by have:=hg6 g hg;omega))
     have x1:=D6.st.cell 0 _ rfl
     have x1f:=D6.st.froz 0 (by simp)
     have x1l:=D6.st.lt
     have x6:w6.heap.size≠w.heap.size+1:=by have:=(HD5.out.below hb6).st.lt;omega
     clear r1 r1l D6 hb6 ho6 hg6 hc0 hU
     go_wp2
     exact ⟨⟨i+1,_,a6,c6,_,rfl,by simp,by omega,HOU.out,HN,HD6.out⟩,by simp [intOf];omega⟩
    ·have HN:Hid (RES=none):=by show _=_;rw [<-HF.out];exact foldE_no hR hc0
     have hU:apR rs bb=[]:=by unfold apR;rw [if_neg hc0]
     have hcb:(apC rs bb == 0)=false:=by simp [hc0]
     have hcb2:(apC rs bb != 0)=true:=by simp [hc0]
     clear hR
     go_wp2_with fail
     refine (HRB.out _).mono ?_
     rintro e w5 ⟨ab,cb,rfl,ho5,hg5,hb5⟩
     simp only [Option.getD_some,Option.isSome_some] at ho5 hg5 ⊢
     have D5:=HD.out.below hb5
     have HD5:=hid D5
     have r1:=D5.st.cell 0 _ rfl
     have r1l:=D5.st.lt
     have HAP:=hid (apply_s sa rs sc ab bb cb w5 D5.own.prs (by omega) HSZ.out (ownS_chs ho5) (by omega) HBS.out)
     rw [hU] at HAP
     clear d1 d1l d0 d0l d0f D5 hb5 hc ho5 hg5 hU
     go_wp2_with fail
     refine HAP.out.mono ?_
     rintro e w6 ⟨a6,c6,rfl,hc6,ho6,hg6,hb6⟩
     have D6:=(HD5.out.below hb6).below (below_new w6 (.cells #[.slice a6 0 c6] 77))
     have HD6:=hid D6
     have r0:=D6.rb.cell 0 _ rfl
     have r0l:=D6.rb.lt
     have r0f:=D6.rb.froz 0 (by simp)
     clear r1 r1l D6 hb6 ho6 hg6
     go_wp2
     refine bodyPost_ret (v:=.tuple #[stV none 0 0,.bool false]) (by simp [results,Try.results79,go_sem,r0,stV]) rfl ?_
     rw [HN.out]
     exact ⟨none,0,rfl,Nat.le_refl _,.inl rfl,fun g hg=>(by cases hg),HD6.out.be.setCell (by show w.heap.size<=w.heap.size;omega) _⟩
  ·have HN:Hid (RES=some rs):=by show _=_;rw [<-HF.out,List.drop_of_length_le (by omega)];rfl
   have hlt':¬ ((i:Int)<(es.length:Int)):=by omega
   have hne:¬ (w.heap.size=w.heap.size+1):=by omega
   go_wp2
   refine bodyPost_ret (v:=.tuple #[stV sa rs.length sc,.bool true]) (by simp [results,Try.results79,go_sem,d0,stV]) rfl ?_
   rw [HN.out]
   refine ⟨sa,sc,rfl,HD.out.cap,OwnS.setF HD.out.own ⟨w.heap.size,0,none⟩ (fun g hg hn=>?_) _,fun g hg=>by have:=HD.out.lo g hg;omega,HD.out.be.setCell (by show w.heap.size<=w.heap.size;omega) _⟩
   have:=HD.out.lo g (by subst hg;exact blk_pos _ _ _ (prcells_neF hn))
   show w.heap.size≠g
   omega
@[reducible] def scV (a:Option Addr) (n c:Nat) (u l:Int):Value:=.agg #[.slice a n c,.int .i64 u,.int .i64 l]
theorem scpost_own {w w':World} {e:Ending} {x:Scd} (h:ScPost w w' e x):∃ a c,e=.returned (scV a x.1.length c x.2.1 x.2.2)/\OwnS w' a (x.1.map Value.string)/\(∀ g,blk a x.1.length=some g->w.heap.size<=g)/\Below w.heap.size w w':=by
 obtain ⟨y,rfl,ho,hb⟩:=h
 rcases owns_forms ho with ⟨e1,e2⟩ | ⟨g,cap,e1,h1,h2,hr⟩
 ·subst e1
  have:x.1=[]:=List.eq_nil_of_length_eq_zero e2
  exact ⟨none,0,by rw [e2],.inl (by rw [this];rfl),fun g hg=>(by rw [e2] at hg;cases hg),hb⟩
 ·subst e1
  refine ⟨_,cap,rfl,.inr ⟨g,rfl,hr⟩,fun g' hg=>?_,hb⟩
  have:=blk_is hg
  omega
def decB (n:Nat):ByteArray:=if h:n<10 then strOfNums [((48+n:Nat):Int)] else decB (n / 10)++strOfNums [((48+n % 10:Nat):Int)]
theorem decB_size:∀ (k n:Nat),n<10 ^ (k+1)->(decB n).size<=k+1:=by
 intro k
 induction k with
 | zero=>intro n hn;unfold decB;rw [dif_pos (by omega),strOfNums_size];simp
 | succ k ih =>
  intro n hn
  unfold decB
  split
  ·rw [strOfNums_size];simp
  ·rw [ByteArray.size_append,strOfNums_size]
   have:=ih (n / 10) (by rw [Nat.pow_succ] at hn;omega)
   simp only [List.length_singleton]
   omega
theorem bytes_1L (w:World) (b:Nat) (n:Int) (h:w.cell? ⟨b,0,none⟩=some (.int .u8 n)):(convert 22 9 (.slice (some ⟨b,0,none⟩) 1 1)).run Try.prog w=.ok (.string (strOfNums [n])) w :=
 run_convert_bytes_arg (P:=Try.prog) _ 22 5 Try.underlying22 Try.underlying5 b 0 1 1 [n] rfl (fun i hi=>by
  have:i=0:=by omega
  subst this
  simpa using h) 9 Try.underlying9
theorem u8_idL (x:Int) (h0:0<=x) (h1:x<=255):IntKind.u8.wrap x=x:=by simp [IntKind.wrap,IntKind.bits,IntKind.signed];omega
theorem dec_r:∀ (k n:Nat) (w:World),n<10 ^ k->k<=15->Calls Try.prog 42 #[.int .i64 (n:Int)] w fun e w'=>e=.returned (.string (decB n))/\Below w.heap.size w w':=by
 intro k
 induction k with
 | zero =>
  intro n w hn hk
  have hn0:n=0:=by simpa using hn
  subst hn0
  have hcv:=bytes_1L (w.alloc (.cells #[.int .u8 48] 5)) w.heap.size 48 (by simp)
  go_enter Try.func42,Try.ntmps42
  go_wp2
  go_ret
  exact ⟨by unfold decB;rfl,below_nwD _ _⟩
 | succ k ih =>
  intro n w hn hk
  have hbig:(10:Nat) ^ (k+1)<=10 ^ 15:=Nat.pow_le_pow_right (by omega) hk
  have hb15:(10:Nat) ^ 15=1000000000000000:=by decide
  by_cases h10:n<10
  ·have h10':(n:Int)<10:=by omega
   have hw:IntKind.i64.wrap (48+(n:Int))=48+(n:Int):=wrap_i64_id _ (by omega) (by omega)
   have hu:IntKind.u8.wrap (48+(n:Int))=48+(n:Int):=u8_idL _ (by omega) (by omega)
   have hcv:=bytes_1L (w.alloc (.cells #[.int .u8 (48+(n:Int))] 5)) w.heap.size (48+(n:Int)) (by simp)
   have hd:decB n=strOfNums [48+(n:Int)]:=by unfold decB;rw [dif_pos h10];congr 2
   have HD:=hid hd
   clear hd
   go_enter Try.func42,Try.ntmps42
   go_wp2
   go_ret
   exact ⟨by rw [HD.out];rfl,below_nwD _ _⟩
  ·have h10':¬ (n:Int)<10:=by omega
   obtain ⟨d,hdd⟩:∃ d:Nat,n / 10=d:=⟨_,rfl⟩
   obtain ⟨m,hmm⟩:∃ m:Nat,n % 10=m:=⟨_,rfl⟩
   have hq:(n:Int).tdiv 10=(d:Int):=by rw [<-hdd];rfl
   have hr:(n:Int).tmod 10=(m:Int):=by rw [<-hmm];rfl
   have hwq:IntKind.i64.wrap (d:Int)=(d:Int):=wrap_i64_id _ (by omega) (by omega)
   have hw:IntKind.i64.wrap (48+(m:Int))=48+(m:Int):=wrap_i64_id _ (by omega) (by omega)
   have hu:IntKind.u8.wrap (48+(m:Int))=48+(m:Int):=u8_idL _ (by omega) (by omega)
   have HS:=hid (decB_size 14 d (by omega))
   have HD:Hid (decB n=decB d++strOfNums [48+(m:Int)]):=hid (by rw [show decB n=decB (n / 10)++strOfNums [((48+n % 10:Nat):Int)] by rw [decB,dif_neg h10],hdd,hmm];congr 2)
   have CI:=hid (fun w'=>ih d w' (by rw [Nat.pow_succ] at hn;omega) (by omega))
   obtain ⟨t1,HT1⟩:∃ t,Hid (t=decB d):=⟨_,hid rfl⟩
   obtain ⟨t2,HT2⟩:∃ t,Hid (t=strOfNums [48+(m:Int)]):=⟨_,hid rfl⟩
   have hs2:t2.size=1:=by rw [HT2.out,strOfNums_size];rfl
   have hs1:t1.size<=15:=by rw [HT1.out];exact HS.out
   rw [<-HT1.out] at CI
   rw [<-HT1.out,<-HT2.out] at HD
   have zk2:t1.size<=9223372036854775806:=by omega
   have zk:¬ (9223372036854775807<t1.size+t2.size):=by omega
   clear hdd hmm ih hbig hb15 hn HS
   go_enter Try.func42,Try.ntmps42
   go_upto_region 3 with fail
   refine wp_region_held_drew (S:=fun w'=>True) (by kernel_rfl) (trivial) (fun hHe=>?_)
   refine TY 0 (.int .i64 (n:Int)) rfl hHe ?_
   simp only [PS]
   refine TY 1 (.int .i64 (d:Int)) rfl hHe ?_
   simp only [PS]
   refine TY 3 (.int .i64 (n:Int)) rfl hHe ?_
   simp only [PS]
   refine TY 4 (.int .i64 (m:Int)) rfl hHe ?_
   simp only [PS]
   refine TY 5 (.int .i64 (48+(m:Int))) rfl hHe ?_
   simp only [PS]
   refine TY 6 (.int .u8 (48+(m:Int))) rfl hHe ?_
   simp only [PS]
   refine wpAnyH_ready (rs:=[2,7]) (by kernel_rfl) (by simp) ?_
   refine AllReadyH.cons rfl (fun Kq hKq=>?_) (AllReadyH.cons rfl (fun Kq hKq=>?_) AllReadyH.nil)
   ·obtain ⟨y0,e_y0⟩:∃ y,y=w.drew:=⟨_,rfl⟩
    rw [<-e_y0]
    have hA0:Below w.heap.size w y0:=by rw [e_y0];exact (Below.refl _ _).drew
    clear e_y0
    refine step_call (by rfl) 42 #[.int .i64 (d:Int)] (by go_simp) (CI.out _) ?_
    rintro e y1 ⟨rfl,hb0⟩
    refine ⟨_,rfl,?_⟩
    have hA1:=hA0.trans (hb0.mono hA0.size)
    refine hKq.out _ _ hHe (fun _=>?_)
    try simp only [PS]
    refine RD 7 rfl (fun Kq hKq=>?_)
    go_simp
    have hb1:=below_nwD y1 (.cells #[.int .u8 (48+(m:Int))] 5)
    have rX:=row_new y1 #[.int .u8 (48+(m:Int))] 5
    obtain ⟨y2,e_n⟩:∃ y,y=y1.alloc (.cells #[.int .u8 (48+(m:Int))] 5):=⟨_,rfl⟩
    obtain ⟨X,e_b⟩:∃ y,y=y1.heap.size:=⟨_,rfl⟩
    rw [<-e_n] at hb1 rX ⊢
    rw [<-e_b] at rX ⊢
    have hA2:=hA1.trans (hb1.mono hA1.size)
    clear e_n e_b
    refine hKq.out _ _ hHe (fun _=>?_)
    try simp only [PS]
    refine RD 8 rfl (fun Kq hKq=>?_)
    have hcv:=bytes_1L _ _ _ (rX.cell 0 _ rfl)
    rw [<-HT2.out] at hcv
    go_simp
    refine hKq.out _ _ hHe (fun _=>?_)
    try simp only [PS]
    refine TY 9 (.string (t1++t2)) rfl hHe ?_
    simp only [PS]
    refine RD 10 rfl (fun Kq hKq=>?_)
    go_simp
    refine hKq.out _ _ hHe (fun _=>?_)
    try simp only [PS]
    refine DN ?_
    go_wp2
    go_ret
    exact ⟨by rw [HD.out];rfl,hA2⟩
   ·obtain ⟨y0,e_y0⟩:∃ y,y=w.drew:=⟨_,rfl⟩
    rw [<-e_y0]
    have hA0:Below w.heap.size w y0:=by rw [e_y0];exact (Below.refl _ _).drew
    clear e_y0
    go_simp
    have hb0:=below_nwD y0 (.cells #[.int .u8 (48+(m:Int))] 5)
    have rX:=row_new y0 #[.int .u8 (48+(m:Int))] 5
    obtain ⟨y1,e_n⟩:∃ y,y=y0.alloc (.cells #[.int .u8 (48+(m:Int))] 5):=⟨_,rfl⟩
    obtain ⟨X,e_b⟩:∃ y,y=y0.heap.size:=⟨_,rfl⟩
    rw [<-e_n] at hb0 rX ⊢
    rw [<-e_b] at rX ⊢
    have hA1:=hA0.trans (hb0.mono hA0.size)
    clear e_n e_b
    refine hKq.out _ _ hHe (fun _=>?_)
    try simp only [PS]
    refine wpAnyH_ready (rs:=[2,8]) (by kernel_rfl) (by simp) ?_
    refine AllReadyH.cons rfl (fun Kq hKq=>?_) (AllReadyH.cons rfl (fun Kq hKq=>?_) AllReadyH.nil)
    ·refine step_call (by rfl) 42 #[.int .i64 (d:Int)] (by go_simp) (CI.out _) ?_
     rintro e y2 ⟨rfl,hb1⟩
     refine ⟨_,rfl,?_⟩
     have hA2:=hA1.trans (hb1.mono hA1.size)
     have rX:=rX.below hb1
     refine hKq.out _ _ hHe (fun _=>?_)
     try simp only [PS]
     refine RD 8 rfl (fun Kq hKq=>?_)
     have hcv:=bytes_1L _ _ _ (rX.cell 0 _ rfl)
     rw [<-HT2.out] at hcv
     go_simp
     refine hKq.out _ _ hHe (fun _=>?_)
     try simp only [PS]
     refine TY 9 (.string (t1++t2)) rfl hHe ?_
     simp only [PS]
     refine RD 10 rfl (fun Kq hKq=>?_)
     go_simp
     refine hKq.out _ _ hHe (fun _=>?_)
     try simp only [PS]
     refine DN ?_
     go_wp2
     go_ret
     exact ⟨by rw [HD.out];rfl,hA2⟩
    ·have hcv:=bytes_1L _ _ _ (rX.cell 0 _ rfl)
     rw [<-HT2.out] at hcv
     go_simp
     refine hKq.out _ _ hHe (fun _=>?_)
     try simp only [PS]
     refine RD 2 rfl (fun Kq hKq=>?_)
     refine step_call (by rfl) 42 #[.int .i64 (d:Int)] (by go_simp) (CI.out _) ?_
     rintro e y2 ⟨rfl,hb1⟩
     refine ⟨_,rfl,?_⟩
     have hA2:=hA1.trans (hb1.mono hA1.size)
     have rX:=rX.below hb1
     refine hKq.out _ _ hHe (fun _=>?_)
     try simp only [PS]
     refine TY 9 (.string (t1++t2)) rfl hHe ?_
     simp only [PS]
     refine RD 10 rfl (fun Kq hKq=>?_)
     go_simp
     refine hKq.out _ _ hHe (fun _=>?_)
     try simp only [PS]
     refine DN ?_
     go_wp2
     go_ret
     exact ⟨by rw [HD.out];rfl,hA2⟩
section
theorem info_opD:(Try.prog.info? 34).map (fun i=>(i.zero,i.size,i.bytes))=some (some (.agg #[.bool false,.int .i64 0,.string ByteArray.empty]),3,32):=by kernel_rfl
theorem oneOpD (b:Bool) (k:Int) (s:ByteArray):∀ u∈[Value.bool b,Value.int .i64 k,Value.string s],u.oneCell'=true:=by intro u hu;simp at hu;rcases hu with rfl | rfl | rfl<;>rfl
def opsLe (ops:List OpT):Prop:=∀ x∈ops,x.2.2.size<=64
theorem opsLe.snoc {ops:List OpT} (h:opsLe ops) (x:OpT) (hx:x.2.2.size<=64):opsLe (ops++[x]):=fun y hy=>by
 rcases List.mem_append.1 hy with q | q
 ·exact h y q
 ·rw [List.mem_singleton.1 q];exact hx
structure OpD (w wx:World) (R:Nat) (a:Option Addr) (n c:Nat) (p:Int) (u v:Value) (gp cap:Nat) (ops:List OpT):Prop where
 rd:Rdr wx R a n c p
 gr:w.grownBy wx (some R)
 lR:R<w.heap.size
 ga:∀ g o,a=some ⟨g,o,none⟩->0<n->g<w.heap.size
 r3:Row wx w.heap.size [u,v]
 own:wx.ownsRow (w.heap.size+1) 34 3 (.slice (some ⟨gp,0,none⟩) ops.length cap) ops.length (opcells ops)
section
variable {w wx wy:World} {R:Nat} {a:Option Addr} {n c:Nat} {p p':Int} {u v:Value} {gp cap:Nat} {ops:List OpT}
theorem OpD.below (h:OpD w wx R a n c p u v gp cap ops) (hb:Below wx.heap.size wx wy):OpD w wy R a n c p u v gp cap ops :=
 ⟨h.rd.below hb,grown_trans h.gr (grown_of_below _ hb),h.lR,h.ga,h.r3.below hb,owns_below h.own hb⟩
theorem OpD.pick (h:OpD w wx R a n c p u v gp cap ops) (hr:Rdr wy R a n c p') (hg:wx.grownBy wy (some R)):OpD w wy R a n c p' u v gp cap ops:=by
 have h1:=h.lR
 have h2:=h.own.lt gp rfl
 exact ⟨hr,grown_trans h.gr hg,h.lR,h.ga,h.r3.grown hg (fun e=>by injection e with e;omega),h.own.kept hg (.inr (fun e=>by have e:=Option.some.inj e;(try dsimp only at e);omega))⟩
theorem OpD.push (h:OpD w wx R a n c p u v gp cap ops) {k cap':Nat} {ops':List OpT} (hown:wy.ownsRow (w.heap.size+1) 34 3 (.slice (some ⟨k,0,none⟩) ops'.length cap') ops'.length (opcells ops')) (hg:wx.grownBy wy (some gp)):OpD w wy R a n c p u v k cap' ops':=by
 have h2:=h.own.lt gp rfl
 have hb:Below w.heap.size wx wy:=grown_below hg h.gr.size (fun x e=>by have e:=Option.some.inj e;omega)
 obtain ⟨q1,q2⟩:=sp_rd h.rd h.gr h.lR h.ga hb
 exact ⟨q1,q2,h.lR,h.ga,h.r3.grown hg (fun e=>by injection e with e;omega),hown⟩
end
def OpL (w:World) (R:Nat) (a:Option Addr) (n c:Nat) (p:Int) (u v:Value) (nv ov:Value) (wr:World):Prop:=∃ (m:Nat) (pp:Int) (gp cap:Nat) (ops:List OpT),nv=.int .i64 (m:Int)/\m<=8/\ov=.slice (some ⟨gp,0,none⟩) ops.length cap/\ops.length+m<=8/\opsLe ops/\p<=pp/\pp<=p+20*(8-m)/\OpD w wr R a n c pp u v gp cap ops
def OpsPost (w w':World) (r:Ending):Prop:=∃ (ops:List OpT) (gp cap:Nat),r=.returned (.slice (some ⟨gp,0,none⟩) ops.length cap)/\ops.length<=8/\opsLe ops/\w'.ownsRow w.heap.size 34 3 (.slice (some ⟨gp,0,none⟩) ops.length cap) ops.length (opcells ops)
theorem ops_r (R:Nat) (a:Option Addr) (n c:Nat) (p:Int) (a0:Option Addr) (k0 c0:Nat) (v1:Value) (w:World) (h:Rdr w R a n c p) (hp:p<99940000) (hk:k0<=300):Calls Try.prog 14 #[.pointer (some ⟨R,0,none⟩),.agg #[.slice a0 k0 c0,v1]] w fun r w'=>OpsPost w w' r/\RdTo w R a n c p 170 w':=by
 have p0:=h.p0
 obtain ⟨i0,hi0,hz0,hz1,hz2⟩:=info_partsB info_opD
 have HI:=hid (And.intro hi0 (And.intro hz0 (And.intro hz1 hz2)))
 clear hi0 hz0 hz1 hz2
 go_enter Try.func14,Try.ntmps14
 go_wp2_with fail
 generalize e_v1:w.alloc _=y1
 obtain ⟨hb,z_v1,b3⟩:=bx1 e_v1
 clear e_v1
 have HO:(y1.alloc (.cells #[] 34)).ownsRow (w.heap.size+1) 34 3 (.slice (some ⟨y1.heap.size,0,none⟩) 0 0) 0 []:=World.ownsRow_lit _ #[] 0 (by omega) (by simp) (by simp)
 have hb2:=below_nw y1 (.cells #[] 34)
 have hE:=hb.trans (hb2.mono hb.size)
 have S0:OpD w (y1.alloc (.cells #[] 34)) R a n c p (.slice a0 k0 c0) v1 y1.heap.size 0 []:=⟨h.keep (N:=w.heap.size) h.lts.1 h.lts.2 hE,grown_of_below _ hE,h.lts.1,h.lts.2,b3.now.below hb2,HO⟩
 obtain ⟨gp,e_gp⟩:∃ k,k=w.heap.size+1:=⟨_,rfl⟩
 generalize e_y2:y1.alloc _=y2 at S0 ⊢
 rw [z_v1,<-e_gp] at S0
 rw [<-e_gp]
 clear e_y2 e_gp HO hb2 hE hb z_v1 b3 h
 refine (pick_r R a n c p 8 _ S0.rd (by omega)).mono ?_
 rintro e y3 ⟨⟨m',rfl,m0,m1⟩,hr,hg⟩
 obtain ⟨m,rfl⟩:∃ k:Nat,m'=(k:Int):=⟨m'.toNat,by omega⟩
 have S1:=S0.pick hr hg
 clear S0 hr hg
 go_wp2_with fail
 go_loopw [6,5] (fun nv ov wr=>OpL w R a n c (p+1) (.slice a0 k0 c0) v1 nv ov wr) (fun nv _ _=>(intOf nv).toNat)
 case atStart=>exact ⟨m,p+1,gp,0,[],rfl,by omega,rfl,by simp;omega,fun x hx=>by simp at hx,by omega,by omega,S1⟩
 case round =>
  obtain ⟨k,pp,gq,cap,ops,rfl,hk8,rfl,hol,hle,hp0,hp1,S2⟩:=hrel
  have HLE:=hid hle
  clear S1 hle
  by_cases hk0:0<k
  ·have hk0':(0:Int)<(k:Int):=by omega
   go_wp2_with fail
   refine (pick_r R a n c pp 4 _ S2.rd (by omega)).mono ?_
   rintro e y4 ⟨⟨t,rfl,t0,t1⟩,hr,hg⟩
   have S3:=S2.pick hr hg
   clear S2 hr hg
   by_cases e0:t=0
   ·subst e0
    have S4:=S3.below (below_nw y4 (.cells #[.bool true,.int .i64 0,.string ByteArray.empty] 34))
    have HS4:=hid S4
    have l4:=S3.gr.size
    have l5:=S3.r3.lt
    clear S4
    go_wp2_with (first | (at_builtin;refine WAL _ rfl _ _ 27 rfl (w.heap.size+1) Try.underlying27 HI.out rfl (by omega) _ ops.length _ rfl HS4.out.own ⟨y4.heap.size,0,none⟩ 1 1 [.bool true,.int .i64 0,.string ByteArray.empty] rfl rfl (World.news_of_block (heap_alloc_new y4 _)) (oneOpD _ _ _) (by simp;omega) (y4.heap.size+1) (by simp) ?_;intro kk cap2 yA hown hgrow hat hlt9;have hown':yA.ownsRow (w.heap.size+1) 34 3 (.slice (some ⟨kk,0,none⟩) (ops++[((true,0,ByteArray.empty):OpT)]).length cap2) (ops++[((true,0,ByteArray.empty):OpT)]).length (opcells (ops++[(true,0,ByteArray.empty)])):=(by rw [opcells_append,List.length_append];exact hown);have HG:=hid (HS4.out.push hown' hgrow);clear hown hgrow hat hown'))
    have hle2:=HLE.out.snoc (true,0,ByteArray.empty) (Nat.zero_le _)
    have hl2:(ops++[((true,0,ByteArray.empty):OpT)]).length=ops.length+1:=by rw [List.length_append];rfl
    have HL2:=hid (And.intro hle2 hl2)
    clear hle2 hl2
    go_roundw
    case rel=>exact ⟨k-1,pp+1,kk,cap2,ops++[(true,0,ByteArray.empty)],by first | go_num | (congr 1;omega),by omega,by rw [HL2.out.2],by rw [HL2.out.2];omega,HL2.out.1,by omega,by omega,HG.out⟩
    case measure=>simp [intOf];omega
   ·go_wp2_with fail
    refine (many_x ⟨#[115]⟩ 40 _ 40 rfl (by omega) (by show 1<=_;omega) (by omega)).mono ?_
    rintro e y5 ⟨⟨s1,rfl,hs1⟩,hb5⟩
    have S4:=S3.below hb5
    clear S3 hb5
    go_wp2_with fail
    refine (text_x R a n c (pp+1) _ S4.rd (by omega)).mono ?_
    rintro e y6 ⟨⟨tx,rfl,htx⟩,⟨p6,p60,p61,hr⟩,hg⟩
    have S5:=S4.pick hr hg
    clear S4 hr hg
    have z1:¬ (9223372036854775807<tx.size+1):=by omega
    obtain ⟨ty,hty⟩:∃ ty:ByteArray,ty=tx++⟨#[116]⟩:=⟨_,rfl⟩
    have hts:ty.size=tx.size+1:=by rw [hty,ByteArray.size_append];rfl
    have CM:=hid (many_x ty 24 y6 (ty.size*24) rfl (by omega) (by omega) (by omega))
    rw [hty] at CM
    go_wp2_with fail
    refine CM.out.mono ?_
    rintro e y7 ⟨⟨s2,rfl,hs2⟩,hb7⟩
    have S6:=S5.below hb7
    clear S5 hb7 CM
    have hs2':24<=s2.size/\s2.size<=2424:=by rw [<-hty,hts] at hs2;omega
    clear hs2 hty hts
    have z2:¬ (9223372036854775807<s1.size+s2.size):=by omega
    have q3:=S6.r3.cell 0 _ rfl
    have ql:=S6.r3.lt
    have hwk:IntKind.i64.wrap ((k0:Int)+1)=(k0:Int)+1:=wrap_i64_id _ (by omega) (by omega)
    go_wp2_with fail
    refine (pick_r R a n c p6 ((k0:Int)+1) _ S6.rd (by omega)).mono ?_
    rintro e y8 ⟨⟨u1,rfl,u10,u11⟩,hr,hg⟩
    have S7:=S6.pick hr hg
    clear S6 hr hg q3 ql
    obtain ⟨dt,e_dt⟩:∃ d,d=s1++s2:=⟨_,rfl⟩
    have hdt:64<=dt.size:=by rw [e_dt,ByteArray.size_append];omega
    rw [<-e_dt]
    clear e_dt z2 hs2' hs1
    go_wp2_with fail
    refine (pick_r R a n c (p6+1) 2 _ S7.rd (by omega)).mono ?_
    rintro e y9 ⟨⟨u2,rfl,u20,u21⟩,hr,hg⟩
    have S8:=S7.pick hr hg
    clear S7 hr hg
    have hwu:IntKind.i64.wrap (u1-u2)=u1-u2:=wrap_i64_id _ (by omega) (by omega)
    go_wp2_with fail
    refine (pick_r R a n c (p6+1+1) 9 _ S8.rd (by omega)).mono ?_
    rintro e y10 ⟨⟨u3,rfl,u30,u31⟩,hr,hg⟩
    have S9:=S8.pick hr hg
    clear S8 hr hg
    have l4:=S9.gr.size
    have l5:=S9.r3.lt
    have hd64:(64:Int)<=(dt.size:Int):=by omega
    have hd63:(63:Int)<=(dt.size:Int):=by omega
    have hd64':¬ (dt.size:Int)<64:=by omega
    have hd63':¬ (dt.size:Int)<63:=by omega
    by_cases e8:u3=8
    ·subst e8
     have S10:=S9.below (below_nw y10 (.cells #[.bool false,.int .i64 (u1-u2),.string (dt.extract 0 63)] 34))
     have HS4:=hid S10
     clear S10
     go_wp2_with (first | (at_builtin;refine WAL _ rfl _ _ 27 rfl (w.heap.size+1) Try.underlying27 HI.out rfl (by omega) _ ops.length _ rfl HS4.out.own ⟨y10.heap.size,0,none⟩ 1 1 [.bool false,.int .i64 (u1-u2),.string (dt.extract 0 63)] rfl rfl (World.news_of_block (heap_alloc_new y10 _)) (oneOpD _ _ _) (by simp;omega) (y10.heap.size+1) (by simp) ?_;intro kk cap2 yA hown hgrow hat hlt9;have hown':yA.ownsRow (w.heap.size+1) 34 3 (.slice (some ⟨kk,0,none⟩) (ops++[((false,u1-u2,dt.extract 0 63):OpT)]).length cap2) (ops++[((false,u1-u2,dt.extract 0 63):OpT)]).length (opcells (ops++[((false,u1-u2,dt.extract 0 63):OpT)])):=(by rw [opcells_append,List.length_append];exact hown);have HG:=hid (HS4.out.push hown' hgrow);clear hown hgrow hat hown'))
     have hle2:=HLE.out.snoc ((false,u1-u2,dt.extract 0 63):OpT) (by show (dt.extract 0 63).size<=64;rw [ByteArray.size_extract];omega)
     have hl2:(ops++[((false,u1-u2,dt.extract 0 63):OpT)]).length=ops.length+1:=by rw [List.length_append];rfl
     have HL2:=hid (And.intro hle2 hl2)
     clear hle2 hl2
     go_roundw
     case rel=>exact ⟨k-1,p6+1+1+1,kk,cap2,ops++[((false,u1-u2,dt.extract 0 63):OpT)],by first | go_num | (congr 1;omega),by omega,by rw [HL2.out.2],by rw [HL2.out.2];omega,HL2.out.1,by omega,by omega,HG.out⟩
     case measure=>simp [intOf];omega
    ·have hq:u3.tdiv 8=0:=by rw [Int.tdiv_eq_ediv_of_nonneg (by omega)];omega
     have hq':u3 / 8=0:=by omega
     have S10:=S9.below (below_nw y10 (.cells #[.bool false,.int .i64 (u1-u2),.string (dt.extract 0 64)] 34))
     have HS4:=hid S10
     clear S10
     go_wp2_with (first | (at_builtin;refine WAL _ rfl _ _ 27 rfl (w.heap.size+1) Try.underlying27 HI.out rfl (by omega) _ ops.length _ rfl HS4.out.own ⟨y10.heap.size,0,none⟩ 1 1 [.bool false,.int .i64 (u1-u2),.string (dt.extract 0 64)] rfl rfl (World.news_of_block (heap_alloc_new y10 _)) (oneOpD _ _ _) (by simp;omega) (y10.heap.size+1) (by simp) ?_;intro kk cap2 yA hown hgrow hat hlt9;have hown':yA.ownsRow (w.heap.size+1) 34 3 (.slice (some ⟨kk,0,none⟩) (ops++[((false,u1-u2,dt.extract 0 64):OpT)]).length cap2) (ops++[((false,u1-u2,dt.extract 0 64):OpT)]).length (opcells (ops++[((false,u1-u2,dt.extract 0 64):OpT)])):=(by rw [opcells_append,List.length_append];exact hown);have HG:=hid (HS4.out.push hown' hgrow);clear hown hgrow hat hown'))
     have hle2:=HLE.out.snoc ((false,u1-u2,dt.extract 0 64):OpT) (by show (dt.extract 0 64).size<=64;rw [ByteArray.size_extract];omega)
     have hl2:(ops++[((false,u1-u2,dt.extract 0 64):OpT)]).length=ops.length+1:=by rw [List.length_append];rfl
     have HL2:=hid (And.intro hle2 hl2)
     clear hle2 hl2
     go_roundw
     case rel=>exact ⟨k-1,p6+1+1+1,kk,cap2,ops++[((false,u1-u2,dt.extract 0 64):OpT)],by first | go_num | (congr 1;omega),by omega,by rw [HL2.out.2],by rw [HL2.out.2];omega,HL2.out.1,by omega,by omega,HG.out⟩
     case measure=>simp [intOf];omega
  ·have hk0':¬ (0:Int)<(k:Int):=by omega
   go_wp2_with fail
   go_ret
   exact ⟨⟨ops,gq,cap,rfl,by omega,HLE.out,S2.own.mono (by omega)⟩,⟨pp,by omega,by omega,S2.rd⟩,S2.gr⟩
end
end Go.Proofs.Ythdilmkbnpmdaaa
