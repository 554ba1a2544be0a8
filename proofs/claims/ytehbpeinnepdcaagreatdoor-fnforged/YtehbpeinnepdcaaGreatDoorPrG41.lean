import Derived.Test.YtehbpeinnepdcaaGreatDoorPrG48
import Derived.Deep.CutBlock
import Derived.Test.YtehbpeinnepdcaaGreatDoorPrAnL
set_option maxHeartbeats 32000000
set_option maxRecDepth 8000
set_option linter.unusedVariables false
set_option linter.unusedSimpArgs false
namespace Go.Proofs.YtehbpeinnepdcaaGreatDoor
open Go.RowKit
def zrK (w w':World) (e:Ending) (ss:List ByteArray) (ws:List (Int×ByteArray)):Prop:=∃ g c g' c',e=.returned (Zoj (some ⟨g,0,none⟩) ss.length c (some ⟨g',0,none⟩) ws.length c')/\w'.ownsRow w.heap.size 9 1 (.slice (some ⟨g,0,none⟩) ss.length c) ss.length (ss.map Value.string)/\w'.ownsRow w.heap.size 74 2 (.slice (some ⟨g',0,none⟩) ws.length c') ws.length (yaV ws)/\g≠g'/\Below w.heap.size w w'
theorem X4E (a:Option Addr) (ss:List ByteArray) (c:Nat) (a':Option Addr) (ws:List (Int×ByteArray)) (c':Nat) (w:World) (h:Strs w a ss) (h':Wrs w a' ws) (hl:ss.length<=1048576) (cM:ws.length<=1048576) :
  Calls Tryz.prog 68 #[Zoj a ss.length c a' ws.length c'] w fun e w'=>zrK w w' e ss ws:=by
 obtain ⟨i0,aZ,bC,bG,bH⟩:=info_parts' kDp;have HI:=hid (And.intro aZ (And.intro bC (And.intro bG bH)));clear aZ bC bG bH;obtain ⟨i1,aZ,bC,bG,bH⟩:=info_parts' yGS;have HJ:=hid (And.intro aZ (And.intro bC (And.intro bG bH)));clear aZ bC bG bH;unfold Zoj;go_enter Tryz.func68,Tryz.ntmps68;go_wp2_with fail;generalize aW:w.alloc _=v1;obtain ⟨b1,z1,bA⟩:=bx1 aW;clear aW;generalize aX:v1.alloc _=v2;obtain ⟨b2,z2,bR⟩:=bx1 aX;clear aX;rw [z1] at bR;have HZ:Hid (v2.heap.size=w.heap.size+1+1):=hid (by omega);have hE:Below w.heap.size w v2:=b1.trans (b2.mono (by omega));replace bA:=bA.below b2;clear b1 b2 z1 z2
 have HK:Hid (∀ W,Below v2.heap.size v2 W->W.cell? ⟨w.heap.size,0,none⟩=some (.slice a ss.length c)/\W.cell? ⟨w.heap.size,1,none⟩=some (.slice a' ws.length c')):=fun W hb=>⟨(bA.below hb).now.cell 0 _ rfl,(bA.below hb).now.cell 1 _ rfl⟩
 refine wp_region_held_drew (S:=fun w'=>w'.cell? ⟨w.heap.size,0,none⟩=some (.slice a ss.length c)/\w'.cell? ⟨w.heap.size,1,none⟩=some (.slice a' ws.length c')) (by kernel_rfl) (HK.out _ (Below.refl _ _).drew) (fun bJ=>?_);refine TY 1 (.pointer (some ⟨w.heap.size,0,none⟩)) rfl bJ (TY 2 (.slice a ss.length c) rfl bJ (TY 5 (.pointer (some ⟨w.heap.size,1,none⟩)) rfl bJ (TY 6 (.slice a' ws.length c') rfl bJ ?_)));simp only [PS];refine wpAnyH_ready (rs:=[0,4]) (by kernel_rfl) (by simp) ?_;refine AllReadyH.cons rfl (fun Kq aE=>?_) (AllReadyH.cons rfl (fun Kq aE=>?_) AllReadyH.nil)
 ·obtain ⟨y0,aN⟩:∃ y,y=v2.drew:=⟨_,rfl⟩
  rw [<-aN];have aU:Below v2.heap.size v2 y0:=by rw [aN];exact (Below.refl _ _).drew
  clear aN;go_simp;have aV:=xCS y0 (.cells #[] 9);have aG:=World.ownsRow_lit (w:=y0) (e:=9) (size:=1) (base:=w.heap.size) #[] 0 (by have:=aU.size;have:=HZ.out;omega) (by simp) (by simp);have l0:=(show (y0.alloc (.cells #[] 9)).heap.size=y0.heap.size+1 by simp);obtain ⟨y1,aO⟩:∃ y,y=y0.alloc (.cells #[] 9):=⟨_,rfl⟩;obtain ⟨b0,aM⟩:∃ y,y=y0.heap.size:=⟨_,rfl⟩;rw [<-aO] at aV aG l0 ⊢;rw [<-aM] at aG ⊢;have aQ:=aU.trans (aV.mono aU.size);have E0:=hid aM;have bI:=hid l0;clear l0;clear aO;clear aM;refine aE.out _ _ (HK.out _ aQ) (fun cE=>?_)
  try simp only [PS]
  refine wpAnyH_ready (rs:=[3,4]) (by kernel_rfl) (by simp) ?_;refine AllReadyH.cons rfl (fun Kq aE=>?_) (AllReadyH.cons rfl (fun Kq aE=>?_) AllReadyH.nil)
  ·refine z98 (by rfl) _ _ 23 (by rfl) 9 i0 (.string ByteArray.empty) 1 16 Tryz.underlying23 HI.out.1 HI.out.2.1 HI.out.2.2.1 HI.out.2.2.2 rfl b0 w.heap.size (by rfl) aG _ (by rfl) ss.length _ (src_strs (h.below (hE.trans (aQ.mono hE.size))) _ _ Tryz.underlying23 _) (by omega) (by omega) (by have:=aQ.size;have:=hE.size;omega) ?_
   intro g3 aA y2 aC aH aR;have aL:=aQ.trans (aR.mono aQ.size);have b8:g3<y2.heap.size:=(aC.lt _ rfl).2;refine aE.out _ _ (HK.out _ aL) (fun cF=>?_)
   try simp only [PS]
   refine RD 4 rfl (fun Kq aE=>?_);go_simp;have aS:=xCS y2 (.cells #[] 74);have aD:=World.ownsRow_lit (w:=y2) (e:=74) (size:=2) (base:=w.heap.size) #[] 0 (by have:=aL.size;have:=HZ.out;omega) (by simp) (by simp);have l2:=(show (y2.alloc (.cells #[] 74)).heap.size=y2.heap.size+1 by simp);obtain ⟨y3,aO⟩:∃ y,y=y2.alloc (.cells #[] 74):=⟨_,rfl⟩;obtain ⟨b4,aF⟩:∃ y,y=y2.heap.size:=⟨_,rfl⟩;rw [<-aO] at aS aD l2 ⊢;rw [<-aF] at aD ⊢;have aJ:=aL.trans (aS.mono aL.size);have E4:=hid aF;have cC:=hid l2;clear l2;clear aO;clear aF;have aC:=jcb aC aS;refine aE.out _ _ (HK.out _ aJ) (fun cH=>?_)
   try simp only [PS]
   refine RD 7 rfl (fun Kq aE=>?_);refine z98 (by rfl) _ _ 24 (by rfl) 74 i1 (.agg #[.int .i64 0,.string ByteArray.empty]) 2 24 Tryz.underlying24 HJ.out.1 HJ.out.2.1 HJ.out.2.2.1 HJ.out.2.2.2 rfl b4 w.heap.size (by rfl) aD _ (by rfl) ws.length _ (src_wrs (h'.below (hE.trans (aJ.mono hE.size))) _ _ Tryz.underlying24 _) (by omega) (by omega) (by have:=aJ.size;have:=hE.size;omega) ?_;intro g7 aB y4 aK aI aT;have aP:=aJ.trans (aT.mono aJ.size);have aC:=jcb aC aT;refine aE.out _ _ (HK.out _ aP) (fun bU=>?_)
   try simp only [PS]
   refine TY 8 (.agg #[.slice (some ⟨g3,0,none⟩) ss.length aA,.slice (some ⟨g7,0,none⟩) ws.length aB]) rfl bU ?_;simp only [PS];refine RD 9 rfl (fun Kq aE=>?_);have R2:=(bR.below aP).now;have k0:=R2.cell 0 _ rfl;have k1:=R2.cell 1 _ rfl;obtain ⟨f0,f1⟩:=R2.z2;have kl:=R2.lt;go_simp;refine aE.out _ _ ((HK.out _ aP).imp (fun k=>(World.cell?_setCell_far _ _ _ _ (by simp)).trans ((World.cell?_setCell_far _ _ _ _ (by simp)).trans k)) (fun k=>(World.cell?_setCell_far _ _ _ _ (by simp)).trans ((World.cell?_setCell_far _ _ _ _ (by simp)).trans k))) (fun cI=>?_)
   try simp only [PS]
   refine DN ?_;go_wp2_with fail;have rF:=(R2.set 0 (by simp) (.slice (some ⟨g3,0,none⟩) ss.length aA)).set 1 (by simp) (.slice (some ⟨g7,0,none⟩) ws.length aB);have s0:=aU.size;have sz:=HZ.out;have e0:=E0.out;have e4:=E4.out;have t0:=aV.size;have t1:=aR.size;have t2:=aS.size;have t3:=aT.size;have q0:=bI.out;have q2:=cC.out
   have gA:g3≠w.heap.size+1:=fun e=>by clear aC aK;rcases aH with aH | aH<;>omega
   have gB:g7≠w.heap.size+1:=fun e=>by rcases aI with aI | aI<;>omega
   have gC:g3≠g7:=by rcases aH with aH | aH<;>rcases aI with aI | aI<;>omega
   clear q0 q2 sz e0 e4;have o3:=ownsRow_setCell_other (a:=⟨w.heap.size+1,1,none⟩) (ownsRow_setCell_other (a:=⟨w.heap.size+1,0,none⟩) aC (fun e=>gA (by injection e)) (.slice (some ⟨g3,0,none⟩) ss.length aA)) (fun e=>gA (by injection e)) (.slice (some ⟨g7,0,none⟩) ws.length aB);have o7:=ownsRow_setCell_other (a:=⟨w.heap.size+1,1,none⟩) (ownsRow_setCell_other (a:=⟨w.heap.size+1,0,none⟩) aK (fun e=>gB (by injection e)) (.slice (some ⟨g3,0,none⟩) ss.length aA)) (fun e=>gB (by injection e)) (.slice (some ⟨g7,0,none⟩) ws.length aB);have c0:=rF.cell 0 _ rfl;have c1:=rF.cell 1 _ rfl;have hF:Below w.heap.size w ((y4.setCell ⟨w.heap.size+1,0,none⟩ (.slice (some ⟨g3,0,none⟩) ss.length aA)).setCell ⟨w.heap.size+1,1,none⟩ (.slice (some ⟨g7,0,none⟩) ws.length aB)):=((hE.trans (aP.mono hE.size)).setCell (by simp) _).setCell (by simp) _;refine bodyPost_ret (v:=.agg #[.slice (some ⟨g3,0,none⟩) ss.length aA,.slice (some ⟨g7,0,none⟩) ws.length aB]) (by simp [results,Tryz.results68,go_sem,c0,c1]) rfl ⟨g3,aA,g7,aB,rfl,o3,o7,gC,hF⟩
  ·go_simp
   have aR:=xCS y1 (.cells #[] 74);have aD:=World.ownsRow_lit (w:=y1) (e:=74) (size:=2) (base:=w.heap.size) #[] 0 (by have:=aQ.size;have:=HZ.out;omega) (by simp) (by simp);have l1:=(show (y1.alloc (.cells #[] 74)).heap.size=y1.heap.size+1 by simp);obtain ⟨y2,aO⟩:∃ y,y=y1.alloc (.cells #[] 74):=⟨_,rfl⟩;obtain ⟨b4,aF⟩:∃ y,y=y1.heap.size:=⟨_,rfl⟩;rw [<-aO] at aR aD l1 ⊢;rw [<-aF] at aD ⊢;have aL:=aQ.trans (aR.mono aQ.size);have E4:=hid aF;have bQ:=hid l1;clear l1;clear aO;clear aF;have aG:=jcb aG aR;refine aE.out _ _ (HK.out _ aL) (fun cJ=>?_)
   try simp only [PS]
   refine RD 3 rfl (fun Kq aE=>?_);refine z98 (by rfl) _ _ 23 (by rfl) 9 i0 (.string ByteArray.empty) 1 16 Tryz.underlying23 HI.out.1 HI.out.2.1 HI.out.2.2.1 HI.out.2.2.2 rfl b0 w.heap.size (by rfl) aG _ (by rfl) ss.length _ (src_strs (h.below (hE.trans (aL.mono hE.size))) _ _ Tryz.underlying23 _) (by omega) (by omega) (by have:=aL.size;have:=hE.size;omega) ?_;intro g3 aA y3 aC aH aS;have aJ:=aL.trans (aS.mono aL.size);have b8:g3<y3.heap.size:=(aC.lt _ rfl).2;have aD:=jcb aD aS;refine aE.out _ _ (HK.out _ aJ) (fun cK=>?_)
   try simp only [PS]
   refine RD 7 rfl (fun Kq aE=>?_);refine z98 (by rfl) _ _ 24 (by rfl) 74 i1 (.agg #[.int .i64 0,.string ByteArray.empty]) 2 24 Tryz.underlying24 HJ.out.1 HJ.out.2.1 HJ.out.2.2.1 HJ.out.2.2.2 rfl b4 w.heap.size (by rfl) aD _ (by rfl) ws.length _ (src_wrs (h'.below (hE.trans (aJ.mono hE.size))) _ _ Tryz.underlying24 _) (by omega) (by omega) (by have:=aJ.size;have:=hE.size;omega) ?_;intro g7 aB y4 aK aI aT;have aP:=aJ.trans (aT.mono aJ.size);have aC:=jcb aC aT;refine aE.out _ _ (HK.out _ aP) (fun bV=>?_)
   try simp only [PS]
   refine TY 8 (.agg #[.slice (some ⟨g3,0,none⟩) ss.length aA,.slice (some ⟨g7,0,none⟩) ws.length aB]) rfl bV ?_;simp only [PS];refine RD 9 rfl (fun Kq aE=>?_);have R2:=(bR.below aP).now;have k0:=R2.cell 0 _ rfl;have k1:=R2.cell 1 _ rfl;obtain ⟨f0,f1⟩:=R2.z2;have kl:=R2.lt;go_simp;refine aE.out _ _ ((HK.out _ aP).imp (fun k=>(World.cell?_setCell_far _ _ _ _ (by simp)).trans ((World.cell?_setCell_far _ _ _ _ (by simp)).trans k)) (fun k=>(World.cell?_setCell_far _ _ _ _ (by simp)).trans ((World.cell?_setCell_far _ _ _ _ (by simp)).trans k))) (fun cL=>?_)
   try simp only [PS]
   refine DN ?_;go_wp2_with fail;have rF:=(R2.set 0 (by simp) (.slice (some ⟨g3,0,none⟩) ss.length aA)).set 1 (by simp) (.slice (some ⟨g7,0,none⟩) ws.length aB);have s0:=aU.size;have sz:=HZ.out;have e0:=E0.out;have e4:=E4.out;have t0:=aV.size;have t1:=aR.size;have t2:=aS.size;have t3:=aT.size;have q0:=bI.out;have q1:=bQ.out
   have gA:g3≠w.heap.size+1:=fun e=>by clear aC aK;rcases aH with aH | aH<;>omega
   have gB:g7≠w.heap.size+1:=fun e=>by rcases aI with aI | aI<;>omega
   have gC:g3≠g7:=by rcases aH with aH | aH<;>rcases aI with aI | aI<;>omega
   clear q0 q1 sz e0 e4;have o3:=ownsRow_setCell_other (a:=⟨w.heap.size+1,1,none⟩) (ownsRow_setCell_other (a:=⟨w.heap.size+1,0,none⟩) aC (fun e=>gA (by injection e)) (.slice (some ⟨g3,0,none⟩) ss.length aA)) (fun e=>gA (by injection e)) (.slice (some ⟨g7,0,none⟩) ws.length aB);have o7:=ownsRow_setCell_other (a:=⟨w.heap.size+1,1,none⟩) (ownsRow_setCell_other (a:=⟨w.heap.size+1,0,none⟩) aK (fun e=>gB (by injection e)) (.slice (some ⟨g3,0,none⟩) ss.length aA)) (fun e=>gB (by injection e)) (.slice (some ⟨g7,0,none⟩) ws.length aB);have c0:=rF.cell 0 _ rfl;have c1:=rF.cell 1 _ rfl;have hF:Below w.heap.size w ((y4.setCell ⟨w.heap.size+1,0,none⟩ (.slice (some ⟨g3,0,none⟩) ss.length aA)).setCell ⟨w.heap.size+1,1,none⟩ (.slice (some ⟨g7,0,none⟩) ws.length aB)):=((hE.trans (aP.mono hE.size)).setCell (by simp) _).setCell (by simp) _;refine bodyPost_ret (v:=.agg #[.slice (some ⟨g3,0,none⟩) ss.length aA,.slice (some ⟨g7,0,none⟩) ws.length aB]) (by simp [results,Tryz.results68,go_sem,c0,c1]) rfl ⟨g3,aA,g7,aB,rfl,o3,o7,gC,hF⟩
 ·obtain ⟨y0,aN⟩:∃ y,y=v2.drew:=⟨_,rfl⟩
  rw [<-aN];have aU:Below v2.heap.size v2 y0:=by rw [aN];exact (Below.refl _ _).drew
  clear aN;go_simp;have aV:=xCS y0 (.cells #[] 74);have aD:=World.ownsRow_lit (w:=y0) (e:=74) (size:=2) (base:=w.heap.size) #[] 0 (by have:=aU.size;have:=HZ.out;omega) (by simp) (by simp);have l0:=(show (y0.alloc (.cells #[] 74)).heap.size=y0.heap.size+1 by simp);obtain ⟨y1,aO⟩:∃ y,y=y0.alloc (.cells #[] 74):=⟨_,rfl⟩;obtain ⟨b4,aF⟩:∃ y,y=y0.heap.size:=⟨_,rfl⟩;rw [<-aO] at aV aD l0 ⊢;rw [<-aF] at aD ⊢;have aQ:=aU.trans (aV.mono aU.size);have E4:=hid aF;have bI:=hid l0;clear l0;clear aO;clear aF;refine aE.out _ _ (HK.out _ aQ) (fun bW=>?_)
  try simp only [PS]
  refine RD 0 rfl (fun Kq aE=>?_);go_simp;have aR:=xCS y1 (.cells #[] 9);have aG:=World.ownsRow_lit (w:=y1) (e:=9) (size:=1) (base:=w.heap.size) #[] 0 (by have:=aQ.size;have:=HZ.out;omega) (by simp) (by simp);have l1:=(show (y1.alloc (.cells #[] 9)).heap.size=y1.heap.size+1 by simp);obtain ⟨y2,aO⟩:∃ y,y=y1.alloc (.cells #[] 9):=⟨_,rfl⟩;obtain ⟨b0,aM⟩:∃ y,y=y1.heap.size:=⟨_,rfl⟩;rw [<-aO] at aR aG l1 ⊢;rw [<-aM] at aG ⊢;have aL:=aQ.trans (aR.mono aQ.size);have E0:=hid aM;have bQ:=hid l1;clear l1;clear aO;clear aM;have aD:=jcb aD aR;refine aE.out _ _ (HK.out _ aL) (fun bY=>?_)
  try simp only [PS]
  refine RD 3 rfl (fun Kq aE=>?_);refine z98 (by rfl) _ _ 23 (by rfl) 9 i0 (.string ByteArray.empty) 1 16 Tryz.underlying23 HI.out.1 HI.out.2.1 HI.out.2.2.1 HI.out.2.2.2 rfl b0 w.heap.size (by rfl) aG _ (by rfl) ss.length _ (src_strs (h.below (hE.trans (aL.mono hE.size))) _ _ Tryz.underlying23 _) (by omega) (by omega) (by have:=aL.size;have:=hE.size;omega) ?_;intro g3 aA y3 aC aH aS;have aJ:=aL.trans (aS.mono aL.size);have b8:g3<y3.heap.size:=(aC.lt _ rfl).2;have aD:=jcb aD aS;refine aE.out _ _ (HK.out _ aJ) (fun bZ=>?_)
  try simp only [PS]
  refine RD 7 rfl (fun Kq aE=>?_);refine z98 (by rfl) _ _ 24 (by rfl) 74 i1 (.agg #[.int .i64 0,.string ByteArray.empty]) 2 24 Tryz.underlying24 HJ.out.1 HJ.out.2.1 HJ.out.2.2.1 HJ.out.2.2.2 rfl b4 w.heap.size (by rfl) aD _ (by rfl) ws.length _ (src_wrs (h'.below (hE.trans (aJ.mono hE.size))) _ _ Tryz.underlying24 _) (by omega) (by omega) (by have:=aJ.size;have:=hE.size;omega) ?_;intro g7 aB y4 aK aI aT;have aP:=aJ.trans (aT.mono aJ.size);have aC:=jcb aC aT;refine aE.out _ _ (HK.out _ aP) (fun aY=>?_)
  try simp only [PS]
  refine TY 8 (.agg #[.slice (some ⟨g3,0,none⟩) ss.length aA,.slice (some ⟨g7,0,none⟩) ws.length aB]) rfl aY ?_;simp only [PS];refine RD 9 rfl (fun Kq aE=>?_);have R2:=(bR.below aP).now;have k0:=R2.cell 0 _ rfl;have k1:=R2.cell 1 _ rfl;obtain ⟨f0,f1⟩:=R2.z2;have kl:=R2.lt;go_simp;refine aE.out _ _ ((HK.out _ aP).imp (fun k=>(World.cell?_setCell_far _ _ _ _ (by simp)).trans ((World.cell?_setCell_far _ _ _ _ (by simp)).trans k)) (fun k=>(World.cell?_setCell_far _ _ _ _ (by simp)).trans ((World.cell?_setCell_far _ _ _ _ (by simp)).trans k))) (fun b7=>?_)
  try simp only [PS]
  refine DN ?_;go_wp2_with fail;have rF:=(R2.set 0 (by simp) (.slice (some ⟨g3,0,none⟩) ss.length aA)).set 1 (by simp) (.slice (some ⟨g7,0,none⟩) ws.length aB);have s0:=aU.size;have sz:=HZ.out;have e0:=E0.out;have e4:=E4.out;have t0:=aV.size;have t1:=aR.size;have t2:=aS.size;have t3:=aT.size;have q0:=bI.out;have q1:=bQ.out
  have gA:g3≠w.heap.size+1:=fun e=>by clear aC aK;rcases aH with aH | aH<;>omega
  have gB:g7≠w.heap.size+1:=fun e=>by rcases aI with aI | aI<;>omega
  have gC:g3≠g7:=by rcases aH with aH | aH<;>rcases aI with aI | aI<;>omega
  clear q0 q1 sz e0 e4;have o3:=ownsRow_setCell_other (a:=⟨w.heap.size+1,1,none⟩) (ownsRow_setCell_other (a:=⟨w.heap.size+1,0,none⟩) aC (fun e=>gA (by injection e)) (.slice (some ⟨g3,0,none⟩) ss.length aA)) (fun e=>gA (by injection e)) (.slice (some ⟨g7,0,none⟩) ws.length aB);have o7:=ownsRow_setCell_other (a:=⟨w.heap.size+1,1,none⟩) (ownsRow_setCell_other (a:=⟨w.heap.size+1,0,none⟩) aK (fun e=>gB (by injection e)) (.slice (some ⟨g3,0,none⟩) ss.length aA)) (fun e=>gB (by injection e)) (.slice (some ⟨g7,0,none⟩) ws.length aB);have c0:=rF.cell 0 _ rfl;have c1:=rF.cell 1 _ rfl;have hF:Below w.heap.size w ((y4.setCell ⟨w.heap.size+1,0,none⟩ (.slice (some ⟨g3,0,none⟩) ss.length aA)).setCell ⟨w.heap.size+1,1,none⟩ (.slice (some ⟨g7,0,none⟩) ws.length aB)):=((hE.trans (aP.mono hE.size)).setCell (by simp) _).setCell (by simp) _;refine bodyPost_ret (v:=.agg #[.slice (some ⟨g3,0,none⟩) ss.length aA,.slice (some ⟨g7,0,none⟩) ws.length aB]) (by simp [results,Tryz.results68,go_sem,c0,c1]) rfl ⟨g3,aA,g7,aB,rfl,o3,o7,gC,hF⟩
section
abbrev WrT:=Int×ByteArray
structure SpS (w wx:World) (R:Nat) (a:Option Addr) (n c:Nat) (p:Int) (A4 B g sc:Nat) (ss:List ByteArray) (g' sc':Nat) (ws:List WrT):Prop where
 rd:Rdr wx R a n c p
 gr:w.grownBy wx (some R)
 lR:R<w.heap.size
 ga:∀ g o,a=some ⟨g,o,none⟩->0<n->g<w.heap.size
 r4:Row wx A4 [.slice none 0 0,.slice none 0 0]
 r5:Row wx B [.slice (some ⟨g,0,none⟩) ss.length sc,.slice (some ⟨g',0,none⟩) ws.length sc']
 hA:w.heap.size<=A4
 hB:A4<B
 so:wx.ownsRow (A4+1) 9 1 (.slice (some ⟨g,0,none⟩) ss.length sc) ss.length (ss.map Value.string)
 wo:wx.ownsRow (A4+1) 74 2 (.slice (some ⟨g',0,none⟩) ws.length sc') ws.length (yaV ws)
 n1:g≠B
 n2:g'≠B
 ne:g≠g'
section
variable {w wx wy:World} {R:Nat} {a:Option Addr} {n c:Nat} {p p':Int} {A4 B g sc:Nat} {ss:List ByteArray} {g' sc':Nat} {ws:List WrT}
theorem SpS.lt (h:SpS w wx R a n c p A4 B g sc ss g' sc' ws):w.heap.size<=wx.heap.size:=h.gr.size
theorem SpS.lg (h:SpS w wx R a n c p A4 B g sc ss g' sc' ws):(A4+1<=g/\g<wx.heap.size)/\(A4+1<=g'/\g'<wx.heap.size):=⟨h.so.lt g rfl,h.wo.lt g' rfl⟩
theorem SpS.below (h:SpS w wx R a n c p A4 B g sc ss g' sc' ws) (hb:Below wx.heap.size wx wy):SpS w wy R a n c p A4 B g sc ss g' sc' ws :=
 ⟨h.rd.below hb,ZpU h.gr (Qbp _ hb),h.lR,h.ga,h.r4.below hb,h.r5.below hb,h.hA,h.hB,jcb h.so hb,jcb h.wo hb,h.n1,h.n2,h.ne⟩
theorem SpS.drew (h:SpS w wx R a n c p A4 B g sc ss g' sc' ws):SpS w wx.drew R a n c p A4 B g sc ss g' sc' ws:=h.below (Below.refl _ _).drew
theorem SpS.pick (h:SpS w wx R a n c p A4 B g sc ss g' sc' ws) (hr:Rdr wy R a n c p') (hg:wx.grownBy wy (some R)):SpS w wy R a n c p' A4 B g sc ss g' sc' ws:=by
 have h1:=h.lR;have h2:=h.hA;have h3:=h.hB;have h4:=h.lg;exact ⟨hr,ZpU h.gr hg,h.lR,h.ga,h.r4.grown hg (fun e=>by injection e with e;omega),h.r5.grown hg (fun e=>by injection e with e;omega),h.hA,h.hB,h.so.kept hg (.inr (fun e=>by have e:=Option.some.inj e;(try dsimp only at e);omega)),h.wo.kept hg (.inr (fun e=>by have e:=Option.some.inj e;(try dsimp only at e);omega)),h.n1,h.n2,h.ne⟩
theorem js2 (hr:Rdr wx R a n c p) (g0:w.grownBy wx (some R)) (lR:R<w.heap.size) (ga:∀ g o,a=some ⟨g,o,none⟩->0<n->g<w.heap.size) (hb:Below w.heap.size wx wy):Rdr wy R a n c p/\w.grownBy wy (some R) :=
 ⟨hr.keep (N:=w.heap.size) lR ga hb,⟨hb.os.trans g0.os,hb.tape.trans g0.tape,hb.output.trans g0.output,Nat.le_trans g0.size hb.size,fun i hi hr=>(hb.block i hi).trans (g0.block i hi hr)⟩⟩
theorem SpS.sect (h:SpS w wx R a n c p A4 B g sc ss g' sc' ws) (k:Nat) (hk:k<ss.length) (s:ByteArray):SpS w (wx.setCell ⟨g,k,none⟩ (.string s)) R a n c p A4 B g sc (ss.set k s) g' sc' ws:=by
 have h2:=h.hA;have h3:=h.hB;have h4:=h.lg;have G:wx.grownBy (wx.setCell ⟨g,k,none⟩ (.string s)) (some g):=XGx wx g k _;have hb:Below w.heap.size wx (wx.setCell ⟨g,k,none⟩ (.string s)):=(Below.refl _ _).setCell (by show _<=g;omega) _;obtain ⟨q1,q2⟩:=js2 h.rd h.gr h.lR h.ga hb;have aB:=h.ne;have aA:=h.n1;have so:=(h.so.stored k (.string s)).1;rw [show (ss.map Value.string).set k (.string s)=(ss.set k s).map Value.string by rw [List.map_set]] at so;exact ⟨q1,q2,h.lR,h.ga,h.r4.grown G (fun e=>by injection e with e;omega),by rw [List.length_set];exact h.r5.grown G (fun e=>by injection e with e;omega),h.hA,h.hB,by rw [List.length_set];exact so,h.wo.kept G (.inr (fun e=>by have e:=Option.some.inj e;(try dsimp only at e);omega)),h.n1,h.n2,h.ne⟩
theorem SpS.pushW (h:SpS w wx R a n c p A4 B g sc ss g' sc' ws) {k cap H:Nat} {aA:List WrT} (aB:wy.ownsRow (A4+1) 74 2 (.slice (some ⟨k,0,none⟩) aA.length cap) aA.length (yaV aA)) (hg:wx.grownBy wy (some g')) (aC:(some g':Option Nat)=some k\/k=H) (hH:wx.heap.size<=H) :
  Row wy B [.slice (some ⟨g,0,none⟩) ss.length sc,.slice (some ⟨g',0,none⟩) ws.length sc']/\SpS w (wy.setCell ⟨B,1,none⟩ (.slice (some ⟨k,0,none⟩) aA.length cap)) R a n c p A4 B g sc ss k cap aA:=by
 have h2:=h.hA;have h3:=h.hB;have h4:=h.lg;have h5:=h.r5.lt;have aE:=h.ne;have aD:=h.n2
 have kB:k≠B:=fun e=>by rcases aC with q | q;(have q:=Option.some.inj q;omega);omega
 have kg:g≠k:=fun e=>by rcases aC with q | q;(have q:=Option.some.inj q;omega);omega
 have hb:Below w.heap.size wx wy:=jJX hg h.lt (fun x e=>by have e:=Option.some.inj e;(try dsimp only at e);omega);have r5:Row wy B _:=h.r5.grown hg (fun e=>by injection e with e;omega);refine ⟨r5,?_⟩;have G:wy.grownBy (wy.setCell ⟨B,1,none⟩ (.slice (some ⟨k,0,none⟩) aA.length cap)) (some B):=XGx wy B 1 _;obtain ⟨q1,q2⟩:=js2 h.rd h.gr h.lR h.ga (hb.trans ((Below.refl w.heap.size wy).setCell (by show _<=B;omega) (.slice (some ⟨k,0,none⟩) aA.length cap):Below w.heap.size wy (wy.setCell ⟨B,1,none⟩ (.slice (some ⟨k,0,none⟩) aA.length cap))));exact ⟨q1,q2,h.lR,h.ga,(h.r4.grown hg (fun e=>by injection e with e;omega)).grown G (fun e=>by injection e with e;omega),r5.set 1 (by simp) _,h.hA,h.hB,(h.so.kept hg (.inr (fun e=>by have e:=Option.some.inj e;(try dsimp only at e);omega))).kept G (.inr (fun e=>by have e:=Option.some.inj e;(try dsimp only at e);have:=h.n1;omega)),aB.kept G (.inr (fun e=>by have e:=Option.some.inj e;(try dsimp only at e);omega)),h.n1,kB,kg⟩
theorem SpS.pushS (h:SpS w wx R a n c p A4 B g sc ss g' sc' ws) {k cap H:Nat} {aA:List ByteArray} (aB:wy.ownsRow (A4+1) 9 1 (.slice (some ⟨k,0,none⟩) aA.length cap) aA.length (aA.map Value.string)) (hg:wx.grownBy wy (some g)) (aC:(some g:Option Nat)=some k\/k=H) (hH:wx.heap.size<=H) :
  Row wy B [.slice (some ⟨g,0,none⟩) ss.length sc,.slice (some ⟨g',0,none⟩) ws.length sc']/\SpS w (wy.setCell ⟨B,0,none⟩ (.slice (some ⟨k,0,none⟩) aA.length cap)) R a n c p A4 B k cap aA g' sc' ws:=by
 have h2:=h.hA;have h3:=h.hB;have h4:=h.lg;have h5:=h.r5.lt;have aE:=h.ne;have aD:=h.n1
 have kB:k≠B:=fun e=>by rcases aC with q | q;(have q:=Option.some.inj q;omega);omega
 have kg:k≠g':=fun e=>by rcases aC with q | q;(have q:=Option.some.inj q;omega);omega
 have hb:Below w.heap.size wx wy:=jJX hg h.lt (fun x e=>by have e:=Option.some.inj e;(try dsimp only at e);omega);have r5:Row wy B _:=h.r5.grown hg (fun e=>by injection e with e;omega);refine ⟨r5,?_⟩;have G:wy.grownBy (wy.setCell ⟨B,0,none⟩ (.slice (some ⟨k,0,none⟩) aA.length cap)) (some B):=XGx wy B 0 _;obtain ⟨q1,q2⟩:=js2 h.rd h.gr h.lR h.ga (hb.trans ((Below.refl w.heap.size wy).setCell (by show _<=B;omega) (.slice (some ⟨k,0,none⟩) aA.length cap):Below w.heap.size wy (wy.setCell ⟨B,0,none⟩ (.slice (some ⟨k,0,none⟩) aA.length cap))));exact ⟨q1,q2,h.lR,h.ga,(h.r4.grown hg (fun e=>by injection e with e;omega)).grown G (fun e=>by injection e with e;omega),r5.set 0 (by simp) _,h.hA,h.hB,aB.kept G (.inr (fun e=>by have e:=Option.some.inj e;(try dsimp only at e);omega)),(h.wo.kept hg (.inr (fun e=>by have e:=Option.some.inj e;(try dsimp only at e);omega))).kept G (.inr (fun e=>by have e:=Option.some.inj e;(try dsimp only at e);have:=h.n2;omega)),kB,h.n2,kg⟩
def DkLe (ss:List ByteArray) (ws:List WrT):Prop:=(ss.length<=201/\∀ s∈ss,s.size<=64)/\(ws.length<=301/\∀ x∈ws,x.2.size<=64)
def JP4 (w w':World) (r:Ending):Prop:=∃ (ss:List ByteArray) (ws:List WrT) (g sc g' sc':Nat),r=.returned (Zoj (some ⟨g,0,none⟩) ss.length sc (some ⟨g',0,none⟩) ws.length sc')/\DkLe ss ws/\w'.ownsRow w.heap.size 74 2 (.slice (some ⟨g',0,none⟩) ws.length sc') ws.length (yaV ws)/\DepF w' (fun b=>w.heap.size<=b/\b≠g') (fun W=>Strs W (some ⟨g,0,none⟩) ss)
theorem yiG {B:Nat} (h:wx.ownsRow B 9 1 (.slice (some ⟨g,0,none⟩) ss.length sc) ss.length (ss.map Value.string)) (k:Nat) (hk:k<=ss.length):DepF wx (fun b=>b=g) (fun W=>Strs W (some ⟨g,0,none⟩) (ss.take k)):=by
 have hl:=(h.lt g rfl).2
 have hc:∀ i,i<ss.length->wx.cell? ⟨g,i,none⟩=some (.string (ss.getD i ByteArray.empty)):=fun i hi=>by
  have:=h.cellAt i (by simpa using hi);rw [this];simp [List.getD,hi]
 have aA:∀ W:World,(∀ i,i<ss.length->W.cell? ⟨g,i,none⟩=some (.string (ss.getD i ByteArray.empty)))->g<W.heap.size->Strs W (some ⟨g,0,none⟩) (ss.take k):=fun W hW hs=>.inr ⟨g,0,rfl,hs,fun i hi=>by
  rw [List.length_take] at hi;rw [Nat.zero_add,hW i (by omega)]
  simp [List.getD,List.getElem?_take,show i<k by omega]⟩
 refine ⟨aA wx hc hl,fun W hb hk=>aA W (fun i hi=>?_) (Nat.lt_of_lt_of_le hl hb.size)⟩;rw [<-hc i hi];exact World.cell?_of_block (a:=⟨g,i,none⟩) (hk g rfl hl)
theorem SpS.fin (h:SpS w wx R a n c p A4 B g sc ss g' sc' ws) (k:Nat) (hk:k<=ss.length) (u v:Value) :
  Row ((wx.setCell ⟨A4,0,none⟩ u).setCell ⟨A4,1,none⟩ v) A4 [u,v]/\Rdr ((wx.setCell ⟨A4,0,none⟩ u).setCell ⟨A4,1,none⟩ v) R a n c p/\w.grownBy ((wx.setCell ⟨A4,0,none⟩ u).setCell ⟨A4,1,none⟩ v) (some R)/\((wx.setCell ⟨A4,0,none⟩ u).setCell ⟨A4,1,none⟩ v).ownsRow w.heap.size 74 2 (.slice (some ⟨g',0,none⟩) ws.length sc') ws.length (yaV ws)/\DepF ((wx.setCell ⟨A4,0,none⟩ u).setCell ⟨A4,1,none⟩ v) (fun b=>w.heap.size<=b/\b≠g') (fun W=>Strs W (some ⟨g,0,none⟩) (ss.take k)):=by
 have h2:=h.hA;have h3:=h.hB;have h4:=h.lg;have aA:=h.ne;have G1:wx.grownBy (wx.setCell ⟨A4,0,none⟩ u) (some A4):=XGx wx A4 0 u;have G2:(wx.setCell ⟨A4,0,none⟩ u).grownBy ((wx.setCell ⟨A4,0,none⟩ u).setCell ⟨A4,1,none⟩ v) (some A4):=XGx _ A4 1 v;have G:=ZpU G1 G2;have hb:Below w.heap.size wx ((wx.setCell ⟨A4,0,none⟩ u).setCell ⟨A4,1,none⟩ v):=jJX G h.lt (fun x e=>by have e:=Option.some.inj e;(try dsimp only at e);omega);obtain ⟨q1,q2⟩:=js2 h.rd h.gr h.lR h.ga hb;exact ⟨(h.r4.set 0 (by simp) u).set 1 (by simp) v,q1,q2,(h.wo.kept G (.inr (fun e=>by have e:=Option.some.inj e;(try dsimp only at e);omega))).mono (by omega),((yiG h.so k hk).grown G (fun x e q=>by have e:=Option.some.inj e;(try dsimp only at e);omega)).mono (fun b _ q=>by omega)⟩
theorem SpS.fin1 (h:SpS w wx R a n c p A4 B g sc ss g' sc' ws) (k:Nat) (hk:k<=ss.length) (x u v:Value) :
  Row (((wx.setCell ⟨B,0,none⟩ x).setCell ⟨A4,0,none⟩ u).setCell ⟨A4,1,none⟩ v) A4 [u,v]/\Rdr (((wx.setCell ⟨B,0,none⟩ x).setCell ⟨A4,0,none⟩ u).setCell ⟨A4,1,none⟩ v) R a n c p/\w.grownBy (((wx.setCell ⟨B,0,none⟩ x).setCell ⟨A4,0,none⟩ u).setCell ⟨A4,1,none⟩ v) (some R)/\(((wx.setCell ⟨B,0,none⟩ x).setCell ⟨A4,0,none⟩ u).setCell ⟨A4,1,none⟩ v).ownsRow w.heap.size 74 2 (.slice (some ⟨g',0,none⟩) ws.length sc') ws.length (yaV ws)/\DepF (((wx.setCell ⟨B,0,none⟩ x).setCell ⟨A4,0,none⟩ u).setCell ⟨A4,1,none⟩ v) (fun b=>w.heap.size<=b/\b≠g') (fun W=>Strs W (some ⟨g,0,none⟩) (ss.take k)):=by
 have h2:=h.hA;have h3:=h.hB;have h4:=h.lg;have aD:=h.ne;have aB:=h.n1;have aC:=h.n2;have G0:wx.grownBy (wx.setCell ⟨B,0,none⟩ x) (some B):=XGx wx B 0 x;have aA:Below w.heap.size wx (wx.setCell ⟨B,0,none⟩ x):=jJX G0 h.lt (fun x e=>by have e:=Option.some.inj e;omega);have r4:=h.r4.grown G0 (fun e=>by injection e with e;omega);have wo:=h.wo.kept G0 (.inr (fun e=>by have e:=Option.some.inj e;(try dsimp only at e);omega));have dp:=(yiG h.so k hk).grown G0 (fun x e q=>by have e:=Option.some.inj e;omega);obtain ⟨q1,q2⟩:=js2 h.rd h.gr h.lR h.ga aA;have s0:=aA.size;generalize wx.setCell ⟨B,0,none⟩ x=wz at *;have G1:wz.grownBy (wz.setCell ⟨A4,0,none⟩ u) (some A4):=XGx wz A4 0 u;have G2:(wz.setCell ⟨A4,0,none⟩ u).grownBy ((wz.setCell ⟨A4,0,none⟩ u).setCell ⟨A4,1,none⟩ v) (some A4):=XGx _ A4 1 v;have G:=ZpU G1 G2;have hb:Below w.heap.size wz ((wz.setCell ⟨A4,0,none⟩ u).setCell ⟨A4,1,none⟩ v):=jJX G q2.size (fun x e=>by have e:=Option.some.inj e;omega)
 obtain ⟨q3,q4⟩:=js2 q1 q2 h.lR h.ga hb;exact ⟨(r4.set 0 (by simp) u).set 1 (by simp) v,q3,q4,(wo.kept G (.inr (fun e=>by have e:=Option.some.inj e;(try dsimp only at e);omega))).mono (by omega),(dp.grown G (fun x e q=>by have e:=Option.some.inj e;omega)).mono (fun b _ q=>by omega)⟩
theorem DkLe.set (h:DkLe ss ws) (k:Nat) (s:ByteArray) (hs:s.size<=64):DkLe (ss.set k s) ws :=
 ⟨⟨by rw [List.length_set];exact h.1.1,fun t ht=>by rcases List.mem_or_eq_of_mem_set ht with q | q;exact h.1.2 t q;rw [q];exact hs⟩,h.2⟩
theorem DkLe.take (h:DkLe ss ws) (k:Nat):DkLe (ss.take k) ws :=
 ⟨⟨by rw [List.length_take];have:=h.1.1;omega,fun t ht=>h.1.2 t (List.mem_of_mem_take ht)⟩,h.2⟩
theorem DkLe.pushW (h:DkLe ss ws) (x:WrT) (hl:ws.length<=300) (hx:x.2.size<=64):DkLe ss (ws++[x]) :=
 ⟨h.1,by rw [List.length_append];simp;omega,fun y hy=>by rcases List.mem_append.1 hy with q | q;exact h.2.2 y q;rw [List.mem_singleton.1 q];exact hx⟩
theorem DkLe.pushS (h:DkLe ss ws) (s:ByteArray) (hl:ss.length<=200) (hx:s.size<=64):DkLe (ss++[s]) ws :=
 ⟨⟨by rw [List.length_append];simp;omega,fun y hy=>by rcases List.mem_append.1 hy with q | q;exact h.1.2 y q;rw [List.mem_singleton.1 q];exact hx⟩,h.2⟩
theorem yTD (h:vlG ss ws=true):DkLe ss ws:=by
 obtain ⟨h1,h2,h3⟩:=q67 h;exact ⟨⟨by omega,fun s hs=>by have:=h2 s hs;omega⟩,by omega,fun x hx=>by have:=Zc1 (h3 x hx);omega⟩
end
end
section
@[reducible] def sL (W S L T H F Q U O:Int) (y:Value):List Value:=[.int .i64 W,.int .i64 S,.int .i64 L,.int .i64 T,.int .i64 H,.int .i64 F,.int .i64 Q,.int .i64 U,.int .i64 O,y]
structure LsS (w v:World) (R X3 X4:Nat) (a:Option Addr) (n c:Nat) (q:Int) (cs:List Value):Prop where
 rd:Rdr v R a n c q
 gr:w.grownBy v (some R)
 lR:R<w.heap.size
 ga:∀ g o,a=some ⟨g,o,none⟩->0<n->g<w.heap.size
 r3:Row v X3 cs
 r4:Row v X4 [.int .i64 0,.int .i64 0,.int .i64 0,.int .i64 0,.int .i64 0,.int .i64 0,.int .i64 0,.int .i64 0,.int .i64 0,.slice none 0 0]
 h3:w.heap.size<=X3
 h4:X3<X4
 l4:X4<w.heap.size+2
section
variable {w v v':World} {R X3 X4:Nat} {a:Option Addr} {n c:Nat} {q q':Int} {cs:List Value}
theorem LsS.below (h:LsS w v R X3 X4 a n c q cs) (hb:Below v.heap.size v v'):LsS w v' R X3 X4 a n c q cs:=⟨h.rd.below hb,ZpU h.gr (Qbp _ hb),h.lR,h.ga,h.r3.below hb,h.r4.below hb,h.h3,h.h4,h.l4⟩
theorem LsS.pick (h:LsS w v R X3 X4 a n c q cs) (hr:Rdr v' R a n c q') (hg:v.grownBy v' (some R)):LsS w v' R X3 X4 a n c q' cs:=by
 have h1:=h.lR;have h3:=h.h3;have h4:=h.h4;exact ⟨hr,ZpU h.gr hg,h.lR,h.ga,h.r3.grown hg (fun e=>by injection e with e;omega),h.r4.grown hg (fun e=>by injection e with e;omega),h.h3,h.h4,h.l4⟩
theorem LsS.set (h:LsS w v R X3 X4 a n c q cs) (i:Nat) (hi:i<cs.length) (u:Value):LsS w (v.setCell ⟨X3,i,none⟩ u) R X3 X4 a n c q (cs.set i u):=by
 have h3:=h.h3;have h4:=h.h4;have G:=XGx v X3 i u;obtain ⟨q1,q2⟩:=js2 h.rd h.gr h.lR h.ga (jJX G h.gr.size (fun x e=>by have e:=Option.some.inj e;omega));exact ⟨q1,q2,h.lR,h.ga,h.r3.set i hi u,h.r4.grown G (fun e=>by injection e with e;omega),h.h3,h.h4,h.l4⟩
theorem LsS.fin (h:LsS w v R X3 X4 a n c q cs) (vs:List Value) (hl:vs.length=10):Row (v.setCells X4 0 vs) X4 vs/\Rdr (v.setCells X4 0 vs) R a n c q/\w.grownBy (v.setCells X4 0 vs) (some R)/\v.grownBy (v.setCells X4 0 vs) (some X4):=by
 have h3:=h.h3;have h4:=h.h4;have G:=Qvn v X4 0 vs;obtain ⟨q1,q2⟩:=js2 h.rd h.gr h.lR h.ga (jJX G h.gr.size (fun x e=>by have e:=Option.some.inj e;omega));exact ⟨h.r4.sets vs (by rw [hl];rfl),q1,q2,G⟩
end
def LsY (B:Nat) (wx:World) (y0 y:Value):Prop:=y=y0\/∃ rs,wx.ownsRow B 78 2 y rs.length (qJS rs)/\rs.length<=102/\psLe rs 64000 64000
def LsE (w:World) (R X3 X4:Nat) (a:Option Addr) (n c:Nat) (p:Int) (y0:Value) (wx:World):Prop:=∃ W S L T H F Q U O y q,p<=q/\q<=p+9010/\LsS w wx R X3 X4 a n c q (sL W S L T H F Q U O y)/\LsY (w.heap.size+2) wx y0 y
def xT6 (w w':World) (y0:Value) (r:Ending):Prop:=∃ W S L T H F Q U O y,r=.returned (.agg #[.int .i64 W,.int .i64 S,.int .i64 L,.int .i64 T,.int .i64 H,.int .i64 F,.int .i64 Q,.int .i64 U,.int .i64 O,y])/\LsY w.heap.size w' y0 y
end
theorem Strs.takeD {w:World} {a:Option Addr} {ss:List ByteArray} (h:Strs w a ss) (k:Nat):Strs w a (ss.take k):=by
 rcases h with h | ⟨b,o,h1,h2,h3⟩
 ·subst h;exact .inl (by simp)
 ·refine .inr ⟨b,o,h1,h2,fun i hi=>?_⟩
  rw [List.length_take] at hi;rw [h3 i (by omega)]
  have:(ss.take k).getD i ByteArray.empty=ss.getD i ByteArray.empty:=by
   simp only [List.getD,List.getElem?_take];rw [if_pos (by omega)]
  rw [this]
theorem Strs.dropD {w:World} {b o:Nat} {ss:List ByteArray} (h:Strs w (some ⟨b,o,none⟩) ss) (k:Nat):Strs w (some ⟨b,o+k,none⟩) (ss.drop k):=by
 rcases h with h | ⟨b',o',h1,h2,h3⟩
 ·subst h;exact .inl (by simp)
 ·cases h1
  refine .inr ⟨b,o+k,rfl,h2,fun i hi=>?_⟩;rw [List.length_drop] at hi;rw [show o+k+i=o+(k+i) by omega,h3 (k+i) (by omega)]
  have:(ss.drop k).getD i ByteArray.empty=ss.getD (k+i) ByteArray.empty:=by
   simp only [List.getD,List.getElem?_drop]
  rw [this]
theorem kmk {P:Program} {w:World} {aD:Array Oper} {o:Oper} {a:Act} {K:Act->World->Prop} {Q:Exit->Act->World->Prop} {E:Prop} (aE:o.guard=none) (s x:Operand) (t:TypeId)
  (ho:o.op=.call { callee:=.builtin .append,args:=#[s,x],argTypes:=#[t,t] }) (e:TypeId) (i:TypeInfo) (size:Nat) (ht:P.underlying t=some (.slice e)) (hi:P.info? e=some i) (aA:i.size=size)
  (b n cap:Nat) (hn:n<=cap) (hs:a.eval s=.slice (some ⟨b,0,none⟩) n cap) (v:Value) (hx:a.eval x=v) (aC:Src P size t v 0 [] w)
  (h:K (a.put o.dst (.slice (some ⟨b,0,none⟩) n cap)) w) :
  if Region.wanted o (yielded aD a.tmps)=true then Oper.wp P o a w K Q else E:=by
 have hw:Region.wanted o (yielded aD a.tmps)=true:=by simp [Region.wanted,aE]
 rw [if_pos hw];subst aA;have aB:=run_append_room_src (P:=P) w t t o.type e i ht hi b 0 n cap v 0 [] aC (by omega) (by simp) (by simp);unfold Oper.wp;simp [execOp,ho,resolve,invoke,builtin,hs,hx,aB,Result.andThen];exact h
theorem xsW (R:Nat) (a:Option Addr) (n c:Nat) (p:Int) (W S L T H F Q U O:Int) (s:Option Addr) (k cs:Nat) (w:World) (h:Rdr w R a n c p) (hp:p<99800000):Calls Tryz.prog 48 #[.pointer (some ⟨R,0,none⟩),.agg #[.int .i64 W,.int .i64 S,.int .i64 L,.int .i64 T,.int .i64 H,.int .i64 F,.int .i64 Q,.int .i64 U,.int .i64 O,.slice s k cs]] w fun r w'=>xT6 w w' (.slice s k cs) r/\Zlg w R a n c p 9020 w':=by
 have p0:=h.p0;have lR:=h.lts.1;have ga:=h.lts.2;go_enter Tryz.func48,Tryz.ntmps48;go_upto_region 1 with fail;generalize aU:w.alloc _=v1;obtain ⟨aY,aW,b3⟩:=bx1 aU;clear aU;generalize aV:v1.alloc _=v2;obtain ⟨aZ,bC,b4⟩:=bx1 aV;clear aV;obtain ⟨X3,aS⟩:∃ k,k=w.heap.size:=⟨_,rfl⟩;obtain ⟨X4,aT⟩:∃ k,k=w.heap.size+1:=⟨_,rfl⟩;rw [aW] at b4;rw [<-aS] at b3 ⊢;rw [<-aT] at b4
 try rw [show X3+1=X4 by omega]
 have hb:=aY.trans (aZ.mono aY.size);have bJ:w.heap.size+2<=v2.heap.size:=by omega
 have D:LsS w v2 R X3 X4 a n c p (sL W S L T H F Q U O (.slice s k cs)):=⟨h.below hb,Qbp _ hb,lR,ga,(b3.below aZ).now,b4.now,by omega,by omega,by omega⟩;clear b3 b4 hb aY aZ aW bC h aS aT;go_wp2_with fail;refine (ZfV R a n c p 9 _ D.rd (by omega)).mono ?_;rintro e v3 ⟨⟨t,rfl,t0,t1⟩,hr,hg⟩;have bQ:w.heap.size+2<=v3.heap.size:=Nat.le_trans bJ hg.size;replace D:=D.pick hr hg;clear hr hg bJ;go_upto_block 0 with fail;go_cut [] from 10 to 86 (fun wx=>LsE w R X3 X4 a n c (p+1) (.slice s k cs) wx)
 case rest =>
  clear D bQ;generalize Value.agg _=A0;obtain ⟨W1,S1,L1,T1,H1,F1,Q1,U1,O1,y,q,q0,q1,D,hy⟩:=hcut
  rename World=>wx
  obtain ⟨ya,yk,yc,rfl⟩:∃ a k c,y=.slice a k c:=by
   rcases hy with rfl | ⟨rs,ho,_⟩
   ·exact ⟨_,_,_,rfl⟩
   ·rcases yUO ho with ⟨e,_⟩ | ⟨g,cap,e,_⟩<;>exact ⟨_,_,_,e⟩
  go_upto_region 19 with fail;refine wp_region_lit ?_;refine wpList_load_mid rfl 33 _ rfl X3 0 rfl (sL W1 S1 L1 T1 H1 F1 Q1 U1 O1 (.slice ya yk yc)) _ D.r3.range Tryz.underlying33 rfl xdC ?_;simp only [PS];refine wpList_store_mid rfl 33 _ _ rfl X4 0 #[.int .i64 W1,.int .i64 S1,.int .i64 L1,.int .i64 T1,.int .i64 H1,.int .i64 F1,.int .i64 Q1,.int .i64 U1,.int .i64 O1,(.slice ya yk yc)] rfl rfl (D.r4.there rfl) xdC (by kernel_rfl) ?_
  try simp only [PS]
  obtain ⟨r8,bH,bG,G8⟩:=D.fin (sL W1 S1 L1 T1 H1 F1 Q1 U1 O1 (.slice ya yk yc)) rfl
  have bI:LsY w.heap.size (wx.setCells X4 0 (sL W1 S1 L1 T1 H1 F1 Q1 U1 O1 (.slice ya yk yc))) (.slice s k cs) (.slice ya yk yc):=by
   rcases hy with e | ⟨rs,ho,h2⟩
   ·exact .inl e
   ·have l4:=D.l4
    exact .inr ⟨rs,(ho.kept G8 (by first | exact .inr (fun e=>by have:=(ho.lt X4 e).1;omega) | exact .inl (by omega))).mono (by omega),h2⟩
  generalize aX:wx.setCells _ _ _=y8 at r8 bH bG G8 bI ⊢;clear aX G8
  try go_wp2
  obtain ⟨z0,z1,z2,z3,z4,z5,z6,z7,z8,z9,zl⟩:=c10 r8;exact bodyPost_ret (v:=.agg #[.int .i64 W1,.int .i64 S1,.int .i64 L1,.int .i64 T1,.int .i64 H1,.int .i64 F1,.int .i64 Q1,.int .i64 U1,.int .i64 O1,(.slice ya yk yc)]) (by simp [results,Tryz.results48,go_sem,z0,z1,z2,z3,z4,z5,z6,z7,z8,z9]) rfl ⟨⟨W1,S1,L1,T1,H1,F1,Q1,U1,O1,(.slice ya yk yc),rfl,bI⟩,⟨q,by omega,by omega,bH⟩,bG⟩
 case first =>
 have cC:LsY (w.heap.size+2) v3 (.slice s k cs) (.slice s k cs):=.inl rfl
 by_cases h0:t=0
 ·subst h0
  go_wp2_with fail;refine (ZfV R a n c (p+1) 11 _ D.rd (by omega)).mono ?_;rintro e v4 ⟨⟨u,rfl,u0,u1⟩,hr,hg⟩;replace D:=D.pick hr hg;clear hr hg;have b8:IntKind.i64.wrap (u-1)=u-1:=vRg _ (by omega) (by omega);have D2:=D.set 0 (by simp) (.int .i64 (u-1));have c0:=D.r3.cell 0 _ rfl;have f0:=D.r3.froz 0 (by simp);have cl:=D.r3.lt;go_wp2_with fail;go_meet;exact ⟨(u-1),S,L,T,H,F,Q,U,O,(.slice s k cs),p+1+1,by omega,by omega,D2,.inl rfl⟩
 by_cases h1:t=1
 ·subst h1
  go_wp2_with fail;generalize aH:v3.alloc _=u1;have aE:R<v3.heap.size:=ykG D.rd.pc;obtain ⟨hb,aF,b1⟩:=bx1 aH;clear aH;replace D:=D.below hb;obtain ⟨G,aC⟩:∃ k,k=v3.heap.size:=⟨_,rfl⟩;have aN:G≠R:=by omega
  rw [<-aC] at b1 ⊢;have rg:=b1.now;clear hb b1 aF aC aE;refine (ZfV R a n c (p+1) 4 _ D.rd (by omega)).mono ?_;rintro e v4 ⟨⟨m',rfl,m0,m1⟩,hr,hg⟩;replace D:=D.pick hr hg;replace rg:=rg.grown hg (fun e=>by injection e with e;omega);clear hr hg;obtain ⟨m,rfl⟩:∃ m:Nat,m'=(m:Int):=⟨m'.toNat,by omega⟩;have hm:m<4:=by omega
  have aD:=Row.nth (l:=[7,8,201,200]) rg hm;obtain ⟨z,aI⟩:∃ z,nth [7,8,201,200] m=z:=⟨_,rfl⟩;rw [aI] at aD;clear aI rg;have aK:(m:Int)<4:=by omega
  have aL:¬ ((4:Int)<=(m:Int)):=by omega
  have aJ:=ykG aD;have D2:=D.set 1 (by simp) (.int .i64 z);have c1:=D.r3.cell 1 _ rfl;have f1:=D.r3.froz 1 (by simp);have cl:=D.r3.lt;go_wp2_with fail;go_meet;exact ⟨W,z,L,T,H,F,Q,U,O,(.slice s k cs),p+1+1,by omega,by omega,D2,.inl rfl⟩
 by_cases h2:t=2
 ·subst h2
  go_wp2_with fail;generalize aH:v3.alloc _=u1;have aE:R<v3.heap.size:=ykG D.rd.pc;obtain ⟨hb,aF,b1⟩:=bx1 aH;clear aH;replace D:=D.below hb;obtain ⟨G,aC⟩:∃ k,k=v3.heap.size:=⟨_,rfl⟩;have aN:G≠R:=by omega
  rw [<-aC] at b1 ⊢;have rg:=b1.now;clear hb b1 aF aC aE;refine (ZfV R a n c (p+1) 3 _ D.rd (by omega)).mono ?_;rintro e v4 ⟨⟨m',rfl,m0,m1⟩,hr,hg⟩;replace D:=D.pick hr hg;replace rg:=rg.grown hg (fun e=>by injection e with e;omega);clear hr hg;obtain ⟨m,rfl⟩:∃ m:Nat,m'=(m:Int):=⟨m'.toNat,by omega⟩;have hm:m<3:=by omega
  have aD:=Row.nth (l:=[0,60000,60001]) rg hm;obtain ⟨z,aI⟩:∃ z,nth [0,60000,60001] m=z:=⟨_,rfl⟩;rw [aI] at aD;clear aI rg;have aK:(m:Int)<3:=by omega
  have aL:¬ ((3:Int)<=(m:Int)):=by omega
  have aJ:=ykG aD;have D2:=D.set 2 (by simp) (.int .i64 z);have c2:=D.r3.cell 2 _ rfl;have f2:=D.r3.froz 2 (by simp);have cl:=D.r3.lt;go_wp2_with fail;go_meet;exact ⟨W,S,z,T,H,F,Q,U,O,(.slice s k cs),p+1+1,by omega,by omega,D2,.inl rfl⟩
 by_cases h3:t=3
 ·subst h3
  go_wp2_with fail;generalize aH:v3.alloc _=u1;have aE:R<v3.heap.size:=ykG D.rd.pc;obtain ⟨hb,aF,b1⟩:=bx1 aH;clear aH;replace D:=D.below hb;obtain ⟨G,aC⟩:∃ k,k=v3.heap.size:=⟨_,rfl⟩;have aN:G≠R:=by omega
  rw [<-aC] at b1 ⊢;have rg:=b1.now;clear hb b1 aF aC aE;refine (ZfV R a n c (p+1) 2 _ D.rd (by omega)).mono ?_;rintro e v4 ⟨⟨m',rfl,m0,m1⟩,hr,hg⟩;replace D:=D.pick hr hg;replace rg:=rg.grown hg (fun e=>by injection e with e;omega);clear hr hg;obtain ⟨m,rfl⟩:∃ m:Nat,m'=(m:Int):=⟨m'.toNat,by omega⟩;have hm:m<2:=by omega
  have aD:=Row.nth (l:=[-1,1000000001]) rg hm;obtain ⟨z,aI⟩:∃ z,nth [-1,1000000001] m=z:=⟨_,rfl⟩;rw [aI] at aD;clear aI rg;have aK:(m:Int)<2:=by omega
  have aL:¬ ((2:Int)<=(m:Int)):=by omega
  have aJ:=ykG aD;have D2:=D.set 3 (by simp) (.int .i64 z);have c3:=D.r3.cell 3 _ rfl;have f3:=D.r3.froz 3 (by simp);have cl:=D.r3.lt;go_wp2_with fail;go_meet;exact ⟨W,S,L,z,H,F,Q,U,O,(.slice s k cs),p+1+1,by omega,by omega,D2,.inl rfl⟩
 by_cases h4:t=4
 ·subst h4
  go_wp2_with fail;generalize aH:v3.alloc _=u1;have aE:R<v3.heap.size:=ykG D.rd.pc;obtain ⟨hb,aF,b1⟩:=bx1 aH;clear aH;replace D:=D.below hb;obtain ⟨G,aC⟩:∃ k,k=v3.heap.size:=⟨_,rfl⟩;have aN:G≠R:=by omega
  rw [<-aC] at b1 ⊢;have rg:=b1.now;clear hb b1 aF aC aE;refine (ZfV R a n c (p+1) 2 _ D.rd (by omega)).mono ?_;rintro e v4 ⟨⟨m',rfl,m0,m1⟩,hr,hg⟩;replace D:=D.pick hr hg;replace rg:=rg.grown hg (fun e=>by injection e with e;omega);clear hr hg;obtain ⟨m,rfl⟩:∃ m:Nat,m'=(m:Int):=⟨m'.toNat,by omega⟩;have hm:m<2:=by omega
  have aD:=Row.nth (l:=[-1,2]) rg hm;obtain ⟨z,aI⟩:∃ z,nth [-1,2] m=z:=⟨_,rfl⟩;rw [aI] at aD;clear aI rg;have aK:(m:Int)<2:=by omega
  have aL:¬ ((2:Int)<=(m:Int)):=by omega
  have aJ:=ykG aD;have D2:=D.set 4 (by simp) (.int .i64 z);have c4:=D.r3.cell 4 _ rfl;have f4:=D.r3.froz 4 (by simp);have cl:=D.r3.lt;go_wp2_with fail;go_meet;exact ⟨W,S,L,T,z,F,Q,U,O,(.slice s k cs),p+1+1,by omega,by omega,D2,.inl rfl⟩
 by_cases h5:t=5
 ·subst h5
  go_wp2_with fail;generalize aH:v3.alloc _=u1;have aE:R<v3.heap.size:=ykG D.rd.pc;obtain ⟨hb,aF,b1⟩:=bx1 aH;clear aH;replace D:=D.below hb;obtain ⟨G,aC⟩:∃ k,k=v3.heap.size:=⟨_,rfl⟩;have aN:G≠R:=by omega
  rw [<-aC] at b1 ⊢;have rg:=b1.now;clear hb b1 aF aC aE;refine (ZfV R a n c (p+1) 2 _ D.rd (by omega)).mono ?_;rintro e v4 ⟨⟨m',rfl,m0,m1⟩,hr,hg⟩;replace D:=D.pick hr hg;replace rg:=rg.grown hg (fun e=>by injection e with e;omega);clear hr hg;obtain ⟨m,rfl⟩:∃ m:Nat,m'=(m:Int):=⟨m'.toNat,by omega⟩;have hm:m<2:=by omega
  have aD:=Row.nth (l:=[0,999999001]) rg hm;obtain ⟨z,aI⟩:∃ z,nth [0,999999001] m=z:=⟨_,rfl⟩;rw [aI] at aD;clear aI rg;have aK:(m:Int)<2:=by omega
  have aL:¬ ((2:Int)<=(m:Int)):=by omega
  have aJ:=ykG aD;have D2:=D.set 5 (by simp) (.int .i64 z);have c5:=D.r3.cell 5 _ rfl;have f5:=D.r3.froz 5 (by simp);have cl:=D.r3.lt;go_wp2_with fail;go_meet;exact ⟨W,S,L,T,H,z,Q,U,O,(.slice s k cs),p+1+1,by omega,by omega,D2,.inl rfl⟩
 by_cases h6:t=6
 ·subst h6
  go_upto_region 16 with fail;have dD:=(D.below (Below.refl v3.heap.size v3).drew).r3.cell 1 _ rfl;refine yO4 (13) (S:=fun w'=>w'.cell? ⟨X3,1,none⟩=some (.int .i64 S)) (by kernel_rfl) (dD) (fun aG=>?_);refine TYT 0 (.pointer (some ⟨X3,1,none⟩)) rfl aG (TYT 1 (.int .i64 S) rfl aG (TYT 3 (.pointer (some ⟨X3,1,none⟩)) rfl aG (TYT 4 (.int .i64 S) rfl aG (TYT 8 (.pointer (some ⟨R,0,none⟩)) rfl aG ?_))));simp only [PS];refine RDT 2 rfl (fun Kq aA=>?_);refine XRf (by rfl) _ _ (by go_simp) (QQj S _) ?_;rintro e _ ⟨rfl,rfl⟩;refine ⟨_,rfl,?_⟩;refine aA.out _ _ aG (fun _=>?_)
  try simp only [PS]
  refine RDT 5 rfl (fun Kq aA=>?_);refine XRf (by rfl) _ _ (by go_simp) (QQj S _) ?_;rintro e _ ⟨rfl,rfl⟩;refine ⟨_,rfl,?_⟩;refine aA.out _ _ aG (fun _=>?_)
  try simp only [PS]
  refine TYT 6 (.int .i64 (IntKind.i64.wrap (hv S+1))) rfl aG ?_;simp only [PS];refine kPc (rs:=[7,9]) (by kernel_rfl) (by simp) ?_;refine AllReadyT.cons rfl (fun Kq aA=>?_) (AllReadyT.cons rfl (fun Kq aA=>?_) AllReadyT.nil)
  ·obtain ⟨yb,aB⟩:∃ y,y=v3.drew:=⟨_,rfl⟩
   rw [<-aB];have hb:Below v3.heap.size v3 yb:=by rw [aB];exact (Below.refl _ _).drew
   replace D:=D.below hb;clear aB hb;go_simp;have aE:R<yb.heap.size:=ykG D.rd.pc;generalize aM:yb.alloc _=y7;obtain ⟨hb,aF,b1⟩:=bx1 aM;replace D:=D.below hb;obtain ⟨G,aC⟩:∃ k,k=yb.heap.size:=⟨_,rfl⟩;have aN:G≠R:=by omega
   rw [<-aC] at b1 ⊢;have rg:=b1.now;clear hb b1 aF aC aE aM;refine aA.out _ _ (D.r3.cell 1 _ rfl) (fun bW=>?_)
   try simp only [PS]
   refine RDT 9 rfl (fun Kq aA=>?_);refine XRf (by rfl) _ _ (by go_simp) (ZfV R a n c (p+1) 3 _ D.rd (by omega)) ?_;rintro e y9 ⟨⟨m',rfl,m0,m1⟩,hr,hg⟩;refine ⟨_,rfl,?_⟩;replace D:=D.pick hr hg;replace rg:=rg.grown hg (fun e=>by injection e with e;omega);obtain ⟨m,rfl⟩:∃ m:Nat,m'=(m:Int):=⟨m'.toNat,by omega⟩;have hm:m<3:=by omega
   clear hr hg m0 m1;refine aA.out _ _ (D.r3.cell 1 _ rfl) (fun aP=>?_)
   try simp only [PS]
   refine RDT 10 rfl (fun Kq aA=>?_);have aK:(m:Int)<3:=by omega
   have aL:¬ ((3:Int)<=(m:Int)):=by omega
   have aJ:=rg.lt;go_simp;clear aK aL aJ;refine aA.out _ _ aP (fun _=>?_)
   try simp only [PS]
   refine RDT 11 rfl (fun Kq aA=>?_)
   obtain ⟨z,aD⟩:∃ z,y9.cell? ⟨G,m,none⟩=some (.int .i64 z):=by
    have:m=0\/m=1\/m=2:=by omega
    rcases this with rfl | rfl | rfl
    ·exact ⟨_,rg.cell 0 _ rfl⟩
    ·exact ⟨_,rg.cell 1 _ rfl⟩
    ·exact ⟨_,rg.cell 2 _ rfl⟩
   go_simp;clear aD;refine aA.out _ _ aP (fun _=>?_)
   try simp only [PS]
   refine TYT 12 (.pointer (some ⟨X3,7,none⟩)) rfl aP ?_;simp only [PS];refine kPc (rs:=[13]) (by kernel_rfl) (by simp) ?_;refine AllReadyT.last rfl (fun Kq aA=>?_);have c7:=D.r3.cell 7 _ rfl;have f7:=D.r3.froz 7 (by simp);have cl:=D.r3.lt;go_simp;clear c7 f7 cl;refine aA.out _ _ trivial (fun _=>?_)
   try simp only [PS]
   refine kgn (by kernel_rfl) ?_ _;have D2:=D.set 7 (by simp) (.int .i64 z);go_wp2_with fail;go_meet;exact ⟨W,S,L,T,H,F,Q,z,O,(.slice s k cs),p+1+1,by omega,by omega,D2,.inl rfl⟩
  ·obtain ⟨yb,aB⟩:∃ y,y=v3.drew:=⟨_,rfl⟩
   rw [<-aB];have hb:Below v3.heap.size v3 yb:=by rw [aB];exact (Below.refl _ _).drew
   replace D:=D.below hb;clear aB hb;refine XRf (by rfl) _ _ (by go_simp) (ZfV R a n c (p+1) 3 _ D.rd (by omega)) ?_;rintro e y9 ⟨⟨m',rfl,m0,m1⟩,hr,hg⟩;refine ⟨_,rfl,?_⟩;replace D:=D.pick hr hg;obtain ⟨m,rfl⟩:∃ m:Nat,m'=(m:Int):=⟨m'.toNat,by omega⟩;have hm:m<3:=by omega
   clear hr hg m0 m1;refine aA.out _ _ (D.r3.cell 1 _ rfl) (fun bZ=>?_)
   try simp only [PS]
   refine RDT 7 rfl (fun Kq aA=>?_);go_simp;have aE:R<y9.heap.size:=ykG D.rd.pc;generalize aM:y9.alloc _=y7;obtain ⟨hb,aF,b1⟩:=bx1 aM;replace D:=D.below hb;obtain ⟨G,aC⟩:∃ k,k=y9.heap.size:=⟨_,rfl⟩;have aN:G≠R:=by omega
   rw [<-aC] at b1 ⊢;have rg:=b1.now;clear hb b1 aF aC aE aM;refine aA.out _ _ (D.r3.cell 1 _ rfl) (fun aR=>?_)
   try simp only [PS]
   refine RDT 10 rfl (fun Kq aA=>?_);have aK:(m:Int)<3:=by omega
   have aL:¬ ((3:Int)<=(m:Int)):=by omega
   have aJ:=rg.lt;go_simp;clear aK aL aJ;refine aA.out _ _ aR (fun _=>?_)
   try simp only [PS]
   refine RDT 11 rfl (fun Kq aA=>?_)
   obtain ⟨z,aD⟩:∃ z,y7.cell? ⟨G,m,none⟩=some (.int .i64 z):=by
    have:m=0\/m=1\/m=2:=by omega
    rcases this with rfl | rfl | rfl
    ·exact ⟨_,rg.cell 0 _ rfl⟩
    ·exact ⟨_,rg.cell 1 _ rfl⟩
    ·exact ⟨_,rg.cell 2 _ rfl⟩
   go_simp;clear aD;refine aA.out _ _ aR (fun _=>?_)
   try simp only [PS]
   refine TYT 12 (.pointer (some ⟨X3,7,none⟩)) rfl aR ?_;simp only [PS];refine kPc (rs:=[13]) (by kernel_rfl) (by simp) ?_;refine AllReadyT.last rfl (fun Kq aA=>?_);have c7:=D.r3.cell 7 _ rfl;have f7:=D.r3.froz 7 (by simp);have cl:=D.r3.lt;go_simp;clear c7 f7 cl;refine aA.out _ _ trivial (fun _=>?_)
   try simp only [PS]
   refine kgn (by kernel_rfl) ?_ _;have D2:=D.set 7 (by simp) (.int .i64 z);go_wp2_with fail;go_meet;exact ⟨W,S,L,T,H,F,Q,z,O,(.slice s k cs),p+1+1,by omega,by omega,D2,.inl rfl⟩
 by_cases h7:t=7
 ·subst h7
  go_upto_region 18 with fail;have dD:=(D.below (Below.refl v3.heap.size v3).drew).r3.cell 7 _ rfl;refine yO4 (11) (S:=fun w'=>w'.cell? ⟨X3,7,none⟩=some (.int .i64 U)) (by kernel_rfl) (dD) (fun aG=>?_);refine TYT 0 (.pointer (some ⟨X3,7,none⟩)) rfl aG (TYT 1 (.int .i64 U) rfl aG (TYT 2 (.pointer (some ⟨X3,7,none⟩)) rfl aG (TYT 3 (.int .i64 U) rfl aG (TYT 4 (.int .i64 (IntKind.i64.wrap (U+1))) rfl aG (TYT 6 (.pointer (some ⟨R,0,none⟩)) rfl aG ?_)))));simp only [PS];refine kPc (rs:=[5,7]) (by kernel_rfl) (by simp) ?_;refine AllReadyT.cons rfl (fun Kq aA=>?_) (AllReadyT.cons rfl (fun Kq aA=>?_) AllReadyT.nil)
  ·obtain ⟨yb,aB⟩:∃ y,y=v3.drew:=⟨_,rfl⟩
   rw [<-aB];have hb:Below v3.heap.size v3 yb:=by rw [aB];exact (Below.refl _ _).drew
   replace D:=D.below hb;clear aB hb;go_simp;have aE:R<yb.heap.size:=ykG D.rd.pc;generalize aM:yb.alloc _=y5;obtain ⟨hb,aF,b1⟩:=bx1 aM;replace D:=D.below hb;obtain ⟨G,aC⟩:∃ k,k=yb.heap.size:=⟨_,rfl⟩;have aN:G≠R:=by omega
   rw [<-aC] at b1 ⊢;have rg:=b1.now;clear hb b1 aF aC aE aM;refine aA.out _ _ (D.r3.cell 7 _ rfl) (fun bV=>?_)
   try simp only [PS]
   refine RDT 7 rfl (fun Kq aA=>?_);refine XRf (by rfl) _ _ (by go_simp) (ZfV R a n c (p+1) 3 _ D.rd (by omega)) ?_;rintro e y7 ⟨⟨m',rfl,m0,m1⟩,hr,hg⟩;refine ⟨_,rfl,?_⟩;replace D:=D.pick hr hg;replace rg:=rg.grown hg (fun e=>by injection e with e;omega);obtain ⟨m,rfl⟩:∃ m:Nat,m'=(m:Int):=⟨m'.toNat,by omega⟩;have hm:m<3:=by omega
   clear hr hg m0 m1;refine aA.out _ _ (D.r3.cell 7 _ rfl) (fun aO=>?_)
   try simp only [PS]
   refine RDT 8 rfl (fun Kq aA=>?_);have aK:(m:Int)<3:=by omega
   have aL:¬ ((3:Int)<=(m:Int)):=by omega
   have aJ:=rg.lt;go_simp;clear aK aL aJ;refine aA.out _ _ aO (fun _=>?_)
   try simp only [PS]
   refine RDT 9 rfl (fun Kq aA=>?_)
   obtain ⟨z,aD⟩:∃ z,y7.cell? ⟨G,m,none⟩=some (.int .i64 z):=by
    have:m=0\/m=1\/m=2:=by omega
    rcases this with rfl | rfl | rfl
    ·exact ⟨_,rg.cell 0 _ rfl⟩
    ·exact ⟨_,rg.cell 1 _ rfl⟩
    ·exact ⟨_,rg.cell 2 _ rfl⟩
   go_simp;clear aD;refine aA.out _ _ aO (fun _=>?_)
   try simp only [PS]
   refine TYT 10 (.pointer (some ⟨X3,8,none⟩)) rfl aO ?_;simp only [PS];refine kPc (rs:=[11]) (by kernel_rfl) (by simp) ?_;refine AllReadyT.last rfl (fun Kq aA=>?_);have c8:=D.r3.cell 8 _ rfl;have f8:=D.r3.froz 8 (by simp);have cl:=D.r3.lt;go_simp;clear c8 f8 cl;refine aA.out _ _ trivial (fun _=>?_)
   try simp only [PS]
   refine kgn (by kernel_rfl) ?_ _;have D2:=D.set 8 (by simp) (.int .i64 z);go_wp2_with fail;go_meet;exact ⟨W,S,L,T,H,F,Q,U,z,(.slice s k cs),p+1+1,by omega,by omega,D2,.inl rfl⟩
  ·obtain ⟨yb,aB⟩:∃ y,y=v3.drew:=⟨_,rfl⟩
   rw [<-aB];have hb:Below v3.heap.size v3 yb:=by rw [aB];exact (Below.refl _ _).drew
   replace D:=D.below hb;clear aB hb;refine XRf (by rfl) _ _ (by go_simp) (ZfV R a n c (p+1) 3 _ D.rd (by omega)) ?_;rintro e y7 ⟨⟨m',rfl,m0,m1⟩,hr,hg⟩;refine ⟨_,rfl,?_⟩;replace D:=D.pick hr hg;obtain ⟨m,rfl⟩:∃ m:Nat,m'=(m:Int):=⟨m'.toNat,by omega⟩;have hm:m<3:=by omega
   clear hr hg m0 m1;refine aA.out _ _ (D.r3.cell 7 _ rfl) (fun bY=>?_)
   try simp only [PS]
   refine RDT 5 rfl (fun Kq aA=>?_);go_simp;have aE:R<y7.heap.size:=ykG D.rd.pc;generalize aM:y7.alloc _=y5;obtain ⟨hb,aF,b1⟩:=bx1 aM;replace D:=D.below hb;obtain ⟨G,aC⟩:∃ k,k=y7.heap.size:=⟨_,rfl⟩;have aN:G≠R:=by omega
   rw [<-aC] at b1 ⊢;have rg:=b1.now;clear hb b1 aF aC aE aM;refine aA.out _ _ (D.r3.cell 7 _ rfl) (fun aQ=>?_)
   try simp only [PS]
   refine RDT 8 rfl (fun Kq aA=>?_);have aK:(m:Int)<3:=by omega
   have aL:¬ ((3:Int)<=(m:Int)):=by omega
   have aJ:=rg.lt;go_simp;clear aK aL aJ;refine aA.out _ _ aQ (fun _=>?_)
   try simp only [PS]
   refine RDT 9 rfl (fun Kq aA=>?_)
   obtain ⟨z,aD⟩:∃ z,y5.cell? ⟨G,m,none⟩=some (.int .i64 z):=by
    have:m=0\/m=1\/m=2:=by omega
    rcases this with rfl | rfl | rfl
    ·exact ⟨_,rg.cell 0 _ rfl⟩
    ·exact ⟨_,rg.cell 1 _ rfl⟩
    ·exact ⟨_,rg.cell 2 _ rfl⟩
   go_simp;clear aD;refine aA.out _ _ aQ (fun _=>?_)
   try simp only [PS]
   refine TYT 10 (.pointer (some ⟨X3,8,none⟩)) rfl aQ ?_;simp only [PS];refine kPc (rs:=[11]) (by kernel_rfl) (by simp) ?_;refine AllReadyT.last rfl (fun Kq aA=>?_);have c8:=D.r3.cell 8 _ rfl;have f8:=D.r3.froz 8 (by simp);have cl:=D.r3.lt;go_simp;clear c8 f8 cl;refine aA.out _ _ trivial (fun _=>?_)
   try simp only [PS]
   refine kgn (by kernel_rfl) ?_ _;have D2:=D.set 8 (by simp) (.int .i64 z);go_wp2_with fail;go_meet;exact ⟨W,S,L,T,H,F,Q,U,z,(.slice s k cs),p+1+1,by omega,by omega,D2,.inl rfl⟩
 have h8:¬ t=7:=h7;go_wp2_with fail;refine (xP2 R a n c (p+1) _ D.rd (by omega)).mono ?_;rintro e v4 ⟨⟨y,rs,rfl,ho,hl,b7⟩,⟨q,q0,q1,hr⟩,hg⟩;replace D:=D.pick hr hg;replace ho:=ho.mono (base':=w.heap.size+2) bQ;clear hr hg;obtain ⟨ya,yc,rfl,-⟩:=yUy ho;have HY:LsY (w.heap.size+2) (v4.setCell ⟨X3,9,none⟩ (.slice ya rs.length yc)) (.slice s k cs) (.slice ya rs.length yc):=.inr ⟨rs,ho.kept (XGx v4 X3 9 (.slice ya rs.length yc)) (.inr (fun e=>by have e:=(ho.lt X3 e).1;have:=D.h4;have:=D.l4;omega)),hl,b7⟩;have bU:=hid HY;clear HY;have D2:=D.set 9 (by simp) ((.slice ya rs.length yc));have c9:=D.r3.cell 9 _ rfl;have f9:=D.r3.froz 9 (by simp);have cl:=D.r3.lt;go_wp2_with fail;go_meet;exact ⟨W,S,L,T,H,F,Q,U,O,(.slice ya rs.length yc),q,by omega,by omega,D2,bU.out⟩
end Go.Proofs.YtehbpeinnepdcaaGreatDoor
