import Derived.Test.YtcoegjnjjdndjaaGreatDoorPrRpL
import Derived.Test.YtcoegjnjjdndjaaGreatDoorPrAs
import Derived.Laws.IdiomStrings
import Derived.Test.YtcoegjnjjdndjaaGreatDoorPrG47
import Derived.Test.YtcoegjnjjdndjaaGreatDoorPrG41
import Derived.Test.YtcoegjnjjdndjaaGreatDoorPrG39
import Derived.Test.YtcoegjnjjdndjaaGreatDoorPrG53
import Derived.Test.YtcoegjnjjdndjaaGreatDoorPrFnA
set_option maxHeartbeats 16000000
set_option maxRecDepth 8000
set_option linter.unusedVariables false
set_option linter.unusedSimpArgs false
namespace Go.Proofs.YtcoegjnjjdndjaaGreatDoor
open Go.RowKit
theorem parse_any (s:ByteArray) (n:Int) (w:World) (ty:TypeId) (v:Value) (hv:w.cell? ⟨1,0,none⟩=some (.iface ty v)) (hg:1<w.heap.size):Calls Tryz.prog 165 #[.string s,.int .i64 n] w fun e w'=>(∃ E,e=.returned (prV E (rpRes s n)))/\Below w.heap.size w w':=by
 by_cases hn:1<=n/\n<=8
 ·obtain ⟨m,rfl⟩:∃ m:Nat,n=(m:Int):=⟨n.toNat,by omega⟩
  by_cases hs:s.size=64
  ·obtain ⟨fN,fK,fL,fM,fP⟩:=rp_fields s m hs (by omega) rfl
   have ln:(nums s).length=64:=by rw [nums_length,hs]
   have rg:=nums_range' s
   have sub:∀ o k,∀ y∈((nums s).drop o).take k,0<=y/\y<=255:=fun o k y hy=>rg y (List.mem_of_mem_drop (List.mem_of_mem_take hy))
   have bN:=numOf_rng 1 _ (by simp;omega) (sub (m+7) 1)
   have bK:=numOf_rng 1 _ (by simp;omega) (sub m 1)
   have bL:=numOf_rng 2 _ (by simp;omega) (sub (m+1) 2)
   have bM:=numOf_rng 4 _ (by simp;omega) (sub (m+3) 4)
   rw [<-fN] at bN
   rw [<-fK] at bK
   rw [<-fL] at bL
   rw [<-fM] at bM
   by_cases hN:rpN (s.extract m 64)+m<=56
   ·have h:=parse_main s m _ _ _ _ _ w ty v hv hg hs (by omega) (by omega) fN hN fK fL fM fP bK.1 (by have:=bK.2;omega) bL.1 (by have:=bL.2;omega) bM.1 (by have:=bM.2;omega)
    have hR:rpRes s (m:Int)=if formOf (rpK (s.extract m 64)) (rpL (s.extract m 64)) (rpM (s.extract m 64)) (rpP (s.extract m 64)) (m:Int)=s then some (rpK (s.extract m 64),rpL (s.extract m 64),rpM (s.extract m 64),rpP (s.extract m 64)) else none:=by
     unfold rpRes
     rw [Int.toNat_natCast]
     by_cases hF:formOf (rpK (s.extract m 64)) (rpL (s.extract m 64)) (rpM (s.extract m 64)) (rpP (s.extract m 64)) (m:Int)=s
     ·rw [if_pos hF,if_pos ⟨by omega,by omega,hs,by omega,hF⟩]
     ·rw [if_neg hF,if_neg (fun hh=>hF hh.2.2.2.2)]
    rw [hR]
    exact h
   ·rw [rpRes_no (fun hh=>hN (by have:=hh.2.2.2.1;rw [Int.toNat_natCast] at this;omega))]
    exact parse_no_part s m _ w ty v hv hg hs (by omega) (by omega) fN (by omega) (by have:=bN.2;omega)
  ·rw [rpRes_no (fun hh=>hs hh.2.2.1)]
   exact parse_no_size s m w ty v hv hg hn hs
 ·rw [rpRes_no (fun hh=>hn ⟨hh.1,hh.2.1⟩)]
  exact parse_no_width s n w ty v hv hg hn
theorem as_hit_b (e t:Addr) (old:Value) (w:World) (hg:w.cell? ⟨0,0,none⟩=some (.iface 253 (.agg #[.pointer (some ⟨3,165,none⟩)]))) (ht0:w.cell? t=some old) (hf0:w.frozen? t=false) (hlt:t.block<w.heap.size) :
  Calls Tryz.prog 166 #[.iface 227 (.pointer (some e)),.iface 229 (.pointer (some t))] w fun ev w'=>ev=.returned (.bool true)/\Below t.block w w' :=
 (as_hit e t old w hg ht0 hf0).mono fun ev w' h=>⟨h.1,by
  rw [h.2]
  exact (((((Below.refl t.block w).alloc (by omega) _).alloc (by simp;omega) _).alloc (by simp;omega) _).alloc (by simp;omega) _).setCell (Nat.le_refl _) _⟩
theorem as_nil_b (t:Value) (w:World):Calls Tryz.prog 166 #[.nilIface,t] w fun e w'=>e=.returned (.bool false)/\Below w.heap.size w w' :=
 (as_nil t w).mono fun e w' h=>⟨h.1,by rw [h.2];exact Below.refl _ _⟩
theorem RB.past {W w w':World} (h:RB W w) {B:Nat} (hB:W.heap.size<B) (hb:Below B w w'):RB W w':=by
 have hs:=h.size
 have hc:∀ i,w'.cell? ⟨W.heap.size,i,none⟩=w.cell? ⟨W.heap.size,i,none⟩:=fun i=>hb.cell (p:=⟨W.heap.size,i,none⟩) (by show W.heap.size<_;omega)
 have hf:∀ i,w'.frozen? ⟨W.heap.size,i,none⟩=w.frozen? ⟨W.heap.size,i,none⟩:=fun i=>hb.frozen (p:=⟨W.heap.size,i,none⟩) (by show W.heap.size<_;omega)
 exact ⟨Nat.le_trans hs hb.size,h.bel.trans (hb.mono (by omega)),(hc _).trans h.c0,(hc _).trans h.c1,(hc _).trans h.c2,(hc _).trans h.c3,(hf _).trans h.f0,(hf _).trans h.f1,(hf _).trans h.f2,(hf _).trans h.f3⟩
set_option maxHeartbeats 16000000 in
theorem readpage_i (s:ByteArray) (n:Int) (w:World) (ty:TypeId) (v:Value) (hv:w.cell? ⟨1,0,none⟩=some (.iface ty v)) (h0:w.cell? ⟨0,0,none⟩=some (.iface 253 (.agg #[.pointer (some ⟨3,165,none⟩)]))) (hg:1<w.heap.size):Calls Tryz.prog 152 #[.string s,.int .i64 n] w fun e w'=>e=.returned (rpV (rpRes s n))/\Below w.heap.size w w':=by
 obtain ⟨R,HR⟩:∃ R,Hid (R=rpRes s n):=⟨_,hid0 rfl⟩
 rw [<-HR.out]
 have hb0:∀ o,Below w.heap.size w (w.alloc o):=fun o=>(Below.refl _ _).alloc (Nat.le_refl _) _
 have hva:∀ o,(w.alloc o).cell? ⟨1,0,none⟩=some (.iface ty v):=fun o=>(World.cell?_alloc_past _ _ _ (by exact hg)).trans hv
 have HG:Hid (∀ w',Below w.heap.size w w'->w'.cell? ⟨0,0,none⟩=some (.iface 253 (.agg #[.pointer (some ⟨3,165,none⟩)]))):=fun w' hb=>(hb.cell (p:=⟨0,0,none⟩) (by show 0<_;omega)).trans h0
 have par:=fun o=>parse_any s n (w.alloc o) ty v (hva o) (by simp;omega)
 rw [<-HR.out] at par
 cases R with
 | none =>
  simp only [prV] at par
  go_enter Tryz.func152,Tryz.ntmps152
  go_wp2_with (first | (go_at_call 165;refine (par _).mono ?_;rintro e w2 ⟨⟨E,rfl⟩,hb2⟩;have HB2:=hid0 ((RB.new w _).below hb2);clear hb2) | (go_at_call 166;refine (as_hit_b E ⟨w2.heap.size+1,0,none⟩ (.pointer none) _ (HG.out _ ((HB2.out.alloc _).alloc _).bel) (by go_simp) (by go_simp) (by simp)).mono ?_;rintro e w4 ⟨rfl,hb4⟩;have hr4:=((HB2.out.alloc _).alloc _).past (B:=w2.heap.size+1) (by have:=HB2.out.size;omega) hb4;clear hb4;have c0:=hr4.c0;have c1:=hr4.c1;have c2:=hr4.c2;have c3:=hr4.c3;have f0:=hr4.f0;have f1:=hr4.f1;have f2:=hr4.f2;have f3:=hr4.f3;have HR4:=hid0 hr4;clear hr4))
  refine bodyPost_ret (v:=.tuple #[pageV 0 0 0 ⟨#[]⟩,.bool false]) (by simp [results,Tryz.results152,go_sem,c0,c1,c2,c3]) rfl ⟨rfl,?_⟩
  exact (((HR4.out.bel.setCell (Nat.le_refl _) _).setCell (Nat.le_refl _) _).setCell (Nat.le_refl _) _).setCell (Nat.le_refl _) _
 | some x =>
  obtain ⟨k,l,m,p⟩:=x
  simp only [prV] at par
  go_enter Tryz.func152,Tryz.ntmps152
  go_wp2_with (first | (go_at_call 165;refine (par _).mono ?_;rintro e w2 ⟨⟨E,rfl⟩,hb2⟩;have HB2:=hid0 ((RB.new w _).below hb2);clear hb2) | (go_at_call 166;refine (as_nil_b _ _).mono ?_;rintro e w4 ⟨rfl,hb4⟩;have hr4:=((HB2.out.alloc _).alloc _).below hb4;have hp:=((pg_new w2 w2.heap.size rfl (.int .i64 k) (.int .i64 l) (.int .i64 m) (.string p) _).below ((Below.refl _ _).alloc (Nat.le_refl _) _) (by simp)).below hb4 (by simp<;>omega);clear hb4;have p0:=hp.c0;have p1:=hp.c1;have p2:=hp.c2;have p3:=hp.c3;clear hp;have c0:=hr4.c0;have c1:=hr4.c1;have c2:=hr4.c2;have c3:=hr4.c3;have f0:=hr4.f0;have f1:=hr4.f1;have f2:=hr4.f2;have f3:=hr4.f3;have HR4:=hid0 hr4;clear hr4))
  refine bodyPost_ret (v:=.tuple #[pageV k l m p,.bool true]) (by simp [results,Tryz.results152,go_sem,c0,c1,c2,c3]) rfl ⟨rfl,?_⟩
  exact (((HR4.out.bel.setCell (Nat.le_refl _) _).setCell (Nat.le_refl _) _).setCell (Nat.le_refl _) _).setCell (Nat.le_refl _) _
end Go.Proofs.YtcoegjnjjdndjaaGreatDoor
namespace Go.Proofs.YtcoegjnjjdndjaaGreatDoor
open Go.RowKit
set_option maxHeartbeats 16000000
@[reducible] def rtV (x:RtT):Value:=rootV x.1 x.2.1 x.2.2.1 x.2.2.2
def rrOf (s:ByteArray) (n:Int):RtT :=
 match rpRes s n with
 | none=>rtZ
 | some (_,l,m,p)=>if p.size=5/\rtForm m (ptH p) (ptF p) l n=s then (m,ptH p,ptF p,l) else rtZ
set_option maxHeartbeats 16000000 in
theorem readroot_yes (s:ByteArray) (n:Int) (w:World) (k l m:Int) (p:ByteArray) (hR:rpRes s n=some (k,l,m,p)) (HS:∀ wx,Below w.heap.size w wx->Calls Tryz.prog 152 #[.string s,.int .i64 n] wx fun e w'=>e=.returned (.tuple #[pageV k l m p,.bool true])/\Below wx.heap.size wx w') (h5:p.size=5):Calls Tryz.prog 134 #[.string s,.int .i64 n] w fun e w'=>e=.returned (rtV (rrOf s n))/\Below w.heap.size w w':=by
 have hb0:∀ o,Below w.heap.size w (w.alloc o):=fun o=>(Below.refl _ _).alloc (Nat.le_refl _) _
 obtain ⟨_,_,hm1,hm2,hl1,hl2,hpz⟩:=rpRes_some hR
 obtain ⟨RR,HRR⟩:∃ RR,Hid (RR=rrOf s n):=⟨_,hid0 rfl⟩
 obtain ⟨H,HH⟩:∃ H,Hid (H=ptH p):=⟨_,hid0 rfl⟩
 obtain ⟨F,HF⟩:∃ F,Hid (F=ptF p):=⟨_,hid0 rfl⟩
 obtain ⟨FM,HFM⟩:∃ FM,Hid (FM=rtForm m H F l n):=⟨_,hid0 rfl⟩
 have HRO:Hid (RR=if FM=s then (m,H,F,l) else rtZ):=by
  show _=_
  rw [HRR.out,HFM.out,HH.out,HF.out]
  unfold rrOf
  rw [hR]
  simp [h5]
 rw [<-HRR.out]
 clear hR HRR
 have h5':(p.size:Int)=5:=by omega
 have hl5:(nums p).length=5:=by rw [nums_length,h5]
 have rg:=nums_range' p
 have b1:=numOf_rng 1 ((nums p).take 1) (by simp;omega) (fun y hy=>rg y (List.mem_of_mem_take hy))
 have b2:=numOf_rng 4 (((nums p).drop 1).take 4) (by simp;omega) (fun y hy=>rg y (List.mem_of_mem_drop (List.mem_of_mem_take hy)))
 have hH0:0<=H:=by rw [HH.out];exact b1.1
 have hH1:H<=255:=by rw [HH.out];have:=b1.2;unfold ptH;omega
 have hF0:0<=F:=by rw [HF.out];exact b2.1
 have hF1:F<=4294967295:=by rw [HF.out];have:=b2.2;unfold ptF;omega
 have hHw:IntKind.i64.wrap H=H:=by simp [IntKind.wrap,IntKind.bits,IntKind.signed];omega
 have hFw:IntKind.i64.wrap F=F:=by simp [IntKind.wrap,IntKind.bits,IntKind.signed];omega
 obtain ⟨xs,HX⟩:∃ xs,Hid (xs=nums p):=⟨_,hid0 rfl⟩
 have HRG:Hid (∀ y∈xs,0<=y/\y<=255):=by rw [HX.out];exact rg
 have HH1:Hid (H=numOf ((xs.drop 0).take 1)):=by show _=_;rw [HX.out,List.drop_zero];exact HH.out
 have HF1:Hid (F=numOf ((xs.drop 1).take 4)):=by show _=_;rw [HX.out];exact HF.out
 rw [<-HX.out] at hl5
 clear rg b1 b2
 have HRT:=fun wx=>rootpage_i_any m H F l n wx
 rw [<-HFM.out] at HRT
 have hCV:=hid0 (fun wx=>conv_bytes wx p)
 go_enter Tryz.func134,Tryz.ntmps134
 go_wp2_with (go_at_call 152;refine (HS _ (hb0 _)).mono ?_;rintro e w2 ⟨rfl,hb2⟩;have HB2:=hid0 ((B4.new w (.int .i64 0) (.int .i64 0) (.int .i64 0) (.int .i64 0) _).below hb2);have HBB:=hid0 ((hb0 _).trans (hb2.mono (by simp)));clear hb2;obtain ⟨cap,wB,hcv,hbB,hszB,hfm,hcap⟩:=hCV.out (w2.alloc (.cells #[.int .i64 k,.int .i64 l,.int .i64 m,.string p] 98));rw [h5] at hcv hcap;have hpg:=(B4.new w2 (.int .i64 k) (.int .i64 l) (.int .i64 m) (.string p) 98).below hbB;have HB3:=hid0 ((HB2.out.alloc _).below hbB);have HBB3:=hid0 ((HBB.out.alloc HBB.out.size _).trans (hbB.mono (HBB.out.alloc HBB.out.size _).size));have hBlt:w.heap.size<w2.heap.size:=HB2.out.lt;clear HB2 HBB hbB;simp only [World.size_alloc] at hszB hfm hcv;rw [<-HX.out] at hfm;have HFMB:=hid0 hfm;clear hfm;have p1:=hpg.c1;have p2:=hpg.c2;have p3:=hpg.c3;have HPG:=hid0 hpg;clear hpg)
 have hwl:w2.heap.size+1<wB.heap.size:=by omega
 have FMA:Hid (∀ o,Fm (wB.alloc o) (w2.heap.size+1) xs):=fun o=>HFMB.out.below ((Below.refl _ _).alloc (Nat.le_refl _) _) hwl
 have hc5:(1:Int)<=(cap:Int):=by omega
 have hc1:¬ cap=1:=by omega
 have HT:Hid (∀ w',Below wB.heap.size wB w'->w'.cell? ⟨w2.heap.size,1,none⟩=some (.int .i64 l)/\w'.cell? ⟨w2.heap.size,2,none⟩=some (.int .i64 m)/\Below wB.heap.size wB w'):=fun w' hb=>⟨(HPG.out.below hb).c1,(HPG.out.below hb).c2,hb⟩
 refine (fun HG:Wr ?G=>?main) ⟨?pf⟩
 case main =>
  go_region_held3 (fun w'=>w'.cell? ⟨w2.heap.size,1,none⟩=some (.int .i64 l)/\w'.cell? ⟨w2.heap.size,2,none⟩=some (.int .i64 m)/\Below wB.heap.size wB w')
   (first | assumption | exact HT.out _ ((Below.refl _ _).drew) | exact HT.out _ (((Below.refl _ _).drew).alloc (Nat.le_refl _) _) | exact HT.out _ (((Below.refl _ _).alloc (Nat.le_refl _) _).drew) | exact HT.out _ ((Below.refl _ _).alloc (Nat.le_refl _) _))
   (first
    | (have _g:=g1;go_at_call 153;refine (take_fm (w2.heap.size+1) xs HRG 1 4 _ (by omega) (by omega) _ (by first | exact HFMB.out.drew | exact (FMA.out _).drew) F HF1.out).mono ?_;rintro e w7 ⟨rfl,rfl⟩)
    | (go_at_call 153;refine (take_fm (w2.heap.size+1) xs HRG 0 1 _ (by omega) (by omega) _ (by first | exact HFMB.out.drew | exact (FMA.out _).drew) H HH1.out).mono ?_;rintro e w7 ⟨rfl,rfl⟩;have g1:=True.intro))
  all_goals exact HG.out
 have hq:=(B4.new wB (.int .i64 m) (.int .i64 H) (.int .i64 F) (.int .i64 l) 45).drew
 have hbs:Below wB.heap.size wB (wB.alloc (.cells #[.int .i64 m,.int .i64 H,.int .i64 F,.int .i64 l] 45)).drew:=((Below.refl _ _).alloc (Nat.le_refl _) _).drew
 obtain ⟨wq,HWQ⟩:∃ wq,wq=(wB.alloc (.cells #[.int .i64 m,.int .i64 H,.int .i64 F,.int .i64 l] 45)).drew:=⟨_,rfl⟩
 rw [hszB] at hq
 rw [<-HWQ] at hq hbs ⊢
 have HR1:=hid0 (HB3.out.below hbs)
 have HB1:=hid0 (HBB3.out.trans (hbs.mono (by have:=HBB3.out.size;omega)))
 have HQ1:=hid0 hq
 clear HWQ HT hbs HB3 HBB3 HPG HFMB FMA p1 p2 p3
 have q0:=hq.c0
 have q1:=hq.c1
 have q2:=hq.c2
 have q3:=hq.c3
 clear hq
 by_cases hFs:FM=s
 ·have HRO2:Hid (RR=(m,H,F,l)):=by show _=_;rw [HRO.out,if_pos hFs]
  have HFS:=hid0 hFs
  clear hFs
  rw [HFS.out] at HRT
  go_wp2_with (first | (go_at_call 149;refine (HRT _).mono ?_;rintro e w7 ⟨rfl,hb7⟩;have hr7:=HR1.out.below hb7;have hq7:=HQ1.out.below hb7;have HB7:=hid0 (HB1.out.trans (hb7.mono HB1.out.size));clear hb7;have c0:=hr7.c0;have c1:=hr7.c1;have c2:=hr7.c2;have c3:=hr7.c3;have f0:=hr7.f0;have f1:=hr7.f1;have f2:=hr7.f2;have f3:=hr7.f3;have r0:=hq7.c0;have r1:=hq7.c1;have r2:=hq7.c2;have r3:=hq7.c3;clear hr7 hq7))
  refine bodyPost_ret (v:=rootV m H F l) (by simp [results,Tryz.results134,go_sem,c0,c1,c2,c3]) rfl ⟨by rw [HRO2.out],?_⟩
  exact (((HB7.out.setCell (Nat.le_refl _) _).setCell (Nat.le_refl _) _).setCell (Nat.le_refl _) _).setCell (Nat.le_refl _) _
 ·have HRO2:Hid (RR=rtZ):=by show _=_;rw [HRO.out,if_neg hFs]
  have hG:(!FM.toList == s.toList)=true:=by simp only [Bool.not_eq_true',beq_eq_false_iff_ne];intro hh;rw [ByteArray.toList_eq,ByteArray.toList_eq] at hh;exact hFs (ByteArray.ext (Array.ext' hh))
  clear hFs
  go_wp2_with (first | (go_at_call 149;refine (HRT _).mono ?_;rintro e w7 ⟨rfl,hb7⟩;have hr7:=HR1.out.below hb7;have hq7:=HQ1.out.below hb7;have HB7:=hid0 (HB1.out.trans (hb7.mono HB1.out.size));clear hb7;have c0:=hr7.c0;have c1:=hr7.c1;have c2:=hr7.c2;have c3:=hr7.c3;have f0:=hr7.f0;have f1:=hr7.f1;have f2:=hr7.f2;have f3:=hr7.f3;have r0:=hq7.c0;have r1:=hq7.c1;have r2:=hq7.c2;have r3:=hq7.c3;clear hr7 hq7))
  refine bodyPost_ret (v:=rootV 0 0 0 0) (by simp [results,Tryz.results134,go_sem,c0,c1,c2,c3]) rfl ⟨by rw [HRO2.out];rfl,?_⟩
  exact (((HB7.out.setCell (Nat.le_refl _) _).setCell (Nat.le_refl _) _).setCell (Nat.le_refl _) _).setCell (Nat.le_refl _) _
set_option maxHeartbeats 16000000 in
theorem readroot_no (s:ByteArray) (n:Int) (w:World) (k l m:Int) (p:ByteArray) (b:Bool) (HS:∀ wx,Below w.heap.size w wx->Calls Tryz.prog 152 #[.string s,.int .i64 n] wx fun e w'=>e=.returned (.tuple #[pageV k l m p,.bool b])/\Below wx.heap.size wx w') (hps:p.size<=64) (hno:b=false\/p.size≠5) (HRO:Hid (rrOf s n=rtZ)):Calls Tryz.prog 134 #[.string s,.int .i64 n] w fun e w'=>e=.returned (rtV (rrOf s n))/\Below w.heap.size w w':=by
 have hb0:∀ o,Below w.heap.size w (w.alloc o):=fun o=>(Below.refl _ _).alloc (Nat.le_refl _) _
 cases b with
 | false =>
  ·clear hno
   go_enter Tryz.func134,Tryz.ntmps134
   go_wp2_with (go_at_call 152;refine (HS _ (hb0 _)).mono ?_;rintro e w2 ⟨rfl,hb2⟩;have HB2:=hid0 ((B4.new w (.int .i64 0) (.int .i64 0) (.int .i64 0) (.int .i64 0) _).below hb2);have HBB:=hid0 ((hb0 _).trans (hb2.mono (by simp)));clear hb2;have c0:=fun o=>(HB2.out.alloc o).c0;have c1:=fun o=>(HB2.out.alloc o).c1;have c2:=fun o=>(HB2.out.alloc o).c2;have c3:=fun o=>(HB2.out.alloc o).c3;have f0:=fun o=>(HB2.out.alloc o).f0;have f1:=fun o=>(HB2.out.alloc o).f1;have f2:=fun o=>(HB2.out.alloc o).f2;have f3:=fun o=>(HB2.out.alloc o).f3)
   refine bodyPost_ret (v:=rootV 0 0 0 0) (by simp [results,Tryz.results134,go_sem,c0,c1,c2,c3]) rfl ⟨by rw [HRO.out];rfl,?_⟩
   exact ((((HBB.out.alloc HBB.out.size _).setCell (Nat.le_refl _) _).setCell (Nat.le_refl _) _).setCell (Nat.le_refl _) _).setCell (Nat.le_refl _) _
 | true =>
  ·have h5':((p.size:Int) != 5)=true:=by
    have h:=hno.resolve_left (by simp)
    simp
    omega
   clear hno
   go_enter Tryz.func134,Tryz.ntmps134
   go_wp2_with (go_at_call 152;refine (HS _ (hb0 _)).mono ?_;rintro e w2 ⟨rfl,hb2⟩;have HB2:=hid0 ((B4.new w (.int .i64 0) (.int .i64 0) (.int .i64 0) (.int .i64 0) _).below hb2);have HBB:=hid0 ((hb0 _).trans (hb2.mono (by simp)));clear hb2;have c0:=fun o=>(HB2.out.alloc o).c0;have c1:=fun o=>(HB2.out.alloc o).c1;have c2:=fun o=>(HB2.out.alloc o).c2;have c3:=fun o=>(HB2.out.alloc o).c3;have f0:=fun o=>(HB2.out.alloc o).f0;have f1:=fun o=>(HB2.out.alloc o).f1;have f2:=fun o=>(HB2.out.alloc o).f2;have f3:=fun o=>(HB2.out.alloc o).f3)
   refine bodyPost_ret (v:=rootV 0 0 0 0) (by simp [results,Tryz.results134,go_sem,c0,c1,c2,c3]) rfl ⟨by rw [HRO.out];rfl,?_⟩
   exact ((((HBB.out.alloc HBB.out.size _).setCell (Nat.le_refl _) _).setCell (Nat.le_refl _) _).setCell (Nat.le_refl _) _).setCell (Nat.le_refl _) _
theorem readroot_i (s:ByteArray) (n:Int) (w:World) (ty:TypeId) (v:Value) (hv:w.cell? ⟨1,0,none⟩=some (.iface ty v)) (h0:w.cell? ⟨0,0,none⟩=some (.iface 253 (.agg #[.pointer (some ⟨3,165,none⟩)]))) (hg:1<w.heap.size):Calls Tryz.prog 134 #[.string s,.int .i64 n] w fun e w'=>e=.returned (rtV (rrOf s n))/\Below w.heap.size w w':=by
 have HS:=fun wx (hb:Below w.heap.size w wx)=>readpage_i s n wx ty v ((hb.cell (p:=⟨1,0,none⟩) hg).trans hv) ((hb.cell (p:=⟨0,0,none⟩) (by show 0<_;omega)).trans h0) (by have:=hb.size;omega)
 cases hR:rpRes s n with
 | none =>
  rw [hR] at HS
  exact readroot_no s n w 0 0 0 ⟨#[]⟩ false HS (by decide) (.inl rfl) (by show _=_;unfold rrOf;rw [hR])
 | some x =>
  obtain ⟨k,l,m,p⟩:=x
  rw [hR] at HS
  by_cases h5:p.size=5
  ·exact readroot_yes s n w k l m p hR HS h5
  ·exact readroot_no s n w k l m p true HS (rpRes_some hR).2.2.2.2.2.2 (.inr h5) (by show _=_;unfold rrOf;rw [hR];simp [h5])
theorem fsector_i (x:RtT) (w:World) (h:0<=x.1):Calls Tryz.prog 135 #[rtV x] w fun e w'=>e=.returned (.int .i64 (x.1 % 2))/\Below w.heap.size w w':=by
 obtain ⟨t,a,b,c⟩:=x
 go_enter Tryz.func135,Tryz.ntmps135
 go_wp2
 go_ret
 refine ⟨?_,(Below.refl _ _).alloc (Nat.le_refl _) _⟩
 have:t.tmod 2=t % 2:=Int.tmod_eq_emod_of_nonneg h
 first | rfl | simp [this]
theorem rr_root (s:ByteArray) (a n:Int) (ha:a=0\/a=1):(if (rrOf s n).1 % 2=a then rrOf s n else rtZ)=(rootOf s a n).getD rtZ:=by
 unfold rrOf rootOf
 cases rpRes s n with
 | none=>exact ite_self _
 | some x =>
  obtain ⟨k,l,m,p⟩:=x
  by_cases h1:p.size=5/\rtForm m (ptH p) (ptF p) l n=s
  ·by_cases h2:m % 2=a
   ·simp [h1.1,h1.2,h2]
   ·simp [h1.1,h1.2,h2]
  ·simp only [if_neg h1]
   have h3:¬ (p.size=5/\rtForm m (ptH p) (ptF p) l n=s/\m % 2=a):=fun h=>h1 ⟨h.1,h.2.1⟩
   rw [if_neg h3]
   exact ite_self _
theorem rr_pos (s:ByteArray) (n:Int):0<=(rrOf s n).1:=by
 unfold rrOf
 cases h:rpRes s n with
 | none=>simp [rtZ]
 | some x =>
  obtain ⟨k,l,m,p⟩:=x
  have:=(rpRes_some h).2.2.1
  show 0<=(if p.size=5/\rtForm m (ptH p) (ptF p) l n=s then (m,ptH p,ptF p,l) else rtZ).1
  split
  ·show 0<=m;omega
  ·simp [rtZ]
set_option maxHeartbeats 16000000 in
theorem rootat_i (v0 v1:Value) (x:List Int) (a n:Int) (w:World) (ha:a=0\/a=1) (hxl:x.length=64)
  (HRD:∀ wx,Below w.heap.size w wx->Calls Tryz.prog 197 #[.agg #[v0,v1],.int .i64 a] wx fun e w'=>e=.returned (.tuple #[.agg (x.map (Value.int .u8)).toArray,.bool true])/\Below wx.heap.size wx w')
  (ty:TypeId) (v:Value) (hv:w.cell? ⟨1,0,none⟩=some (.iface ty v)) (h0:w.cell? ⟨0,0,none⟩=some (.iface 253 (.agg #[.pointer (some ⟨3,165,none⟩)]))) (hg:1<w.heap.size) :
  Calls Tryz.prog 104 #[.iface 198 (.agg #[v0,v1]),.int .i64 a,.int .i64 n] w fun e w'=>e=.returned (rtV ((rootOf (strOfNums x) a n).getD rtZ))/\Below w.heap.size w w':=by
 have hb0:∀ o,Below w.heap.size w (w.alloc o):=fun o=>(Below.refl _ _).alloc (Nat.le_refl _) _
 rw [<-rr_root _ a n ha]
 have HRR:=fun wx (hb:Below w.heap.size w wx)=>readroot_i (strOfNums x) n wx ty v ((hb.cell (p:=⟨1,0,none⟩) hg).trans hv) ((hb.cell (p:=⟨0,0,none⟩) (by show 0<_;omega)).trans h0) (by have:=hb.size;omega)
 have hpos:=rr_pos (strOfNums x) n
 obtain ⟨RR,hRR⟩:∃ RR,rrOf (strOfNums x) n=RR:=⟨_,rfl⟩
 rw [hRR] at HRR hpos ⊢
 clear hRR hv h0
 obtain ⟨t,h,f,l⟩:=RR
 have hxm:(x.map (Value.int .u8)).toArray.size=64:=by simp [hxl]
 have HI64:Hid ((Tryz.prog.info? 193).map (·.size)=some (x.map (Value.int .u8)).length):=by show _=_;rw [List.length_map,hxl];kernel_rfl
 have hmc:=fun k wx=>meth_cover k v0 v1 wx
 obtain ⟨sx,HSX⟩:∃ sx,Hid (sx=strOfNums x):=⟨_,hid rfl⟩
 rw [<-HSX.out] at HRR
 have HSC:=hid (fun wx=>fsector_i (t,h,f,l) wx hpos)
 have HRRh:=hid HRR
 have HRDh:=hid HRD
 clear HRR HRD
 by_cases he:t % 2=a
 ·have hge:(if ((t,h,f,l):RtT).1 % 2=a then ((t,h,f,l):RtT) else rtZ)=(t,h,f,l):=if_pos he
  rw [hge]
  clear hge
  go_enter Tryz.func104,Tryz.ntmps104
  go_wp2_with fail
  refine (HRDh.out _ (hb0 _)).mono ?_
  rintro e w2 ⟨rfl,hb2⟩
  have HR2:=hid ((B4.new w (.int .i64 0) (.int .i64 0) (.int .i64 0) (.int .i64 0) 45).below hb2)
  have HB2:=hid ((hb0 (.cells #[.int .i64 0,.int .i64 0,.int .i64 0,.int .i64 0] 45)).trans (hb2.mono (by simp)))
  clear hb2 hmc
  go_wp2_with (first
   | (with_reducible refine at_store 193 _ _ rfl ?_;refine wpList_store_cells rfl 193 _ _ rfl (x.map (Value.int .u8)) (ints_one x) rfl rfl _ _ (by rw [List.length_map,hxl];kernel_rfl) HI64.out ?_;intro wx hrow hbx hsx;have hcv:=hrow.text (P:=Tryz.prog) x 0 64 64 hxl (fun i hi=>by simp [List.getD,show i<x.length by omega]) 158 5 9 Tryz.underlying158 Tryz.underlying5 Tryz.underlying9;rw [<-HSX.out] at hcv;have HRX:=hid (HR2.out.below hbx);have HBX:=hid (HB2.out.trans (hbx.mono HB2.out.size));clear hbx hsx hrow)
   | (go_at_call 134;refine (HRRh.out _ HBX.out).mono ?_;rintro e w3 ⟨rfl,hb3⟩;have HR3:=hid (HRX.out.below hb3);have HB3:=hid (HBX.out.trans (hb3.mono HBX.out.size));clear hb3)
   | (go_at_call 135;refine (HSC.out _).mono ?_;rintro e w4 ⟨rfl,hb4⟩;have HR4:=hid ((HR3.out.alloc _).below hb4);have hq4:=(B4.new w3 (.int .i64 t) (.int .i64 h) (.int .i64 f) (.int .i64 l) 45).below hb4;have HB4:=hid ((HB3.out.alloc HB3.out.size _).trans (hb4.mono (HB3.out.alloc HB3.out.size _).size));clear hb4;have r0:=hq4.c0;have r1:=hq4.c1;have r2:=hq4.c2;have r3:=hq4.c3;clear hq4;have hr4:=HR4.out;have c0:=hr4.c0;have c1:=hr4.c1;have c2:=hr4.c2;have c3:=hr4.c3;have f0:=hr4.f0;have f1:=hr4.f1;have f2:=hr4.f2;have f3:=hr4.f3;clear hr4))
  refine bodyPost_ret (v:=rootV t h f l) (by simp [results,Tryz.results104,go_sem,c0,c1,c2,c3]) rfl ⟨rfl,?_⟩
  exact (((HB4.out.setCell (Nat.le_refl _) _).setCell (Nat.le_refl _) _).setCell (Nat.le_refl _) _).setCell (Nat.le_refl _) _
 ·have hge:(if ((t,h,f,l):RtT).1 % 2=a then ((t,h,f,l):RtT) else rtZ)=rtZ:=if_neg he
  rw [hge]
  clear hge
  go_enter Tryz.func104,Tryz.ntmps104
  go_wp2_with fail
  refine (HRDh.out _ (hb0 _)).mono ?_
  rintro e w2 ⟨rfl,hb2⟩
  have HR2:=hid ((B4.new w (.int .i64 0) (.int .i64 0) (.int .i64 0) (.int .i64 0) 45).below hb2)
  have HB2:=hid ((hb0 (.cells #[.int .i64 0,.int .i64 0,.int .i64 0,.int .i64 0] 45)).trans (hb2.mono (by simp)))
  clear hb2 hmc
  go_wp2_with (first
   | (with_reducible refine at_store 193 _ _ rfl ?_;refine wpList_store_cells rfl 193 _ _ rfl (x.map (Value.int .u8)) (ints_one x) rfl rfl _ _ (by rw [List.length_map,hxl];kernel_rfl) HI64.out ?_;intro wx hrow hbx hsx;have hcv:=hrow.text (P:=Tryz.prog) x 0 64 64 hxl (fun i hi=>by simp [List.getD,show i<x.length by omega]) 158 5 9 Tryz.underlying158 Tryz.underlying5 Tryz.underlying9;rw [<-HSX.out] at hcv;have HRX:=hid (HR2.out.below hbx);have HBX:=hid (HB2.out.trans (hbx.mono HB2.out.size));clear hbx hsx hrow)
   | (go_at_call 134;refine (HRRh.out _ HBX.out).mono ?_;rintro e w3 ⟨rfl,hb3⟩;have HR3:=hid (HRX.out.below hb3);have HB3:=hid (HBX.out.trans (hb3.mono HBX.out.size));clear hb3)
   | (go_at_call 135;refine (HSC.out _).mono ?_;rintro e w4 ⟨rfl,hb4⟩;have HR4:=hid ((HR3.out.alloc _).below hb4);have hq4:=(B4.new w3 (.int .i64 t) (.int .i64 h) (.int .i64 f) (.int .i64 l) 45).below hb4;have HB4:=hid ((HB3.out.alloc HB3.out.size _).trans (hb4.mono (HB3.out.alloc HB3.out.size _).size));clear hb4;have r0:=hq4.c0;have r1:=hq4.c1;have r2:=hq4.c2;have r3:=hq4.c3;clear hq4;have hr4:=HR4.out;have c0:=hr4.c0;have c1:=hr4.c1;have c2:=hr4.c2;have c3:=hr4.c3;have f0:=hr4.f0;have f1:=hr4.f1;have f2:=hr4.f2;have f3:=hr4.f3;clear hr4))
  refine bodyPost_ret (v:=rootV 0 0 0 0) (by simp [results,Tryz.results104,go_sem,c0,c1,c2,c3]) rfl ⟨rfl,?_⟩
  exact (((HB4.out.setCell (Nat.le_refl _) _).setCell (Nat.le_refl _) _).setCell (Nat.le_refl _) _).setCell (Nat.le_refl _) _
theorem fr_i_no (a:Option Addr) (ss:List ByteArray) (c:Nat) (a':Option Addr) (ws:List (Int×ByteArray)) (c':Nat) (n:Int) (w:World) (h:Strs w a ss) (h':Wrs w a' ws) (hl:ss.length<=1048576) (hl':ws.length<=1048576) (hs:∀ s∈ss,s.size<=1048576) (hs':∀ x∈ws,x.2.size<=1048576) (hno:¬ (diskOk ss ws=true/\1<=n/\n<=8)) :
  Calls Tryz.prog 62 #[diskV a ss.length c a' ws.length c',.int .i64 n] w fun e w'=>e=.returned (rootV 0 0 0 0)/\Below w.heap.size w w':=by
 have hb0:∀ o1 o2,Below w.heap.size w ((w.alloc o1).alloc o2):=fun o1 o2=>((Below.refl _ _).alloc (Nat.le_refl _) _).alloc (by simp) _
 cases hok:diskOk ss ws with
 | false =>
  clear hno
  go_enter Tryz.func62,Tryz.ntmps62
  go_wp2_with fail
  refine (valid_i a ss c a' ws c' _ (h.below (hb0 _ _)) (h'.below (hb0 _ _)) hl hl' hs hs').mono ?_
  rw [hok]
  rintro e w1 ⟨rfl,hb1⟩
  have hr:=((B4.new (w.alloc (.cells #[.slice a ss.length c,.slice a' ws.length c'] 44)) (.int .i64 0) (.int .i64 0) (.int .i64 0) (.int .i64 0) 45).below hb1)
  rw [World.size_alloc] at hr
  have HB1:=hid ((hb0 (.cells #[.slice a ss.length c,.slice a' ws.length c'] 44) (.cells #[.int .i64 0,.int .i64 0,.int .i64 0,.int .i64 0] 45)).trans (hb1.mono (by simp<;>omega)))
  clear hb1
  have c0:=hr.c0
  have c1:=hr.c1
  have c2:=hr.c2
  have c3:=hr.c3
  have f0:=hr.f0
  have f1:=hr.f1
  have f2:=hr.f2
  have f3:=hr.f3
  clear hr
  go_wp2
  refine bodyPost_ret (v:=rootV 0 0 0 0) (by simp [results,Tryz.results62,go_sem,c0,c1,c2,c3]) rfl ⟨rfl,?_⟩
  exact (((HB1.out.setCell (by show _<=w.heap.size+1;omega) _).setCell (by show _<=w.heap.size+1;omega) _).setCell (by show _<=w.heap.size+1;omega) _).setCell (by show _<=w.heap.size+1;omega) _
 | true =>
  have hd:decide (1<=n/\n<=8)=false:=decide_eq_false (fun x=>hno ⟨hok,x⟩)
  clear hno
  go_enter Tryz.func62,Tryz.ntmps62
  go_wp2_with fail
  refine (valid_i a ss c a' ws c' _ (h.below (hb0 _ _)) (h'.below (hb0 _ _)) hl hl' hs hs').mono ?_
  rw [hok]
  rintro e w1 ⟨rfl,hb1⟩
  have hr:=((B4.new (w.alloc (.cells #[.slice a ss.length c,.slice a' ws.length c'] 44)) (.int .i64 0) (.int .i64 0) (.int .i64 0) (.int .i64 0) 45).below hb1)
  rw [World.size_alloc] at hr
  have HB1:=hid ((hb0 (.cells #[.slice a ss.length c,.slice a' ws.length c'] 44) (.cells #[.int .i64 0,.int .i64 0,.int .i64 0,.int .i64 0] 45)).trans (hb1.mono (by simp<;>omega)))
  clear hb1
  have c0:=hr.c0
  have c1:=hr.c1
  have c2:=hr.c2
  have c3:=hr.c3
  have f0:=hr.f0
  have f1:=hr.f1
  have f2:=hr.f2
  have f3:=hr.f3
  clear hr
  go_wp2_with (first | (go_at_call 57;refine (width_i _ _).mono ?_;rw [hd];rintro e wz ⟨rfl,hwz⟩;rw [hwz];clear hwz wz))
  refine bodyPost_ret (v:=rootV 0 0 0 0) (by simp [results,Tryz.results62,go_sem,c0,c1,c2,c3]) rfl ⟨rfl,?_⟩
  exact (((HB1.out.setCell (by show _<=w.heap.size+1;omega) _).setCell (by show _<=w.heap.size+1;omega) _).setCell (by show _<=w.heap.size+1;omega) _).setCell (by show _<=w.heap.size+1;omega) _
theorem fr_i_yes (a:Option Addr) (ss:List ByteArray) (c:Nat) (a':Option Addr) (ws:List (Int×ByteArray)) (c':Nat) (n:Int) (w:World) (h:Strs w a ss) (h':Wrs w a' ws) (hl:ss.length<=1048576) (hl':ws.length<=1048576) (hs:∀ s∈ss,s.size<=1048576) (hs':∀ x∈ws,x.2.size<=1048576) (ty:TypeId) (v:Value) (hv:w.cell? ⟨1,0,none⟩=some (.iface ty v)) (h0:w.cell? ⟨0,0,none⟩=some (.iface 253 (.agg #[.pointer (some ⟨3,165,none⟩)]))) (hg:1<w.heap.size) (hok:diskOk ss ws=true) (hn:1<=n/\n<=8) :
  Calls Tryz.prog 62 #[diskV a ss.length c a' ws.length c',.int .i64 n] w fun e w'=>e=.returned (rtV (frD ss ws n))/\Below w.heap.size w w':=by
 have hb0:∀ o1 o2,Below w.heap.size w ((w.alloc o1).alloc o2):=fun o1 o2=>((Below.refl _ _).alloc (Nat.le_refl _) _).alloc (by simp) _
 have hd:decide (1<=n/\n<=8)=true:=decide_eq_true hn
 obtain ⟨RES,HRES⟩:∃ RES,Hid (RES=frD ss ws n):=⟨_,hid rfl⟩
 rw [<-HRES.out]
 obtain ⟨⟨hn1,hn2,hn3⟩,h64,hw⟩:=diskOk_of hok
 go_enter Tryz.func62,Tryz.ntmps62
 go_wp2_with fail
 refine (valid_i a ss c a' ws c' _ (h.below (hb0 _ _)) (h'.below (hb0 _ _)) hl hl' hs hs').mono ?_
 rw [hok]
 rintro e w1 ⟨rfl,hb1⟩
 have HX:=hid ((((Cx.new w (.slice a ss.length c) (.slice a' ws.length c') 44)).below (below_new _ (.cells #[.int .i64 0,.int .i64 0,.int .i64 0,.int .i64 0] 45))).below hb1)
 have hr1:=((B4.new (w.alloc (.cells #[.slice a ss.length c,.slice a' ws.length c'] 44)) (.int .i64 0) (.int .i64 0) (.int .i64 0) (.int .i64 0) 45).below hb1)
 rw [World.size_alloc] at hr1
 have HR1:=hid hr1
 have HB1:=hid ((hb0 (.cells #[.slice a ss.length c,.slice a' ws.length c'] 44) (.cells #[.int .i64 0,.int .i64 0,.int .i64 0,.int .i64 0] 45)).trans (hb1.mono (by simp<;>omega)))
 clear hb1 hr1
 have q0:=HX.out.c0
 have q1:=HX.out.c1
 go_wp2_with (first | (go_at_call 57;refine (width_i _ _).mono ?_;rw [hd];rintro e wz ⟨rfl,hwz⟩;rw [hwz];clear hwz wz))
 refine (drv_i a ss c a' ws c' _ (h.below HB1.out) (h'.below HB1.out) hn2 hn3 (fun s hs=>by have:=h64 s hs;omega) (fun x hx=>by have:=of_decide_eq_true (hw x hx);omega)).mono ?_
 rintro e w2 ⟨g,vv,rfl,hpr,hown,hgw,hb2⟩
 clear q0 q1
 obtain ⟨a2,c2,hvv,ho2⟩:∃ a2 c2,vv=.slice a2 (hsOf ws).length c2/\OwnS w2 a2 (hcells (hsOf ws)):=by
  rw [hsOf_length]
  rcases owns_forms hown with ⟨e,h0⟩ | ⟨g2,cap,e,h1,h2,hr⟩
  ·have:ws=[]:=List.eq_nil_of_length_eq_zero h0
   subst this
   exact ⟨none,0,e,.inl rfl⟩
  ·exact ⟨_,cap,e,.inr ⟨g2,rfl,hr⟩⟩
 subst hvv
 have HB2:=hid (Below.then HB1.out (Nat.le_refl _) hb2)
 have HR2:=hid (HR1.out.below hb2)
 clear hb2 hown
 go_wp2_with fail
 refine (rdr _ _ _ _ _ _ _).mono ?_
 rintro e w3 ⟨rfl,hb3⟩
 have HB3:=hid (Below.then HB2.out (Nat.le_refl _) hb3)
 have HR3:=hid (HR2.out.below hb3)
 have HPR:=hid (hpr.below hb3)
 have HO:=hid (ho2.below hb3)
 clear hpr ho2 hb3
 have hh64:∀ p∈hsOf ws,p.2.length=64:=fun p hp=>by
  obtain ⟨x,hx,rfl⟩:=List.mem_map.1 hp
  have:=of_decide_eq_true (hw x hx)
  show (nums x.2).length=64
  rw [nums_length];omega
 have hhld:Hld w3 a2 (hsOf ws):=by
  rcases HO.out with h0 | ⟨g2,rfl,h2⟩
  ·refine .inl (List.eq_nil_of_length_eq_zero ?_)
   have:=congrArg List.length h0
   rw [hcells_length _ hh64,List.length_nil] at this;omega
  ·exact h2.hld hh64
 obtain ⟨X,HXs⟩:∃ X:Nat->List Int,Hid (X=fun m=>(covs (hsOf ws) (ss.map nums)).getD m []):=⟨_,hid rfl⟩
 have HXe:Hid (∀ m:Nat,X m=(covs (hsOf ws) (ss.map nums)).getD m []):=fun m=>by rw [HXs.out]
 have HXL:Hid (∀ m:Nat,m<2->(X m).length=64):=fun m hm=>by
  rw [HXe.out]
  exact getD_len (covs_all _ _ hh64 HPR.out.len) (by rw [covs_length];simp;omega)
 have HXR:Hid (∀ m:Nat,m<2->∀ wx,Below w3.heap.size w3 wx->Calls Tryz.prog 197 #[.agg #[.slice a2 (hsOf ws).length c2,.iface 148 (.slice (some ⟨g,0,none⟩) ss.length ss.length)],.int .i64 (m:Int)] wx fun e w'=>e=.returned (.tuple #[.agg ((X m).map (Value.int .u8)).toArray,.bool true])/\Below wx.heap.size wx w'):=fun m hm wx hb=>by
  rw [HXe.out]
  exact rd_cover a2 (hsOf ws) c2 g ss.length ss.length m (ss.map nums) wx (hhld.below hb) hh64 (fun p hp=>by obtain ⟨y,hy,rfl⟩:=List.mem_map.1 hp;exact (of_decide_eq_true (hw y hy)).1) (by rw [hsOf_length];exact hn3) (HPR.out.below hb) (by simp) hn2 (by omega)
 have HF:Hid (RES=if rtStep (rtStep rtZ ((rootOf (strOfNums (X 0)) 0 n).getD rtZ)) ((rootOf (strOfNums (X 1)) 1 n).getD rtZ)=rtZ then ((0,0,1,0):RtT) else rtStep (rtStep rtZ ((rootOf (strOfNums (X 0)) 0 n).getD rtZ)) ((rootOf (strOfNums (X 1)) 1 n).getD rtZ)):=by
  show _=_
  have hX:∀ m:Nat,m<2->strOfNums (X m)=(syncs ws ss).getD m ByteArray.empty:=fun m hm=>by
   have hrl:m<(covs (hsOf ws) (ss.map nums)).length:=by rw [covs_length];simp;omega
   rw [HXe.out,<-secs_covs]
   simp [secs,List.getD,hrl]
  rw [hX 0 (by omega),hX 1 (by omega),fr_eq,HRES.out]
  unfold frD
  rw [if_pos ⟨hok,hn⟩]
 obtain ⟨cv,HCV⟩:∃ cv,Hid (cv=Value.iface 148 (.slice (some ⟨g,0,none⟩) ss.length ss.length)):=⟨_,hid rfl⟩
 rw [<-HCV.out] at HXR ⊢
 clear HO HPR hhld HR1 HR2 HB1 HB2 HX
 have hwl3:w.heap.size<=w3.heap.size:=HB3.out.size
 have hRl3:=HR3.out.lt
 obtain ⟨A0,HA0⟩:∃ A0,Hid (A0=(rootOf (strOfNums (X 0)) 0 n).getD rtZ):=⟨_,hid rfl⟩
 obtain ⟨A1,HA1⟩:∃ A1,Hid (A1=(rootOf (strOfNums (X 1)) 1 n).getD rtZ):=⟨_,hid rfl⟩
 rw [<-HA0.out,<-HA1.out] at HF
 have HGV:=hid (fun wx (hb:Below w.heap.size w wx)=>((hb.cell (p:=⟨1,0,none⟩) hg).trans hv))
 have HG0:=hid (fun wx (hb:Below w.heap.size w wx)=>((hb.cell (p:=⟨0,0,none⟩) (by show 0<_;omega)).trans h0))
 clear hv h0
 go_wp2_with fail
 have hbx:=B4.new w3 (.int .i64 0) (.int .i64 0) (.int .i64 0) (.int .i64 0) 45
 have hbw:Below w3.heap.size w3 (w3.alloc (.cells #[.int .i64 0,.int .i64 0,.int .i64 0,.int .i64 0] 45)):=(Below.refl _ _).alloc (Nat.le_refl _) _
 have hsb:(w3.alloc (.cells #[.int .i64 0,.int .i64 0,.int .i64 0,.int .i64 0] 45)).heap.size=w3.heap.size+1:=by simp
 obtain ⟨wb,HWB⟩:∃ wb,wb=w3.alloc (.cells #[.int .i64 0,.int .i64 0,.int .i64 0,.int .i64 0] 45):=⟨_,rfl⟩
 rw [<-HWB] at hbx hbw hsb ⊢
 have HBX:=hid hbx
 have HBW:=hid hbw
 have HRB:=hid (HR3.out.below hbw)
 have HBB:=hid (HB3.out.trans (hbw.mono HB3.out.size))
 clear HWB hbx hbw HR3 HB3
 go_loopw [21] (fun i wr=>∃ (k:Nat) (b:RtT),k<=2/\i=.int .i64 (k:Int)/\Hid ((k=0->b=rtZ)/\(k=1->b=rtStep rtZ A0)/\(k=2->b=rtStep (rtStep rtZ A0) A1))/\Below w3.heap.size wb wr/\B4 wr w3.heap.size (.int .i64 b.1) (.int .i64 b.2.1) (.int .i64 b.2.2.1) (.int .i64 b.2.2.2)) (fun i _=>2-(intOf i).toNat)
 case atStart=>exact ⟨0,rtZ,by omega,rfl,⟨fun _=>rfl,fun h=>absurd h (by decide),fun h=>absurd h (by decide)⟩,Below.refl _ _,HBX.out⟩
 case round =>
  obtain ⟨k,⟨b0,b1,b2,b3⟩,hk,rfl,HBk,hbel,hbest⟩:=hrel
  have HBEL:=hid hbel
  have HBST:=hid hbest
  have hbl:=hbel.size
  by_cases hlt:k<2
  ·have hlt':(k:Int)<2:=by omega
   have HBW2:=hid (HBB.out.trans (hbel.mono (by omega)))
   have HW3:=hid (HBW.out.trans (hbel.mono (Nat.le_refl _)))
   clear hbel hbest
   obtain ⟨r,HRr⟩:∃ r:RtT,Hid (r=(rootOf (strOfNums (X k)) (k:Int) n).getD rtZ):=⟨_,hid rfl⟩
   have HNX:Hid (∀ b':RtT,b'=rtStep (b0,b1,b2,b3) r->(k+1=0->b'=rtZ)/\(k+1=1->b'=rtStep rtZ A0)/\(k+1=2->b'=rtStep (rtStep rtZ A0) A1)):=fun b' hb'=>by
    refine ⟨fun h=>absurd h (by omega),fun h=>?_,fun h=>?_⟩
    ·have hk0:k=0:=by omega
     subst hk0
     rw [hb',HBk.out.1 rfl,HRr.out,HA0.out]
     rfl
    ·have hk1:k=1:=by omega
     subst hk1
     rw [hb',HBk.out.2.1 rfl,HRr.out,HA1.out]
     rfl
   have HRT:=hid (rootat_i (.slice a2 (hsOf ws).length c2) cv (X k) (k:Int) n wr (by omega) (HXL.out k hlt) (fun wx hb=>HXR.out k hlt wx (HW3.out.trans (hb.mono (by have:=HW3.out.size;omega)))) ty v (HGV.out _ HBW2.out) (HG0.out _ HBW2.out) (by have:=HBW2.out.size;omega))
   rw [<-HRr.out] at HRT
   obtain ⟨t,h9,f,l⟩:=r
   go_wp2_with fail
   refine HRT.out.mono ?_
   rintro e w5 ⟨rfl,hb5⟩
   have HB5:=hid (HBEL.out.trans (hb5.mono (by omega)))
   have HT5:=hid (HBST.out.below hb5)
   have hs5:=hb5.size
   clear hb5 HBEL HBST HRT
   have c0:=fun o=>(HT5.out.alloc o).c0
   have c1:=fun o=>(HT5.out.alloc o).c1
   have c2:=fun o=>(HT5.out.alloc o).c2
   have c3:=fun o=>(HT5.out.alloc o).c3
   have f0:=fun o=>(HT5.out.alloc o).f0
   have f1:=fun o=>(HT5.out.alloc o).f1
   have f2:=fun o=>(HT5.out.alloc o).f2
   have f3:=fun o=>(HT5.out.alloc o).f3
   have HBA:=hid (fun o=>HB5.out.alloc (by omega) o)
   by_cases hgt:b0<t
   ·have hm:=HNX.out (t,h9,f,l) (by simp [rtStep,hgt])
    have HM:=hid hm
    clear hm
    go_wp2
    go_roundw
    case rel=>exact ⟨k+1,(t,h9,f,l),by omega,by go_num,HM.out,((((HBA.out _).setCell (Nat.le_refl _) _).setCell (Nat.le_refl _) _).setCell (Nat.le_refl _) _).setCell (Nat.le_refl _) _,(HT5.out.alloc _).set4 _ _ _ _⟩
    case measure=>simp [intOf];omega
   ·have hm:=HNX.out (b0,b1,b2,b3) (by simp [rtStep,hgt])
    have HM:=hid hm
    clear hm
    go_wp2
    go_roundw
    case rel=>exact ⟨k+1,(b0,b1,b2,b3),by omega,by go_num,HM.out,HBA.out _,HT5.out.alloc _⟩
    case measure=>simp [intOf];omega
  ·have hk2:k=2:=by omega
   subst hk2
   have HE:Hid (RES=if ((b0,b1,b2,b3):RtT)=rtZ then (0,0,1,0) else (b0,b1,b2,b3)):=by
    show _=_
    rw [HF.out,<-HBk.out.2.2 rfl]
   have hr:=HRB.out.past (N:=w3.heap.size) hRl3 hbel
   have c0:=hr.c0
   have c1:=hr.c1
   have c2:=hr.c2
   have c3:=hr.c3
   have f0:=hr.f0
   have f1:=hr.f1
   have f2:=hr.f2
   have f3:=hr.f3
   have d0:=hbest.c0
   have d1:=hbest.c1
   have d2:=hbest.c2
   have d3:=hbest.c3
   have HBZ:=hid (HBB.out.trans (hbel.mono (by omega)))
   clear hr hbel hbest
   by_cases hz:((b0,b1,b2,b3):RtT)=rtZ
   ·have HE2:Hid (RES=(0,0,1,0)):=by show _=_;rw [HE.out,if_pos hz]
    have z0:b0=0:=congrArg (fun x:RtT=>x.1) hz
    have z1:b1=0:=congrArg (fun x:RtT=>x.2.1) hz
    have z2:b2=0:=congrArg (fun x:RtT=>x.2.2.1) hz
    have z3:b3=0:=congrArg (fun x:RtT=>x.2.2.2) hz
    clear hz HE
    subst z0 z1 z2 z3
    go_wp2
    refine bodyPost_ret (v:=rootV 0 0 1 0) (by simp [results,Tryz.results62,go_sem,c0,c1,c2,c3]) rfl ⟨by rw [HE2.out],?_⟩
    exact (((HBZ.out.setCell (by show _<=w.heap.size+1;omega) _).setCell (by show _<=w.heap.size+1;omega) _).setCell (by show _<=w.heap.size+1;omega) _).setCell (by show _<=w.heap.size+1;omega) _
   ·have HE2:Hid (RES=(b0,b1,b2,b3)):=by show _=_;rw [HE.out,if_neg hz]
    have hz4:¬ (b0=0/\b1=0/\b2=0/\b3=0):=fun h=>hz (by rw [h.1,h.2.1,h.2.2.1,h.2.2.2];rfl)
    clear hz HE
    go_wp2
    all_goals first
     | (exfalso;omega)
     | (refine bodyPost_ret (v:=rootV b0 b1 b2 b3) (by simp [results,Tryz.results62,go_sem,c0,c1,c2,c3]<;>omega) rfl ⟨by rw [HE2.out],?_⟩;exact (((HBZ.out.setCell (by show _<=w.heap.size+1;omega) _).setCell (by show _<=w.heap.size+1;omega) _).setCell (by show _<=w.heap.size+1;omega) _).setCell (by show _<=w.heap.size+1;omega) _)
theorem fr_i (a:Option Addr) (ss:List ByteArray) (c:Nat) (a':Option Addr) (ws:List (Int×ByteArray)) (c':Nat) (n:Int) (w:World) (h:Strs w a ss) (h':Wrs w a' ws) (hl:ss.length<=1048576) (hl':ws.length<=1048576) (hs:∀ s∈ss,s.size<=1048576) (hs':∀ x∈ws,x.2.size<=1048576) (ty:TypeId) (v:Value) (hv:w.cell? ⟨1,0,none⟩=some (.iface ty v)) (h0:w.cell? ⟨0,0,none⟩=some (.iface 253 (.agg #[.pointer (some ⟨3,165,none⟩)]))) (hg:1<w.heap.size) :
  Calls Tryz.prog 62 #[diskV a ss.length c a' ws.length c',.int .i64 n] w fun e w'=>e=.returned (rtV (frD ss ws n))/\Below w.heap.size w w':=by
 by_cases hy:diskOk ss ws=true/\1<=n/\n<=8
 ·exact fr_i_yes a ss c a' ws c' n w h h' hl hl' hs hs' ty v hv h0 hg hy.1 hy.2
 ·have e:frD ss ws n=rtZ:=by unfold frD;rw [if_neg hy]
  rw [e]
  exact fr_i_no a ss c a' ws c' n w h h' hl hl' hs hs' hy
end Go.Proofs.YtcoegjnjjdndjaaGreatDoor
