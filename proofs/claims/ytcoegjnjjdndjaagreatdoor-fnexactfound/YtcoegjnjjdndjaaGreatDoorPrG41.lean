import Derived.Deep.RegionHeld
import Derived.Test.YtcoegjnjjdndjaaGreatDoorPrG40
import Derived.Test.YtcoegjnjjdndjaaGreatDoorPrG49
set_option maxHeartbeats 16000000
set_option maxRecDepth 8000
set_option linter.unusedVariables false
set_option linter.unusedSimpArgs false
namespace Go.Proofs.YtcoegjnjjdndjaaGreatDoor
open Go.RowKit
structure B4 (w:World) (B:Nat) (v0 v1 v2 v3:Value):Prop where
 lt:B<w.heap.size
 c0:w.cell? ⟨B,0,none⟩=some v0
 c1:w.cell? ⟨B,1,none⟩=some v1
 c2:w.cell? ⟨B,2,none⟩=some v2
 c3:w.cell? ⟨B,3,none⟩=some v3
 f0:w.frozen? ⟨B,0,none⟩=false
 f1:w.frozen? ⟨B,1,none⟩=false
 f2:w.frozen? ⟨B,2,none⟩=false
 f3:w.frozen? ⟨B,3,none⟩=false
section
variable {w w':World} {B:Nat} {v0 v1 v2 v3:Value}
theorem B4.past (h:B4 w B v0 v1 v2 v3) {N:Nat} (hN:B<N) (hb:Below N w w'):B4 w' B v0 v1 v2 v3:=by
 have hc:∀ i,w'.cell? ⟨B,i,none⟩=w.cell? ⟨B,i,none⟩:=fun i=>hb.cell (p:=⟨B,i,none⟩) hN
 have hf:∀ i,w'.frozen? ⟨B,i,none⟩=w.frozen? ⟨B,i,none⟩:=fun i=>hb.frozen (p:=⟨B,i,none⟩) hN
 exact ⟨Nat.lt_of_lt_of_le h.lt hb.size,(hc _).trans h.c0,(hc _).trans h.c1,(hc _).trans h.c2,(hc _).trans h.c3,(hf _).trans h.f0,(hf _).trans h.f1,(hf _).trans h.f2,(hf _).trans h.f3⟩
theorem B4.below (h:B4 w B v0 v1 v2 v3) (hb:Below w.heap.size w w'):B4 w' B v0 v1 v2 v3:=h.past h.lt hb
theorem B4.drew (h:B4 w B v0 v1 v2 v3):B4 w.drew B v0 v1 v2 v3:=⟨h.lt,h.c0,h.c1,h.c2,h.c3,h.f0,h.f1,h.f2,h.f3⟩
theorem B4.alloc (h:B4 w B v0 v1 v2 v3) (o:Obj):B4 (w.alloc o) B v0 v1 v2 v3:=h.below ((Below.refl _ _).alloc (Nat.le_refl _) _)
theorem B4.new (w:World) (v0 v1 v2 v3:Value) (t:TypeId):B4 (w.alloc (.cells #[v0,v1,v2,v3] t)) w.heap.size v0 v1 v2 v3:=by
 refine ⟨by simp,?_,?_,?_,?_,?_,?_,?_,?_⟩<;>first | (simp;done) | (rw [frozen?_alloc_cells];exact frozen_past _ _ _ (Nat.le_refl _))
end
def cvl (w:World) (p:Addr):Value:=(w.cell? p).getD (.int .i64 0)
theorem cvl_some {w:World} {p:Addr} (h:(w.cell? p).isSome=true):w.cell? p=some (cvl w p):=by
 unfold cvl
 cases e:w.cell? p with
 | none=>rw [e] at h;exact absurd h (by simp)
 | some v=>rfl
theorem cvl_is {w:World} {p:Addr} {v:Value} (h:w.cell? p=some v):(w.cell? p).isSome=true:=by rw [h];rfl
def KR (W:World) (R B:Nat) (v0 v1 v2 v3:Value) (w:World):Prop :=
 w.cell? ⟨B,0,none⟩=some v0/\w.cell? ⟨B,1,none⟩=some v1/\w.cell? ⟨B,2,none⟩=some v2/\w.cell? ⟨B,3,none⟩=some v3/\w.cell? ⟨R,0,none⟩=some (cvl w ⟨R,0,none⟩)/\w.cell? ⟨R,1,none⟩=some (cvl w ⟨R,1,none⟩)/\w.cell? ⟨R,2,none⟩=some (cvl w ⟨R,2,none⟩)/\w.cell? ⟨R,3,none⟩=some (cvl w ⟨R,3,none⟩)/\w.frozen? ⟨R,0,none⟩=false/\w.frozen? ⟨R,1,none⟩=false/\w.frozen? ⟨R,2,none⟩=false/\w.frozen? ⟨R,3,none⟩=false/\Below W.heap.size W w/\R<w.heap.size/\B<w.heap.size/\R≠B/\W.heap.size<=R
section
variable {W w w':World} {R B:Nat} {v0 v1 v2 v3 u0 u1 u2 u3:Value}
theorem KR.of (hB:B4 w B v0 v1 v2 v3) (hR:B4 w R u0 u1 u2 u3) (hb:Below W.heap.size W w) (hne:R≠B) (hW:W.heap.size<=R):KR W R B v0 v1 v2 v3 w :=
 ⟨hB.c0,hB.c1,hB.c2,hB.c3,cvl_some (cvl_is hR.c0),cvl_some (cvl_is hR.c1),cvl_some (cvl_is hR.c2),cvl_some (cvl_is hR.c3),hR.f0,hR.f1,hR.f2,hR.f3,hb,hR.lt,hB.lt,hne,hW⟩
theorem KR.below (h:KR W R B v0 v1 v2 v3 w) (hb:Below w.heap.size w w'):KR W R B v0 v1 v2 v3 w':=by
 obtain ⟨a0,a1,a2,a3,c0,c1,c2,c3,f0,f1,f2,f3,hW,hR,hB,hne,hle⟩:=h
 have cR:∀ i,w'.cell? ⟨R,i,none⟩=w.cell? ⟨R,i,none⟩:=fun i=>hb.cell (p:=⟨R,i,none⟩) hR
 have cB:∀ i,w'.cell? ⟨B,i,none⟩=w.cell? ⟨B,i,none⟩:=fun i=>hb.cell (p:=⟨B,i,none⟩) hB
 have fR:∀ i,w'.frozen? ⟨R,i,none⟩=w.frozen? ⟨R,i,none⟩:=fun i=>hb.frozen (p:=⟨R,i,none⟩) hR
 exact ⟨(cB _).trans a0,(cB _).trans a1,(cB _).trans a2,(cB _).trans a3,cvl_some (by rw [cR];exact cvl_is c0),cvl_some (by rw [cR];exact cvl_is c1),cvl_some (by rw [cR];exact cvl_is c2),cvl_some (by rw [cR];exact cvl_is c3),(fR _).trans f0,(fR _).trans f1,(fR _).trans f2,(fR _).trans f3,hW.trans (hb.mono (Nat.le_trans hle (Nat.le_of_lt hR))),Nat.lt_of_lt_of_le hR hb.size,Nat.lt_of_lt_of_le hB hb.size,hne,hle⟩
theorem KR.drew (h:KR W R B v0 v1 v2 v3 w):KR W R B v0 v1 v2 v3 w.drew:=h.below ((Below.refl _ _).drew)
theorem KR.set (h:KR W R B v0 v1 v2 v3 w) (j:Nat) (v:Value):KR W R B v0 v1 v2 v3 (w.setCell ⟨R,j,none⟩ v):=by
 obtain ⟨a0,a1,a2,a3,c0,c1,c2,c3,f0,f1,f2,f3,hW,hR,hB,hne,hle⟩:=h
 have hs:∀ p,(w.cell? p).isSome=true->((w.setCell ⟨R,j,none⟩ v).cell? p).isSome=true:=fun p hp=>by
  by_cases e:(⟨R,j,none⟩:Addr)=p
  ·subst e
   obtain ⟨u,hu⟩:=Option.isSome_iff_exists.1 hp
   rw [World.cell?_setCell_same (w:=w) (h:=hu)];rfl
  ·rw [World.cell?_setCell_other (w:=w) (h:=e)];exact hp
 have cB:∀ i,(w.setCell ⟨R,j,none⟩ v).cell? ⟨B,i,none⟩=w.cell? ⟨B,i,none⟩:=fun i=>World.cell?_setCell_far _ _ _ _ hne
 exact ⟨(cB _).trans a0,(cB _).trans a1,(cB _).trans a2,(cB _).trans a3,cvl_some (hs _ (cvl_is c0)),cvl_some (hs _ (cvl_is c1)),cvl_some (hs _ (cvl_is c2)),cvl_some (hs _ (cvl_is c3)),by rw [World.frozen?_setCell];exact f0,by rw [World.frozen?_setCell];exact f1,by rw [World.frozen?_setCell];exact f2,by rw [World.frozen?_setCell];exact f3,hW.setCell hle _,by rw [World.size_setCell];exact hR,by rw [World.size_setCell];exact hB,hne,hle⟩
end
end Go.Proofs.YtcoegjnjjdndjaaGreatDoor
namespace Go.Proofs.YtcoegjnjjdndjaaGreatDoor
open Go.RowKit
structure RI (W w:World) (c0 c1 c2 c3:Value):Prop where
 size:W.heap.size+2<=w.heap.size
 bel:Below W.heap.size W w
 b0:w.cell? ⟨W.heap.size,0,none⟩=some c0
 b1:w.cell? ⟨W.heap.size,1,none⟩=some c1
 b2:w.cell? ⟨W.heap.size,2,none⟩=some c2
 b3:w.cell? ⟨W.heap.size,3,none⟩=some c3
section
variable {W w w':World} {c0 c1 c2 c3:Value}
theorem RI.drew (h:RI W w c0 c1 c2 c3):RI W w.drew c0 c1 c2 c3:=⟨h.size,h.bel.drew,h.b0,h.b1,h.b2,h.b3⟩
theorem RI.past (h:RI W w c0 c1 c2 c3) (hb:Below (W.heap.size+1) w w'):RI W w' c0 c1 c2 c3 :=
 have hs:=h.size
 ⟨Nat.le_trans hs hb.size,h.bel.trans (hb.mono (by omega)),(hb.cell (p:=⟨_,0,none⟩) (by show W.heap.size<_;omega)).trans h.b0,(hb.cell (p:=⟨_,1,none⟩) (by show W.heap.size<_;omega)).trans h.b1,
  (hb.cell (p:=⟨_,2,none⟩) (by show W.heap.size<_;omega)).trans h.b2,(hb.cell (p:=⟨_,3,none⟩) (by show W.heap.size<_;omega)).trans h.b3⟩
theorem RI.below (h:RI W w c0 c1 c2 c3) (hb:Below w.heap.size w w'):RI W w' c0 c1 c2 c3:=h.past (hb.mono (by have:=h.size;omega))
theorem RI.wrote {o:Nat} {ys:List Int} (h:RI W w c0 c1 c2 c3) (hw:Wrote w w' (W.heap.size+1) o ys):RI W w' c0 c1 c2 c3:=h.past (hw.below (Nat.le_refl _))
theorem RI.toS (h:RI W w c0 c1 c2 c3):w.cell? ⟨W.heap.size,0,none⟩=some c0/\w.cell? ⟨W.heap.size,1,none⟩=some c1/\w.cell? ⟨W.heap.size,2,none⟩=some c2/\w.cell? ⟨W.heap.size,3,none⟩=some c3/\RI W w c0 c1 c2 c3:=⟨h.b0,h.b1,h.b2,h.b3,h⟩
theorem RI.ofS (h:w.cell? ⟨W.heap.size,0,none⟩=some c0/\w.cell? ⟨W.heap.size,1,none⟩=some c1/\w.cell? ⟨W.heap.size,2,none⟩=some c2/\w.cell? ⟨W.heap.size,3,none⟩=some c3/\RI W w c0 c1 c2 c3):RI W w c0 c1 c2 c3:=h.2.2.2.2
end
theorem wp_start5 {P:Program} {c:Code} {Q:Exit->Act->World->Prop} {a:Act} (w:World) (c0 c1 c2 c3:Value) (t1 t2:TypeId)
  (h:∀ wa,RI w wa c0 c1 c2 c3->Fm wa (w.heap.size+1) [0,0,0,0,0]->c.wp P Q a wa) :
  c.wp P Q a ((w.alloc (.cells #[c0,c1,c2,c3] t1)).alloc (.cells #[.int .u8 0,.int .u8 0,.int .u8 0,.int .u8 0,.int .u8 0] t2)):=by
 refine h _ ⟨by simp,((Below.refl _ _).alloc (Nat.le_refl _) _).alloc (by simp) _,by simp,by simp,by simp,by simp⟩ ⟨fun i hi=>?_,fun i hi=>?_⟩
 ·rw [World.cell?_alloc_at _ _ _ _ (by simp)]
  have hi':i<5:=hi
  have:i=0\/i=1\/i=2\/i=3\/i=4:=by omega
  rcases this with h | h | h | h | h<;>subst h<;>rfl
 ·rw [frozen?_alloc_cells,frozen?_alloc_cells]
  exact frozen_past _ _ _ (by omega)
theorem rt_list (h f:Int) {xs1 xs2:List Int} (h1:xs1=spl [0,0,0,0,0] 0 (be 1 h)) (h2:xs2=spl xs1 1 (be 4 f)):strOfNums xs2=rtPart h f:=by
 have a1:(be 1 h).length=1:=be_length _ _
 have a2:(be 4 f).length=4:=be_length _ _
 unfold rtPart
 rw [<-strOfNums_append]
 subst h1 h2
 congr 1
theorem rootpage_i_no (t h f l n:Int) (w:World) (hno:¬ rtOk h f):Calls Tryz.prog 149 #[rootV t h f l,.int .i64 n] w fun e w'=>e=.returned (.string ByteArray.empty)/\Below w.heap.size w w':=by
 have hb0:∀ o,Below w.heap.size w (w.alloc o):=fun o=>(Below.refl _ _).alloc (Nat.le_refl _) _
 unfold rtOk at hno
 by_cases d1:0<=h/\h<=1
 ·have d1':decide (0<=h/\h<=1)=true:=decide_eq_true d1
  have d2':decide (1<=f/\f<=999999000)=false:=by simp;omega
  clear hno d1
  go_enter Tryz.func149,Tryz.ntmps149
  go_wp2_with (first | (go_at_call 144;refine (half_i _ _).mono ?_;rw [d1'];rintro e w1 ⟨rfl,rfl⟩) | (go_at_call 145;refine (first_i _ _).mono ?_;rw [d2'];rintro e w2 ⟨rfl,rfl⟩))
  go_ret
  exact ⟨rfl,hb0 _⟩
 ·have d1':decide (0<=h/\h<=1)=false:=decide_eq_false d1
  clear hno d1
  go_enter Tryz.func149,Tryz.ntmps149
  go_wp2_with (first | (go_at_call 144;refine (half_i _ _).mono ?_;rw [d1'];rintro e w1 ⟨rfl,rfl⟩))
  go_ret
  exact ⟨rfl,hb0 _⟩
set_option maxRecDepth 4000 in
set_option maxHeartbeats 16000000 in
theorem rootpage_i_ok (t h f l n:Int) (w:World) (hok:rtOk h f):Calls Tryz.prog 149 #[rootV t h f l,.int .i64 n] w fun e w'=>e=.returned (.string (formOf 4 l t (rtPart h f) n))/\Below w.heap.size w w':=by
 obtain ⟨h1,h2,h3,h4⟩:=hok
 have d1:decide (0<=h/\h<=1)=true:=by simp;omega
 have d2:decide (1<=f/\f<=999999000)=true:=by simp;omega
 have u1:IntKind.u64.wrap h=h:=wrap_u64_id h (by omega) (by omega)
 have u2:IntKind.u64.wrap f=f:=wrap_u64_id f (by omega) (by omega)
 obtain ⟨pt,HPT⟩:∃ pt,Hid (pt=rtPart h f):=⟨_,hide rfl⟩
 rw [<-HPT.out]
 go_enter Tryz.func149,Tryz.ntmps149
 go_wp2_with (first | (go_at_call 144;refine (half_i _ _).mono ?_;rw [d1];rintro e w1 ⟨rfl,rfl⟩) | (go_at_call 145;refine (first_i _ _).mono ?_;rw [d2];rintro e w2 ⟨rfl,rfl⟩))
 refine wp_start5 w (.int .i64 t) (.int .i64 h) (.int .i64 f) (.int .i64 l) _ _ ?_
 intro wa hpi0 hfm0
 have HS0:=hide hpi0.toS
 clear hpi0
 go_region_held3 (fun w'=>w'.cell? ⟨w.heap.size,0,none⟩=some (.int .i64 t)/\w'.cell? ⟨w.heap.size,1,none⟩=some (.int .i64 h)/\w'.cell? ⟨w.heap.size,2,none⟩=some (.int .i64 f)/\w'.cell? ⟨w.heap.size,3,none⟩=some (.int .i64 l)/\RI w w' (.int .i64 t) (.int .i64 h) (.int .i64 f) (.int .i64 l))
  (first | assumption | exact (RI.ofS HS0.out).drew.toS | exact (RI.wrote (RI.ofS (by assumption)) (by assumption)).toS)
  (first | (go_at_call 162;refine (put_any (w.heap.size+1) 0 1 5 h _ (by omega) (by omega) (by omega) (fun i hi=>⟨_,hfm0.drew.cell (0+i) (by simp;omega)⟩) (fun i hi=>hfm0.drew.froz (0+i) (by simp;omega))).mono ?_;rintro e wb ⟨rfl,hw0⟩))
 have hpi1:RI w wb (.int .i64 t) (.int .i64 h) (.int .i64 f) (.int .i64 l):=RI.ofS (by assumption)
 have hfm1:=hfm0.drew.wrote hw0 (by rw [be_length];simp)
 obtain ⟨xs1,HX1⟩:∃ xs1,Hid (xs1=spl [0,0,0,0,0] 0 (be 1 h)):=⟨_,hide rfl⟩
 have hl1:xs1.length=5:=by rw [HX1.out,spl_length _ _ _ (by rw [be_length];simp)];rfl
 rw [<-HX1.out] at hfm1
 clear HS0 hw0 hfm0
 go_wp2_with fail
 have HS1:=hide hpi1.toS
 clear hpi1
 go_region_held3 (fun w'=>w'.cell? ⟨w.heap.size,0,none⟩=some (.int .i64 t)/\w'.cell? ⟨w.heap.size,1,none⟩=some (.int .i64 h)/\w'.cell? ⟨w.heap.size,2,none⟩=some (.int .i64 f)/\w'.cell? ⟨w.heap.size,3,none⟩=some (.int .i64 l)/\RI w w' (.int .i64 t) (.int .i64 h) (.int .i64 f) (.int .i64 l))
  (first | assumption | exact (RI.ofS HS1.out).drew.toS | exact (RI.wrote (RI.ofS (by assumption)) (by assumption)).toS)
  (first | (go_at_call 162;refine (put_any (w.heap.size+1) 1 4 4 f _ (by omega) (by omega) (by omega) (fun i hi=>⟨_,hfm1.drew.cell (1+i) (by rw [hl1];omega)⟩) (fun i hi=>hfm1.drew.froz (1+i) (by rw [hl1];omega))).mono ?_;rintro e wc ⟨rfl,hw1⟩))
 have hpi2:RI w wc (.int .i64 t) (.int .i64 h) (.int .i64 f) (.int .i64 l):=RI.ofS (by assumption)
 have hfm2:=hfm1.drew.wrote hw1 (by rw [be_length,hl1];omega)
 obtain ⟨xs2,HX2⟩:∃ xs2,Hid (xs2=spl xs1 1 (be 4 f)):=⟨_,hide rfl⟩
 have hl2:xs2.length=5:=by rw [HX2.out,spl_length _ _ _ (by rw [be_length,hl1];omega),hl1]
 rw [<-HX2.out] at hfm2
 have hPt:strOfNums xs2=rtPart h f:=rt_list h f HX1.out HX2.out
 rw [<-HPT.out] at hPt
 have hpz:pt.size<=1048576:=by rw [<-hPt,strOfNums_size,hl2];omega
 have hcv:∀ wx,Fm wx (w.heap.size+1) xs2->(convert 158 9 (.slice (some ⟨w.heap.size+1,0,none⟩) 5 5)).run Tryz.prog wx=.ok (.string pt) wx:=fun wx hf=>by
  have:=hf.text (P:=Tryz.prog) 158 5 9 Tryz.underlying158 Tryz.underlying5 Tryz.underlying9 0 5 5 (by omega)
  rw [List.drop_zero,List.take_of_length_le (by omega),hPt] at this
  exact this
 have HCV:=hide hcv
 have HFM:=hide hfm2
 clear HS1 hw1 hfm1 hfm2 hcv
 go_wp2_with fail
 have HS2:=hide hpi2.toS
 clear hpi2
 have hFl:w.heap.size+1<wc.heap.size:=by have:=(RI.ofS HS2.out).size;omega
 go_region_held3 (fun w'=>(convert 158 9 (.slice (some ⟨w.heap.size+1,0,none⟩) 5 5)).run Tryz.prog w'=.ok (.string pt) w'/\w'.cell? ⟨w.heap.size,0,none⟩=some (.int .i64 t)/\w'.cell? ⟨w.heap.size,3,none⟩=some (.int .i64 l)/\RI w w' (.int .i64 t) (.int .i64 h) (.int .i64 f) (.int .i64 l))
  (first | assumption | exact ⟨HCV.out _ HFM.out.drew,(RI.ofS HS2.out).drew.b0,(RI.ofS HS2.out).drew.b3,(RI.ofS HS2.out).drew⟩ | exact ⟨HCV.out _ (HFM.out.drew.below hb4 hFl),((RI.ofS HS2.out).drew.below hb4).b0,((RI.ofS HS2.out).drew.below hb4).b3,(RI.ofS HS2.out).drew.below hb4⟩)
  (first | (go_at_call 151;refine (form_i_any 4 l t pt n _ hpz).mono ?_;rintro e w4 ⟨rfl,hb4⟩))
 rename_i hSl
 have hbl:=hSl.2.2.2.bel
 clear hSl
 go_wp2
 go_ret
 exact ⟨rfl,hbl⟩
theorem rootpage_i_any (t h f l n:Int) (w:World):Calls Tryz.prog 149 #[rootV t h f l,.int .i64 n] w fun e w'=>e=.returned (.string (rtForm t h f l n))/\Below w.heap.size w w':=by
 unfold rtForm
 by_cases hok:rtOk h f
 ·rw [if_pos hok];exact rootpage_i_ok t h f l n w hok
 ·rw [if_neg hok];exact rootpage_i_no t h f l n w hok
end Go.Proofs.YtcoegjnjjdndjaaGreatDoor
namespace Go.Proofs.YtcoegjnjjdndjaaGreatDoor
open Go.RowKit
theorem part_short (s r:ByteArray) (a m:Nat) (h:r=s.extract a s.size) (hm:r.size<=m):r=s.extract a (a+m):=extract_all s r a m h hm
theorem rest_short (s r:ByteArray) (a m:Nat) (h:r=s.extract a s.size) (hm:r.size<=m):ByteArray.empty=s.extract (a+m) s.size:=by
 subst h
 simp only [ByteArray.size_extract] at hm
 apply ByteArray.ext
 symm
 apply Array.eq_empty_of_size_eq_zero
 show (ByteArray.size _)=0
 simp only [ByteArray.size_extract]
 omega
theorem last_iff (s r:ByteArray) (k m N:Nat) (hN:N=nparts s.size m) (hm:0<m) (hk:k<N) (h:r=s.extract (k*m) s.size):r.size<=m<->k+1=N:=by
 subst h
 rw [hN] at hk ⊢
 rw [<-nparts_last s.size m k hm hk]
 simp only [ByteArray.size_extract,Nat.add_mul,Nat.one_mul]
 omega
theorem pageOk_cut (K l x:Int) (p:ByteArray) (n m:Nat) (hm:n+m=56) (h1:1<=n) (h2:n<=8) (hK:K=1\/K=2) (hp:p.size<=m):pageOk K l x p (n:Int)=decide (1<=l/\l<=60000/\1<=x/\x<=1000000000):=by
 unfold pageOk
 apply decide_eq_decide.2
 rcases hK with rfl | rfl<;>constructor<;>intro h<;>omega
theorem notall {f:Int} {k:Nat} (l:Int) (P:Nat->Prop) (h:∀ j,j<k->1<=l/\l<=60000/\1<=f+(j:Int)/\f+(j:Int)<=1000000000) (hf1:-9223372036854775808<=f) (hf2:f<=9223372036854775807) (hk:k<=1048577):-9223372036854775808<=f+(k:Int)/\f+(k:Int)<=9223372036854775807:=by
 rcases Nat.eq_zero_or_pos k with h0 | h0
 ·subst h0;simp;omega
 ·have:=h 0 h0;simp at this;omega
theorem formOf_empty (k l m:Int) (p:ByteArray) (n:Int):(formOf k l m p n).toList.isEmpty=!pageOk k l m p n:=by
 rw [isEmpty_size]
 unfold formOf
 cases h:pageOk k l m p n with
 | false=>simp
 | true =>
  simp only [if_true]
  have hp:1<=n/\n<=8/\(p.size:Int)<=56-n:=by unfold pageOk at h;simp at h;omega
  rw [pageForm_size k l m p n.toNat (by omega)]
  rfl
set_option maxRecDepth 4000 in
set_option maxHeartbeats 16000000 in
theorem cut_i (s:ByteArray) (l f:Int) (n m:Nat) (w:World) (hs:s.size<=1048576) (hm:n+m=56) (h1:1<=n) (h2:n<=8) (hf1:-9223372036854775808<=f) (hf2:f<=9223372036854775807) :
  Calls Tryz.prog 160 #[.string s,.int .i64 l,.int .i64 f,.int .i64 (n:Int)] w fun e w'=>NewS w w' e (cutAll s l f n m):=by
 obtain ⟨N,HN⟩:∃ N,Hid (N=nparts s.size m):=⟨_,hid rfl⟩
 have hN1:N<=1048577:=by have:=nparts_le s.size m;rw [HN.out];omega
 have hN0:0<N:=by rw [HN.out];exact nparts_pos _ _
 have HNP:Hid (npages s.size (n:Int)=(N:Int)):=by
  show _=_
  unfold npages
  rw [if_pos (by omega),HN.out,show (56-(n:Int)).toNat=m by omega]
 obtain ⟨R,HR⟩:∃ R,Hid (R=cutAll s l f n m):=⟨_,hid rfl⟩
 rw [<-HR.out]
 obtain ⟨i0,hi0,hz0,hz1,hz2⟩:=info_parts infoStr'
 have HI:=hid (And.intro hi0 (And.intro hz0 (And.intro hz1 hz2)))
 clear hi0 hz0 hz1 hz2
 go_enter Tryz.func160,Tryz.ntmps160
 go_wp2_with (first | (go_at_call 142;refine (pages_i s n _ hs).mono ?_;rw [HNP.out];rintro e w2 ⟨rfl,hb2⟩))
 go_loopw [0,9,10,11,12,13,17] (fun x y _ _ _ _ i wr=>∃ (k:Nat) (r:ByteArray),k<=N/\i=.int .i64 k/\x=.string r/\Hid (r=s.extract (k*m) s.size)/\r.size<=1048576/\Hid (∀ j,j<k->1<=l/\l<=60000/\1<=f+(j:Int)/\f+(j:Int)<=1000000000)/\wr.ownsRow w.heap.size 9 1 y k ((cutList s l f n m N k).map Value.string)/\Below w.heap.size w wr) (fun _ _ _ _ _ _ i _=>N-(intOf i).toNat)
 case atStart=>exact ⟨0,s,Nat.zero_le _,rfl,rfl,by show s=_;simp,hs,fun j hj=>by omega,World.ownsRow_nil _ _ _ _,hb2⟩
 case round =>
  obtain ⟨k,r,hk,rfl,rfl,HX,hrz,HOK,hown,hbel⟩:=hrel
  by_cases hlt:k<N
  ·have hsz:w.heap.size<=wr.heap.size:=hbel.size
   have HB:=hid hbel
   have HOWN:=hid hown
   clear hbel hown
   obtain ⟨hfk1,hfk2⟩:=notall l (fun _=>True) HOK.out hf1 hf2 (by omega)
   by_cases hrm:m<r.size
   ·have hrm':(m:Int)<(r.size:Int):=by omega
    have hne:(r.extract m r.size).toList.isEmpty=false:=by rw [isEmpty_size];simp only [ByteArray.size_extract];simp;omega
    have hpz:(r.extract 0 m).size<=1048576:=by simp only [ByteArray.size_extract];omega
    have HPZ:Hid ((r.extract 0 m).size<=m):=by show _<=_;simp only [ByteArray.size_extract];omega
    have HPE:Hid ((r.extract 0 m)=s.extract (k*m) (k*m+m)):=by show _=_;exact extract_part s r _ m HX.out
    have HRE:Hid ((r.extract m r.size)=s.extract ((k+1)*m) s.size):=by show _=_;rw [Nat.add_mul,Nat.one_mul];exact extract_rest s r _ m HX.out
    have HKN:Hid ((if k+1=N then (2:Int) else 1)=1):=by show _=_;have:=last_iff s r k m N HN.out (by omega) hlt HX.out;rw [if_neg (by omega)]
    obtain ⟨F,HF⟩:∃ F,Hid (F=formOf 1 l (f+(k:Int)) (r.extract 0 m) (n:Int)):=⟨_,hid rfl⟩
    have HFC:Hid (F=cutAt s l f n m N k):=by show _=_;rw [HF.out,HPE.out];unfold cutAt;rw [HKN.out]
    have HFE:Hid (F.toList.isEmpty=!decide (1<=l/\l<=60000/\1<=f+(k:Int)/\f+(k:Int)<=1000000000)):=by show _=_;rw [HF.out,formOf_empty,pageOk_cut 1 l _ _ n m hm h1 h2 (by omega) HPZ.out]
    by_cases hok:1<=l/\l<=60000/\1<=f+(k:Int)/\f+(k:Int)<=1000000000
    ·have hfe:F.toList.isEmpty=false:=by rw [HFE.out];simpa using hok
     have HOK2:=hid hok
     clear hok
     go_wp2_with (first | (go_at_call 159;refine (partw_i n m _ hm h1 h2).mono ?_;rintro e w4 ⟨rfl,rfl⟩) | (go_at_call 151;refine (form_i_any 1 l (f+(k:Int)) (r.extract 0 m) (n:Int) _ hpz).mono ?_;rw [<-HF.out];rintro e w5 ⟨rfl,hb5⟩;have hs5:=hb5.size;simp only [World.size_alloc] at hs5;have HB5:=hid (HB.out.trans ((((Below.refl _ _).alloc (Nat.le_refl _) _).trans (hb5.mono (by simp))).mono hsz));have HO5:=hid ((owns_below HOWN.out (((Below.refl _ _).alloc (Nat.le_refl _) _).trans (hb5.mono (by simp)))).alloc (.cells #[.string F] 9));clear hb5) | (at_builtin;refine wpList_append_lies _ rfl _ _ 22 rfl w.heap.size 9 i0 (.string ByteArray.empty) 1 16 Tryz.underlying22 HI.out.1 HI.out.2.1 HI.out.2.2.1 HI.out.2.2.2 rfl (by omega) _ k _ rfl HO5.out ⟨w5.heap.size,0,none⟩ 1 1 [.string F] rfl rfl (World.news_of_block (heap_alloc_new w5 _)) (by intro u hu;simp at hu;subst hu;rfl) (by omega) (by unfold maxLen;omega) (by omega) (by simp;omega) (w5.heap.size+1) (by simp) ?_;intro g' cap w7 hown7 hgrow7 hat7 hlt7;have HO7:=hid hown7;have HB7:=hid (below_grown (HB5.out.alloc (by omega) _) HO5.out hgrow7 (by simp;omega));clear hown7 hgrow7 hat7))
     refine ⟨⟨k+1,(r.extract m r.size),by omega,by go_num,rfl,HRE.out,by simp only [ByteArray.size_extract];omega,fun j hj=>?_,?_,HB7.out⟩,by simp [intOf];omega⟩
     ·rcases Nat.lt_or_ge j k with h | h
      ·exact HOK.out j h
      ·have:j=k:=by omega
       subst this;exact HOK2.out
     ·rw [cutList_succ,List.map_append,<-HFC.out];exact HO7.out
    ·have hfe:F.toList.isEmpty=true:=by rw [HFE.out,decide_eq_false hok];rfl
     have HRR:Hid (R=[]):=by show _=_;rw [HR.out];exact cutAll_no HN.out (by omega)
     clear hok
     go_wp2_with (first | (go_at_call 159;refine (partw_i n m _ hm h1 h2).mono ?_;rintro e w4 ⟨rfl,rfl⟩) | (go_at_call 151;refine (form_i_any 1 l (f+(k:Int)) (r.extract 0 m) (n:Int) _ hpz).mono ?_;rw [<-HF.out];rintro e w5 ⟨rfl,hb5⟩;have hs5:=hb5.size;simp only [World.size_alloc] at hs5;have HB5:=hid (HB.out.trans ((((Below.refl _ _).alloc (Nat.le_refl _) _).trans (hb5.mono (by simp))).mono hsz));have HO5:=hid ((owns_below HOWN.out (((Below.refl _ _).alloc (Nat.le_refl _) _).trans (hb5.mono (by simp)))).alloc (.cells #[.string F] 9));clear hb5))
     go_ret
     rw [HRR.out]
     exact newS_nil rfl HB5.out
   ·have hrm':(r.size:Int)<=(m:Int):=by omega
    have hpz:r.size<=1048576:=by omega
    have HPZ:Hid (r.size<=m):=by show _<=_;omega
    have HPE:Hid (r=s.extract (k*m) (k*m+m)):=by show _=_;exact part_short s r _ m HX.out (by omega)
    have HRE:Hid (ByteArray.empty=s.extract ((k+1)*m) s.size):=by show _=_;rw [Nat.add_mul,Nat.one_mul];exact rest_short s r _ m HX.out (by omega)
    have HKN:Hid ((if k+1=N then (2:Int) else 1)=2):=by show _=_;have:=last_iff s r k m N HN.out (by omega) hlt HX.out;rw [if_pos (by omega)]
    obtain ⟨F,HF⟩:∃ F,Hid (F=formOf 2 l (f+(k:Int)) r (n:Int)):=⟨_,hid rfl⟩
    have HFC:Hid (F=cutAt s l f n m N k):=by show _=_;rw [HF.out,HPE.out];unfold cutAt;rw [HKN.out]
    have HFE:Hid (F.toList.isEmpty=!decide (1<=l/\l<=60000/\1<=f+(k:Int)/\f+(k:Int)<=1000000000)):=by show _=_;rw [HF.out,formOf_empty,pageOk_cut 2 l _ _ n m hm h1 h2 (by omega) HPZ.out]
    by_cases hok:1<=l/\l<=60000/\1<=f+(k:Int)/\f+(k:Int)<=1000000000
    ·have hfe:F.toList.isEmpty=false:=by rw [HFE.out];simpa using hok
     have HOK2:=hid hok
     clear hok
     go_wp2_with (first | (go_at_call 159;refine (partw_i n m _ hm h1 h2).mono ?_;rintro e w4 ⟨rfl,rfl⟩) | (go_at_call 151;refine (form_i_any 2 l (f+(k:Int)) r (n:Int) _ hpz).mono ?_;rw [<-HF.out];rintro e w5 ⟨rfl,hb5⟩;have hs5:=hb5.size;simp only [World.size_alloc] at hs5;have HB5:=hid (HB.out.trans ((((Below.refl _ _).alloc (Nat.le_refl _) _).trans (hb5.mono (by simp))).mono hsz));have HO5:=hid ((owns_below HOWN.out (((Below.refl _ _).alloc (Nat.le_refl _) _).trans (hb5.mono (by simp)))).alloc (.cells #[.string F] 9));clear hb5) | (at_builtin;refine wpList_append_lies _ rfl _ _ 22 rfl w.heap.size 9 i0 (.string ByteArray.empty) 1 16 Tryz.underlying22 HI.out.1 HI.out.2.1 HI.out.2.2.1 HI.out.2.2.2 rfl (by omega) _ k _ rfl HO5.out ⟨w5.heap.size,0,none⟩ 1 1 [.string F] rfl rfl (World.news_of_block (heap_alloc_new w5 _)) (by intro u hu;simp at hu;subst hu;rfl) (by omega) (by unfold maxLen;omega) (by omega) (by simp;omega) (w5.heap.size+1) (by simp) ?_;intro g' cap w7 hown7 hgrow7 hat7 hlt7;have HO7:=hid hown7;have HB7:=hid (below_grown (HB5.out.alloc (by omega) _) HO5.out hgrow7 (by simp;omega));clear hown7 hgrow7 hat7))
     refine ⟨⟨k+1,ByteArray.empty,by omega,by go_num,rfl,HRE.out,by simp,fun j hj=>?_,?_,HB7.out⟩,by simp [intOf];omega⟩
     ·rcases Nat.lt_or_ge j k with h | h
      ·exact HOK.out j h
      ·have:j=k:=by omega
       subst this;exact HOK2.out
     ·rw [cutList_succ,List.map_append,<-HFC.out];exact HO7.out
    ·have hfe:F.toList.isEmpty=true:=by rw [HFE.out,decide_eq_false hok];rfl
     have HRR:Hid (R=[]):=by show _=_;rw [HR.out];exact cutAll_no HN.out (by omega)
     clear hok
     go_wp2_with (first | (go_at_call 159;refine (partw_i n m _ hm h1 h2).mono ?_;rintro e w4 ⟨rfl,rfl⟩) | (go_at_call 151;refine (form_i_any 2 l (f+(k:Int)) r (n:Int) _ hpz).mono ?_;rw [<-HF.out];rintro e w5 ⟨rfl,hb5⟩;have hs5:=hb5.size;simp only [World.size_alloc] at hs5;have HB5:=hid (HB.out.trans ((((Below.refl _ _).alloc (Nat.le_refl _) _).trans (hb5.mono (by simp))).mono hsz));have HO5:=hid ((owns_below HOWN.out (((Below.refl _ _).alloc (Nat.le_refl _) _).trans (hb5.mono (by simp)))).alloc (.cells #[.string F] 9));clear hb5))
     go_ret
     rw [HRR.out]
     exact newS_nil rfl HB5.out
  ·have hkN:k=N:=by omega
   subst hkN
   have HRR:Hid (R=cutList s l f n m k k):=by
    show _=_
    rw [HR.out]
    have h0:=HOK.out 0 hN0
    have h3:=HOK.out (k-1) (by omega)
    exact cutAll_yes HN.out (by omega)
   have HO:=hid hown
   clear hown
   go_wp2
   go_ret
   rw [HRR.out]
   exact newS_of HO.out (cutList_length _ _ _ _ _ _ _).symm hbel
end Go.Proofs.YtcoegjnjjdndjaaGreatDoor
