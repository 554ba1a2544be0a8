import Derived.Test.YtcoegjnjjdndjaaGreatDoorPrG44
import Derived.Test.YtcoegjnjjdndjaaGreatDoorPrG46
import Derived.Test.YtcoegjnjjdndjaaGreatDoorPrG41
import Derived.Test.YtcoegjnjjdndjaaGreatDoorPrG40
import Derived.Test.YtcoegjnjjdndjaaGreatDoorPrG52
import Derived.Test.YtcoegjnjjdndjaaGreatDoorPrVStI
set_option maxHeartbeats 16000000
set_option maxRecDepth 8000
set_option linter.unusedVariables false
set_option linter.unusedSimpArgs false
namespace Go.Proofs.YtcoegjnjjdndjaaGreatDoor
open Go.RowKit
set_option maxHeartbeats 16000000 in
theorem newlife_i (base g:Nat) (v:Value) (os:List OpT) (at_ nm lf wd:Int) (w:World) (h:Wrt w base g v os at_ nm lf wd) (hb:base<=w.heap.size) (hl:os.length<=1000) (ha0:0<=at_) (ha1:at_<=100000) (hn0:0<=nm) (hn1:nm<=2000000000) :
  Calls Tryz.prog 121 #[.pointer (some ⟨g,0,none⟩)] w fun e w'=>(∃ x,e=.returned x)/\∃ v',Wrt w' base g v' (os++[(false,at_,formOf 3 lf nm ByteArray.empty wd)]) (at_+1) (nm+1) lf wd/\Below base w w'/\WK g w v w' v':=by
 have q2:=h.row.cell 2 _ rfl
 have lg:=h.row.lt
 go_enter Tryz.func121,Tryz.ntmps121
 go_wp2_with fail
 refine wp_region_held_drew (S:=fun w'=>w'.cell? ⟨g,3,none⟩=some (.int .i64 lf)/\w'.cell? ⟨g,4,none⟩=some (.int .i64 wd)) (by kernel_rfl) (⟨h.row.drew.cell 3 _ rfl,h.row.drew.cell 4 _ rfl⟩) (fun hHeld=>?_)
 refine TY (i:=0) (v:=.pointer (some ⟨g,0,none⟩)) rfl hHeld ?_
 simp only [PS]
 refine TY (i:=1) (v:=.pointer (some ⟨g,0,none⟩)) rfl hHeld ?_
 simp only [PS]
 refine TY (i:=2) (v:=.pointer (some ⟨g,0,none⟩)) rfl hHeld ?_
 simp only [PS]
 refine TY (i:=3) (v:=.pointer (some ⟨g,3,none⟩)) rfl hHeld ?_
 simp only [PS]
 refine TY (i:=4) (v:=.int .i64 lf) rfl hHeld ?_
 simp only [PS]
 refine TY (i:=5) (v:=.pointer (some ⟨g,0,none⟩)) rfl hHeld ?_
 simp only [PS]
 refine TY (i:=6) (v:=.pointer (some ⟨g,0,none⟩)) rfl hHeld ?_
 simp only [PS]
 refine TY (i:=7) (v:=.pointer (some ⟨g,2,none⟩)) rfl hHeld ?_
 simp only [PS]
 refine TY (i:=10) (v:=.pointer (some ⟨g,0,none⟩)) rfl hHeld ?_
 simp only [PS]
 refine TY (i:=11) (v:=.pointer (some ⟨g,0,none⟩)) rfl hHeld ?_
 simp only [PS]
 refine TY (i:=12) (v:=.pointer (some ⟨g,4,none⟩)) rfl hHeld ?_
 simp only [PS]
 refine TY (i:=13) (v:=.int .i64 wd) rfl hHeld ?_
 simp only [PS]
 refine RD (i:=8) rfl (fun K hK=>?_)
 go_simp
 refine hK.out _ _ hHeld (fun _=>?_)
 clear hK K
 try simp only [PS]
 refine TY (i:=9) (v:=.agg #[.int .i64 3,.int .i64 lf,.int .i64 nm,.string ⟨#[]⟩]) rfl hHeld ?_
 simp only [PS]
 refine RD (i:=14) rfl (fun K hK=>?_)
 refine step_call (by rfl) 151 #[pageV 3 lf nm ⟨#[]⟩,.int .i64 wd] (by go_simp) (form_i_any 3 lf nm ByteArray.empty wd _ (by simp)) ?_
 rintro e w4 ⟨rfl,hb4⟩
 refine ⟨_,rfl,?_⟩
 have hb4':Below w.heap.size w w4:=(Below.refl _ _).drew.trans hb4
 have hW4:=h.below hb4'
 refine hK.out _ _ (⟨hW4.row.cell 3 _ rfl,hW4.row.cell 4 _ rfl⟩) (fun hHd2=>?_)
 clear hK K
 try simp only [PS]
 refine RD (i:=15) rfl (fun K hK=>?_)
 refine step_call (by rfl) 150 #[.pointer (some ⟨g,0,none⟩),.string (formOf 3 lf nm ByteArray.empty wd)] (by go_simp) (page_i2 base g v os at_ nm lf wd _ _ hW4 (Nat.le_trans hb hb4'.size) hl ha0 ha1 hn0 hn1) ?_
 rintro e w5 ⟨⟨x,rfl⟩,v',hW5,hb5,hwk5⟩
 refine ⟨_,rfl,?_⟩
 refine hK.out _ _ (⟨hW5.row.cell 3 _ rfl,hW5.row.cell 4 _ rfl⟩) (fun hHd3=>?_)
 clear hK K
 try simp only [PS]
 refine wpAnyH_done (by kernel_rfl) ?_ _
 go_end0
 exact ⟨⟨_,rfl⟩,v',hW5,(hb4'.mono hb).trans hb5,(⟨hb4'.size,fun _ h=>.inl h,fun b hb _ _=>hb4'.block b hb⟩:WK g w v w4 v).trans hwk5⟩
set_option maxHeartbeats 16000000 in
theorem turned_i (T H F R S L:Int) (w:World) (hT:0<=T) (hT1:T<=1000000000) (hH:0<=H) (hH1:H<=1) (hF:0<=F) (hF1:F<=999999000) :
  Calls Tryz.prog 114 #[rootV T H F R,.int .i64 S,.int .i64 L] w fun e w'=>e=.returned (rootV (T+1) (1-H) (F+hv S) L)/\Below w.heap.size w w':=by
 have hQ:0<=hv S/\hv S<=99:=by by_cases h:8<=S/\S<=200;have:=hv_yes h;omega;rw [hv_no h];omega
 have HH:=hid (fun w'=>halves_i S w')
 obtain ⟨Q,HQ⟩:∃ Q,Hid (Q=hv S):=⟨_,hid rfl⟩
 rw [<-HQ.out] at hQ HH ⊢
 have hw1:IntKind.i64.wrap (T+1)=T+1:=by simp [IntKind.wrap,IntKind.bits,IntKind.signed];omega
 have hw2:IntKind.i64.wrap (1-H)=1-H:=by simp [IntKind.wrap,IntKind.bits,IntKind.signed];omega
 have hw3:IntKind.i64.wrap (F+Q)=F+Q:=by simp [IntKind.wrap,IntKind.bits,IntKind.signed];omega
 have hbb:∀ {cs:Array Value} {cs':Array Value} {t t':TypeId},Below w.heap.size w ((w.alloc (.cells cs t)).alloc (.cells cs' t')):=((Below.refl _ _).alloc (Nat.le_refl _) _).alloc (by simp) _
 go_enter Tryz.func114,Tryz.ntmps114
 go_wp2_with fail
 refine wp_region_held_drew (S:=fun w'=>w'.cell? ⟨w.heap.size,0,none⟩=some (.int .i64 T)/\w'.cell? ⟨w.heap.size,1,none⟩=some (.int .i64 H)/\w'.cell? ⟨w.heap.size,2,none⟩=some (.int .i64 F)) (by kernel_rfl) (⟨by go_simp,by go_simp,by go_simp⟩) (fun hHeld=>?_)
 refine TY (i:=0) (v:=.pointer (some ⟨w.heap.size,0,none⟩)) rfl hHeld ?_
 simp only [PS]
 refine TY (i:=1) (v:=.int .i64 T) rfl hHeld ?_
 simp only [PS]
 refine TY (i:=2) (v:=.int .i64 (T+1)) rfl hHeld ?_
 simp only [PS]
 refine TY (i:=3) (v:=.pointer (some ⟨w.heap.size,1,none⟩)) rfl hHeld ?_
 simp only [PS]
 refine TY (i:=4) (v:=.int .i64 H) rfl hHeld ?_
 simp only [PS]
 refine TY (i:=5) (v:=.int .i64 (1-H)) rfl hHeld ?_
 simp only [PS]
 refine TY (i:=6) (v:=.pointer (some ⟨w.heap.size,2,none⟩)) rfl hHeld ?_
 simp only [PS]
 refine TY (i:=7) (v:=.int .i64 F) rfl hHeld ?_
 simp only [PS]
 refine TY (i:=8) (v:=.int .i64 S) rfl hHeld ?_
 simp only [PS]
 refine TY (i:=11) (v:=.int .i64 L) rfl hHeld ?_
 simp only [PS]
 refine RD (i:=9) rfl (fun K hK=>?_)
 refine step_call (by rfl) 65 #[.int .i64 S] (by go_simp) (HH.out _) ?_
 rintro e w4 ⟨rfl,rfl⟩
 refine ⟨_,rfl,?_⟩
 refine hK.out _ _ hHeld (fun _=>?_)
 clear hK K
 try simp only [PS]
 refine TY (i:=10) (v:=.int .i64 (F+Q)) rfl hHeld ?_
 simp only [PS]
 refine TY (i:=12) (v:=.agg #[.int .i64 (T+1),.int .i64 (1-H),.int .i64 (F+Q),.int .i64 L]) rfl hHeld ?_
 simp only [PS]
 refine RD (i:=13) rfl (fun K hK=>?_)
 go_simp
 refine hK.out _ _ (⟨by go_simp,by go_simp,by go_simp⟩) (fun hHd2=>?_)
 clear hK K
 try simp only [PS]
 refine wpAnyH_done (by kernel_rfl) ?_ _
 go_wp2
 refine bodyPost_ret (v:=rootV (T+1) (1-H) (F+Q) L) (by simp [results,Tryz.results114,go_sem]) rfl ⟨rfl,?_⟩
 exact hbb.drew
set_option maxHeartbeats 16000000 in
theorem entry_i (base g:Nat) (v:Value) (os:List OpT) (at_ nm lf:Int) (n m:Nat) (text:ByteArray) (w:World) (h:Wrt w base g v os at_ nm lf (n:Int)) (hb:base<=w.heap.size) (ht:text.size<=100000) (hl:os.length+(cutAll text lf nm n m).length<=1000) (hm:n+m=56) (hn1:1<=n) (hn8:n<=8) (ha0:0<=at_) (ha1:at_<=10000) (hm0:0<=nm) (hm1:nm<=1900000000) :
  Calls Tryz.prog 147 #[.pointer (some ⟨g,0,none⟩),.string text] w fun e w'=>(∃ x,e=.returned x)/\∃ v',Wrt w' base g v' (os++putOps at_ (cutAll text lf nm n m)) (at_+((cutAll text lf nm n m).length:Int)) (nm+((cutAll text lf nm n m).length:Int)) lf (n:Int)/\Below base w w'/\WK g w v w' v':=by
 have HC:=hid (fun W=>cut_i text lf nm n m W (by omega) hm hn1 hn8 (by omega) (by omega))
 obtain ⟨cut,hcut⟩:∃ cut,cut=cutAll text lf nm n m:=⟨_,rfl⟩
 rw [<-hcut] at HC hl ⊢
 clear hcut
 go_enter Tryz.func147,Tryz.ntmps147
 go_wp2_with fail
 refine wp_region_held_drew (S:=fun w'=>w'.cell? ⟨g,2,none⟩=some (.int .i64 nm)/\w'.cell? ⟨g,3,none⟩=some (.int .i64 lf)/\w'.cell? ⟨g,4,none⟩=some (.int .i64 (n:Int))) (by kernel_rfl) (⟨h.row.drew.cell 2 _ rfl,h.row.drew.cell 3 _ rfl,h.row.drew.cell 4 _ rfl⟩) (fun hHeld=>?_)
 refine TY (i:=0) (v:=.string text) rfl hHeld ?_
 simp only [PS]
 refine TY (i:=1) (v:=.pointer (some ⟨g,0,none⟩)) rfl hHeld ?_
 simp only [PS]
 refine TY (i:=2) (v:=.pointer (some ⟨g,0,none⟩)) rfl hHeld ?_
 simp only [PS]
 refine TY (i:=3) (v:=.pointer (some ⟨g,3,none⟩)) rfl hHeld ?_
 simp only [PS]
 refine TY (i:=4) (v:=.int .i64 lf) rfl hHeld ?_
 simp only [PS]
 refine TY (i:=5) (v:=.pointer (some ⟨g,0,none⟩)) rfl hHeld ?_
 simp only [PS]
 refine TY (i:=6) (v:=.pointer (some ⟨g,0,none⟩)) rfl hHeld ?_
 simp only [PS]
 refine TY (i:=7) (v:=.pointer (some ⟨g,2,none⟩)) rfl hHeld ?_
 simp only [PS]
 refine TY (i:=8) (v:=.int .i64 nm) rfl hHeld ?_
 simp only [PS]
 refine TY (i:=9) (v:=.pointer (some ⟨g,0,none⟩)) rfl hHeld ?_
 simp only [PS]
 refine TY (i:=10) (v:=.pointer (some ⟨g,0,none⟩)) rfl hHeld ?_
 simp only [PS]
 refine TY (i:=11) (v:=.pointer (some ⟨g,4,none⟩)) rfl hHeld ?_
 simp only [PS]
 refine TY (i:=12) (v:=.int .i64 (n:Int)) rfl hHeld ?_
 simp only [PS]
 refine TY (i:=15) (v:=.int .i64 0) rfl hHeld ?_
 simp only [PS]
 refine RD (i:=13) rfl (fun K hK=>?_)
 refine step_call (by rfl) 160 #[.string text,.int .i64 lf,.int .i64 nm,.int .i64 (n:Int)] (by go_simp) (HC.out _) ?_
 rintro e w4 ⟨a4,c4,rfl,ho4,hf4,hb4⟩
 refine ⟨_,rfl,?_⟩
 have hb4':Below w.heap.size w w4:=(Below.refl _ _).drew.trans hb4
 have hW4:=h.below hb4'
 refine hK.out _ _ (⟨hW4.row.cell 2 _ rfl,hW4.row.cell 3 _ rfl,hW4.row.cell 4 _ rfl⟩) (fun hHd1=>?_)
 clear hK K
 try simp only [PS]
 refine TY (i:=14) (v:=.int .i64 (cut.length:Int)) rfl hHd1 ?_
 simp only [PS]
 refine wpAnyH_done (by kernel_rfl) ?_ _
 have HO4:=hid ho4
 have HF4:=hid hf4
 have HW4:=hid hW4
 have HB4:=hid hb4'
 have hs4:=hb4'.size
 clear ho4 hf4 hW4 hb4' hb4 hHeld hHd1
 go_wp2_with fail
 go_loopw [21] (fun i wr=>∃ j:Nat,j<=cut.length/\i=.int .i64 (j:Int)/\∃ v',Wrt wr base g v' (os++putOps at_ (cut.take j)) (at_+(j:Int)) (nm+(j:Int)) lf (n:Int)/\Below base w wr/\WK g w4 v wr v') (fun i _=>cut.length-(intOf i).toNat)
 case atStart =>
  refine ⟨0,Nat.zero_le _,rfl,v,?_,HB4.out.mono hb,WK.start _ _ _⟩
  rw [List.take_zero,putOps_nil,List.append_nil];simpa using HW4.out
 case round =>
  obtain ⟨j,hj,rfl,v',hW,hbl,hwk⟩:=hrel
  by_cases hlt:j<cut.length
  ·have hsz:=hwk.size
   obtain ⟨g4,rfl,hr4⟩:=HO4.out.resolve_left (by intro e;have:=congrArg List.length e;simp at this;rw [this] at hlt;simp at hlt)
   have hg4:w.heap.size<=g4:=HF4.out g4 (blk_pos _ _ _ (by omega))
   have hgb:=h.row.lt
   have hrow:=hr4.wk hwk (by omega) (fun e=>by have:=(h.own.lt g4 e.symm).2;omega)
   have hcj:=hrow.cell j (.string (cut.getD j ByteArray.empty)) (by simp [hlt,List.getD])
   obtain ⟨pj,hpj⟩:∃ pj,pj=cut.getD j ByteArray.empty:=⟨_,rfl⟩
   rw [<-hpj] at hcj
   have hg4l:=hrow.lt
   have hlt':(j:Int)<(cut.length:Int):=by omega
   have hj0:(0:Int)<=(j:Int):=by omega
   have hsr:base<=wr.heap.size:=by omega
   have HP:=hid (page_i2 base g v' (os++putOps at_ (cut.take j)) (at_+(j:Int)) (nm+(j:Int)) lf (n:Int) pj wr hW hsr (by simp [putOps_length];omega) (by omega) (by omega) (by omega) (by omega))
   have HBL:=hid hbl
   have HPJ:=hid hpj
   have hgg:=hW.row.lt
   have HWK:=hid hwk
   clear hW hbl hrow hwk hpj
   go_wp2_with (go_at_call 150;refine HP.out.mono ?_;rintro e w5 ⟨⟨x,rfl⟩,v5,hW5,hb5,hwk5⟩)
   have hs5:=hb5.size
   have hsn:os++putOps at_ (cut.take (j+1))=os++putOps at_ (cut.take j)++[(false,at_+(j:Int),pj)]:=by rw [takeR_snoc cut j ByteArray.empty hlt,putOps_snoc,<-HPJ.out,List.append_assoc,List.length_take,show min j cut.length=j by omega]
   refine ⟨⟨j+1,by omega,by go_num,v5,?_,HBL.out.trans hb5,HWK.out.trans hwk5⟩,by simp [intOf];omega⟩
   rw [hsn];have e1:at_+((j+1:Nat):Int)=at_+(j:Int)+1:=by omega
   have e2:nm+((j+1:Nat):Int)=nm+(j:Int)+1:=by omega
   rw [e1,e2];exact hW5
  ·have hje:j=cut.length:=by omega
   subst hje
   go_wp2_with fail
   go_end0
   rw [List.take_length] at hW
   exact ⟨⟨_,rfl⟩,v',hW,hbl,(⟨hs4,fun _ h=>.inl h,fun b hb _ _=>HB4.out.block b hb⟩:WK g w v w4 v).trans hwk⟩
theorem sector_i (t h f l:Int) (ht:0<=t) (w:World):Calls Tryz.prog 135 #[rootV t h f l] w fun e w'=>e=.returned (.int .i64 (t % 2))/\Below w.heap.size w w':=by
 go_enter Tryz.func135,Tryz.ntmps135
 go_wp2
 go_ret
 exact ⟨rfl,(Below.refl _ _).alloc (Nat.le_refl _) _⟩
set_option maxHeartbeats 16000000 in
theorem wroot_i (base g:Nat) (v:Value) (os:List OpT) (at_ nm lf wd t hh f l:Int) (w:World) (h:Wrt w base g v os at_ nm lf wd) (hb:base<=w.heap.size) (hl:os.length<=1000) (ht:0<=t) :
  Calls Tryz.prog 120 #[.pointer (some ⟨g,0,none⟩),rootV t hh f l] w fun e w'=>(∃ x,e=.returned x)/\(∃ v',Wrt w' base g v' (os++[(false,t % 2,rtForm t hh f l wd)]) at_ nm lf wd)/\Below base w w':=by
 obtain ⟨i0,hi0,hz0,hz1,hz2⟩:=info_partsP info_opW
 have HI:=hid (And.intro hi0 (And.intro hz0 (And.intro hz1 hz2)))
 clear hi0 hz0 hz1 hz2
 obtain ⟨va,vc,rfl⟩:=h.sl
 have HRP:=hid (fun w'=>rootpage_i_any t hh f l wd w')
 obtain ⟨rp,hrp⟩:∃ rp,rp=rtForm t hh f l wd:=⟨_,rfl⟩
 rw [<-hrp] at HRP ⊢
 clear hrp
 have lg:=h.row.lt
 obtain ⟨wb,hwb⟩:∃ wb,wb=w.alloc (.cells #[.int .i64 t,.int .i64 hh,.int .i64 f,.int .i64 l] 45):=⟨_,rfl⟩
 have hbb:Below w.heap.size w wb:=by rw [hwb];exact (Below.refl _ _).alloc (Nat.le_refl _) _
 have hws:wb.heap.size=w.heap.size+1:=by rw [hwb];simp
 have hBb:Row wb w.heap.size [.int .i64 t,.int .i64 hh,.int .i64 f,.int .i64 l]:=by rw [hwb];exact row_new w _ _
 have hWb:=h.below hbb
 have q0b:=hWb.row.cell 0 _ rfl
 go_enter Tryz.func120,Tryz.ntmps120
 go_wp2_with fail
 rw [<-hwb]
 clear hwb
 refine wp_region_held_drew (S:=fun w'=>w'.cell? ⟨w.heap.size,0,none⟩=some (.int .i64 t)/\w'.cell? ⟨w.heap.size,1,none⟩=some (.int .i64 hh)/\w'.cell? ⟨w.heap.size,2,none⟩=some (.int .i64 f)/\w'.cell? ⟨w.heap.size,3,none⟩=some (.int .i64 l)/\w'.cell? ⟨g,4,none⟩=some (.int .i64 wd)) (by kernel_rfl) (⟨hBb.drew.cell 0 _ rfl,hBb.drew.cell 1 _ rfl,hBb.drew.cell 2 _ rfl,hBb.drew.cell 3 _ rfl,hWb.row.drew.cell 4 _ rfl⟩) (fun hHeld=>?_)
 refine TY (i:=0) (v:=.pointer (some ⟨g,0,none⟩)) rfl hHeld ?_
 simp only [PS]
 refine TY (i:=1) (v:=.pointer (some ⟨g,0,none⟩)) rfl hHeld ?_
 simp only [PS]
 refine TY (i:=2) (v:=.pointer (some ⟨g,0,none⟩)) rfl hHeld ?_
 simp only [PS]
 refine TY (i:=3) (v:=.pointer (some ⟨g,0,none⟩)) rfl hHeld ?_
 simp only [PS]
 refine TY (i:=5) (v:=.agg #[.int .i64 t,.int .i64 hh,.int .i64 f,.int .i64 l]) rfl hHeld ?_
 simp only [PS]
 refine TY (i:=7) (v:=.agg #[.int .i64 t,.int .i64 hh,.int .i64 f,.int .i64 l]) rfl hHeld ?_
 simp only [PS]
 refine TY (i:=8) (v:=.pointer (some ⟨g,0,none⟩)) rfl hHeld ?_
 simp only [PS]
 refine TY (i:=9) (v:=.pointer (some ⟨g,0,none⟩)) rfl hHeld ?_
 simp only [PS]
 refine TY (i:=10) (v:=.pointer (some ⟨g,4,none⟩)) rfl hHeld ?_
 simp only [PS]
 refine TY (i:=11) (v:=.int .i64 wd) rfl hHeld ?_
 simp only [PS]
 refine wpAnyH_ready (rs:=[4,6]) (by kernel_rfl) (by simp) ?_
 refine AllReadyH.cons rfl (fun K hK=>?_) (AllReadyH.cons rfl (fun K hK=>?_) AllReadyH.nil)
 ·go_simp
  refine hK.out _ _ hHeld (fun _=>?_)
  clear hK K
  try simp only [PS]
  refine RD (i:=6) rfl (fun K hK=>?_)
  refine step_call (by rfl) 135 #[rootV t hh f l] (by go_simp) (sector_i t hh f l ht _) ?_
  rintro e w4 ⟨rfl,hb4⟩
  refine ⟨_,rfl,?_⟩
  have hb4':Below wb.heap.size wb w4:=(Below.refl _ _).drew.trans hb4
  have hW4:=hWb.below hb4'
  have hB4:=hBb.below hb4'
  have q04:=hW4.row.cell 0 _ rfl
  refine hK.out _ _ (⟨hB4.cell 0 _ rfl,hB4.cell 1 _ rfl,hB4.cell 2 _ rfl,hB4.cell 3 _ rfl,hW4.row.cell 4 _ rfl⟩) (fun hHd2=>?_)
  clear hK K
  try simp only [PS]
  refine RD (i:=12) rfl (fun K hK=>?_)
  refine step_call (by rfl) 149 #[rootV t hh f l,.int .i64 wd] (by go_simp) (HRP.out _) ?_
  rintro e w5 ⟨rfl,hb5⟩
  refine ⟨_,rfl,?_⟩
  have hb5':Below wb.heap.size wb w5:=hb4'.trans (hb5.mono hb4'.size)
  have hW5:=hWb.below hb5'
  have hB5:=hBb.below hb5'
  have q05:=hW5.row.cell 0 _ rfl
  have lg5:=hW5.row.lt
  have hWa:=hW5.below ((Below.refl _ _).alloc (Nat.le_refl _) (.cells #[.bool false,.int .i64 (t % 2),.string rp] 100))
  have hBa:=hB5.alloc (.cells #[.bool false,.int .i64 (t % 2),.string rp] 100)
  refine hK.out _ _ (⟨hB5.cell 0 _ rfl,hB5.cell 1 _ rfl,hB5.cell 2 _ rfl,hB5.cell 3 _ rfl,hW5.row.cell 4 _ rfl⟩) (fun hHd3=>?_)
  clear hK K
  try simp only [PS]
  refine TY (i:=13) (v:=.agg #[.bool false,.int .i64 (t % 2),.string rp]) rfl hHd3 ?_
  simp only [PS]
  refine RD (i:=14) rfl (fun K hK=>?_)
  go_simp
  refine hK.out _ _ (⟨hBa.cell 0 _ rfl,hBa.cell 1 _ rfl,hBa.cell 2 _ rfl,hBa.cell 3 _ rfl,hWa.row.cell 4 _ rfl⟩) (fun hHd4=>?_)
  clear hK K
  try simp only [PS]
  refine RD (i:=15) rfl (fun K hK=>?_)
  refine step_append_lies _ (by rfl) _ _ _ (by rfl) base 100 i0 (.agg #[.bool false,.int .i64 0,.string ByteArray.empty]) 3 32 Tryz.underlying62 HI.out.1 HI.out.2.1 HI.out.2.2.1 HI.out.2.2.2 rfl (by omega) (.slice va os.length vc) os.length _ (by rfl) hWa.own ⟨w5.heap.size,0,none⟩ 1 1 [.bool false,.int .i64 (t % 2),.string rp] (by rfl) rfl (World.news_of_block (heap_alloc_new w5 _)) (oneOp _ _ _) (by omega) (by unfold maxLen;omega) (by omega) (by have:=hb5'.size;simp<;>omega) (w5.heap.size+1) (by simp) ?_
  intro g9 cap9 w9 hown9 hgrow9 hat9 hlt9
  have hend:=wrt_push (W:=w) (x:=(false,t % 2,rp)) hW5 (by have:=hb5'.size;omega) ((hbb.mono hb).trans (hb5'.mono (by omega))) hown9 hgrow9 hat9
  have hB9:=hBa.grown hgrow9 (fun e=>by have:=(h.own.lt w.heap.size e.symm).2;omega)
  have HEND:=hid hend
  have q9:=hend.1.cell 0 _ rfl
  have q94:=hend.1.cell 4 _ rfl
  have r9:=hend.1.froz 0 (by simp)
  have lg9:=hend.1.lt
  have hBn:w.heap.size≠g:=by omega
  clear hown9 hgrow9 hat9 hend
  refine hK.out _ _ (⟨hB9.cell 0 _ rfl,hB9.cell 1 _ rfl,hB9.cell 2 _ rfl,hB9.cell 3 _ rfl,q94⟩) (fun hHd5=>?_)
  clear hK K
  try simp only [PS]
  refine TY (i:=16) (v:=.pointer (some ⟨g,0,none⟩)) rfl hHd5 ?_
  simp only [PS]
  refine TY (i:=17) (v:=.pointer (some ⟨g,0,none⟩)) rfl hHd5 ?_
  simp only [PS]
  refine RD (i:=18) rfl (fun K hK=>?_)
  go_simp
  have hBs:=hB9.other ⟨g,0,none⟩ (by show g≠w.heap.size;omega) (.slice (some ⟨g9,0,none⟩) (os.length+1) cap9)
  refine hK.out _ _ (⟨hBs.cell 0 _ rfl,hBs.cell 1 _ rfl,hBs.cell 2 _ rfl,hBs.cell 3 _ rfl,HEND.out.2.1.row.cell 4 _ rfl⟩) (fun hHd6=>?_)
  clear hK K
  try simp only [PS]
  refine wpAnyH_done (by kernel_rfl) ?_ _
  go_end0
  exact ⟨⟨_,rfl⟩,⟨_,HEND.out.2.1⟩,HEND.out.2.2.2⟩
 ·refine step_call (by rfl) 135 #[rootV t hh f l] (by go_simp) (sector_i t hh f l ht _) ?_
  rintro e w4 ⟨rfl,hb4⟩
  refine ⟨_,rfl,?_⟩
  have hb4':Below wb.heap.size wb w4:=(Below.refl _ _).drew.trans hb4
  have hW4:=hWb.below hb4'
  have hB4:=hBb.below hb4'
  have q04:=hW4.row.cell 0 _ rfl
  refine hK.out _ _ (⟨hB4.cell 0 _ rfl,hB4.cell 1 _ rfl,hB4.cell 2 _ rfl,hB4.cell 3 _ rfl,hW4.row.cell 4 _ rfl⟩) (fun hHd7=>?_)
  clear hK K
  try simp only [PS]
  refine wpAnyH_ready (rs:=[4,12]) (by kernel_rfl) (by simp) ?_
  refine AllReadyH.cons rfl (fun K hK=>?_) (AllReadyH.cons rfl (fun K hK=>?_) AllReadyH.nil)
  ·go_simp
   refine hK.out _ _ hHd7 (fun _=>?_)
   clear hK K
   try simp only [PS]
   refine RD (i:=12) rfl (fun K hK=>?_)
   refine step_call (by rfl) 149 #[rootV t hh f l,.int .i64 wd] (by go_simp) (HRP.out _) ?_
   rintro e w5 ⟨rfl,hb5⟩
   refine ⟨_,rfl,?_⟩
   have hb5':Below wb.heap.size wb w5:=hb4'.trans (hb5.mono hb4'.size)
   have hW5:=hWb.below hb5'
   have hB5:=hBb.below hb5'
   have q05:=hW5.row.cell 0 _ rfl
   have lg5:=hW5.row.lt
   have hWa:=hW5.below ((Below.refl _ _).alloc (Nat.le_refl _) (.cells #[.bool false,.int .i64 (t % 2),.string rp] 100))
   have hBa:=hB5.alloc (.cells #[.bool false,.int .i64 (t % 2),.string rp] 100)
   refine hK.out _ _ (⟨hB5.cell 0 _ rfl,hB5.cell 1 _ rfl,hB5.cell 2 _ rfl,hB5.cell 3 _ rfl,hW5.row.cell 4 _ rfl⟩) (fun hHd9=>?_)
   clear hK K
   try simp only [PS]
   refine TY (i:=13) (v:=.agg #[.bool false,.int .i64 (t % 2),.string rp]) rfl hHd9 ?_
   simp only [PS]
   refine RD (i:=14) rfl (fun K hK=>?_)
   go_simp
   refine hK.out _ _ (⟨hBa.cell 0 _ rfl,hBa.cell 1 _ rfl,hBa.cell 2 _ rfl,hBa.cell 3 _ rfl,hWa.row.cell 4 _ rfl⟩) (fun hHd10=>?_)
   clear hK K
   try simp only [PS]
   refine RD (i:=15) rfl (fun K hK=>?_)
   refine step_append_lies _ (by rfl) _ _ _ (by rfl) base 100 i0 (.agg #[.bool false,.int .i64 0,.string ByteArray.empty]) 3 32 Tryz.underlying62 HI.out.1 HI.out.2.1 HI.out.2.2.1 HI.out.2.2.2 rfl (by omega) (.slice va os.length vc) os.length _ (by rfl) hWa.own ⟨w5.heap.size,0,none⟩ 1 1 [.bool false,.int .i64 (t % 2),.string rp] (by rfl) rfl (World.news_of_block (heap_alloc_new w5 _)) (oneOp _ _ _) (by omega) (by unfold maxLen;omega) (by omega) (by have:=hb5'.size;simp<;>omega) (w5.heap.size+1) (by simp) ?_
   intro g9 cap9 w9 hown9 hgrow9 hat9 hlt9
   have hend:=wrt_push (W:=w) (x:=(false,t % 2,rp)) hW5 (by have:=hb5'.size;omega) ((hbb.mono hb).trans (hb5'.mono (by omega))) hown9 hgrow9 hat9
   have hB9:=hBa.grown hgrow9 (fun e=>by have:=(h.own.lt w.heap.size e.symm).2;omega)
   have HEND:=hid hend
   have q9:=hend.1.cell 0 _ rfl
   have q94:=hend.1.cell 4 _ rfl
   have r9:=hend.1.froz 0 (by simp)
   have lg9:=hend.1.lt
   have hBn:w.heap.size≠g:=by omega
   clear hown9 hgrow9 hat9 hend
   refine hK.out _ _ (⟨hB9.cell 0 _ rfl,hB9.cell 1 _ rfl,hB9.cell 2 _ rfl,hB9.cell 3 _ rfl,q94⟩) (fun hHd11=>?_)
   clear hK K
   try simp only [PS]
   refine TY (i:=16) (v:=.pointer (some ⟨g,0,none⟩)) rfl hHd11 ?_
   simp only [PS]
   refine TY (i:=17) (v:=.pointer (some ⟨g,0,none⟩)) rfl hHd11 ?_
   simp only [PS]
   refine RD (i:=18) rfl (fun K hK=>?_)
   go_simp
   have hBs:=hB9.other ⟨g,0,none⟩ (by show g≠w.heap.size;omega) (.slice (some ⟨g9,0,none⟩) (os.length+1) cap9)
   refine hK.out _ _ (⟨hBs.cell 0 _ rfl,hBs.cell 1 _ rfl,hBs.cell 2 _ rfl,hBs.cell 3 _ rfl,HEND.out.2.1.row.cell 4 _ rfl⟩) (fun hHd12=>?_)
   clear hK K
   try simp only [PS]
   refine wpAnyH_done (by kernel_rfl) ?_ _
   go_end0
   exact ⟨⟨_,rfl⟩,⟨_,HEND.out.2.1⟩,HEND.out.2.2.2⟩
  ·refine step_call (by rfl) 149 #[rootV t hh f l,.int .i64 wd] (by go_simp) (HRP.out _) ?_
   rintro e w5 ⟨rfl,hb5⟩
   refine ⟨_,rfl,?_⟩
   have hb5':Below wb.heap.size wb w5:=hb4'.trans (hb5.mono hb4'.size)
   have hW5:=hWb.below hb5'
   have hB5:=hBb.below hb5'
   have q05:=hW5.row.cell 0 _ rfl
   have lg5:=hW5.row.lt
   have hWa:=hW5.below ((Below.refl _ _).alloc (Nat.le_refl _) (.cells #[.bool false,.int .i64 (t % 2),.string rp] 100))
   have hBa:=hB5.alloc (.cells #[.bool false,.int .i64 (t % 2),.string rp] 100)
   refine hK.out _ _ (⟨hB5.cell 0 _ rfl,hB5.cell 1 _ rfl,hB5.cell 2 _ rfl,hB5.cell 3 _ rfl,hW5.row.cell 4 _ rfl⟩) (fun hHd13=>?_)
   clear hK K
   try simp only [PS]
   refine TY (i:=13) (v:=.agg #[.bool false,.int .i64 (t % 2),.string rp]) rfl hHd13 ?_
   simp only [PS]
   refine wpAnyH_ready (rs:=[4,14]) (by kernel_rfl) (by simp) ?_
   refine AllReadyH.cons rfl (fun K hK=>?_) (AllReadyH.cons rfl (fun K hK=>?_) AllReadyH.nil)
   ·go_simp
    refine hK.out _ _ hHd13 (fun _=>?_)
    clear hK K
    try simp only [PS]
    refine RD (i:=14) rfl (fun K hK=>?_)
    go_simp
    refine hK.out _ _ (⟨hBa.cell 0 _ rfl,hBa.cell 1 _ rfl,hBa.cell 2 _ rfl,hBa.cell 3 _ rfl,hWa.row.cell 4 _ rfl⟩) (fun hHd15=>?_)
    clear hK K
    try simp only [PS]
    refine RD (i:=15) rfl (fun K hK=>?_)
    refine step_append_lies _ (by rfl) _ _ _ (by rfl) base 100 i0 (.agg #[.bool false,.int .i64 0,.string ByteArray.empty]) 3 32 Tryz.underlying62 HI.out.1 HI.out.2.1 HI.out.2.2.1 HI.out.2.2.2 rfl (by omega) (.slice va os.length vc) os.length _ (by rfl) hWa.own ⟨w5.heap.size,0,none⟩ 1 1 [.bool false,.int .i64 (t % 2),.string rp] (by rfl) rfl (World.news_of_block (heap_alloc_new w5 _)) (oneOp _ _ _) (by omega) (by unfold maxLen;omega) (by omega) (by have:=hb5'.size;simp<;>omega) (w5.heap.size+1) (by simp) ?_
    intro g9 cap9 w9 hown9 hgrow9 hat9 hlt9
    have hend:=wrt_push (W:=w) (x:=(false,t % 2,rp)) hW5 (by have:=hb5'.size;omega) ((hbb.mono hb).trans (hb5'.mono (by omega))) hown9 hgrow9 hat9
    have hB9:=hBa.grown hgrow9 (fun e=>by have:=(h.own.lt w.heap.size e.symm).2;omega)
    have HEND:=hid hend
    have q9:=hend.1.cell 0 _ rfl
    have q94:=hend.1.cell 4 _ rfl
    have r9:=hend.1.froz 0 (by simp)
    have lg9:=hend.1.lt
    have hBn:w.heap.size≠g:=by omega
    clear hown9 hgrow9 hat9 hend
    refine hK.out _ _ (⟨hB9.cell 0 _ rfl,hB9.cell 1 _ rfl,hB9.cell 2 _ rfl,hB9.cell 3 _ rfl,q94⟩) (fun hHd16=>?_)
    clear hK K
    try simp only [PS]
    refine TY (i:=16) (v:=.pointer (some ⟨g,0,none⟩)) rfl hHd16 ?_
    simp only [PS]
    refine TY (i:=17) (v:=.pointer (some ⟨g,0,none⟩)) rfl hHd16 ?_
    simp only [PS]
    refine RD (i:=18) rfl (fun K hK=>?_)
    go_simp
    have hBs:=hB9.other ⟨g,0,none⟩ (by show g≠w.heap.size;omega) (.slice (some ⟨g9,0,none⟩) (os.length+1) cap9)
    refine hK.out _ _ (⟨hBs.cell 0 _ rfl,hBs.cell 1 _ rfl,hBs.cell 2 _ rfl,hBs.cell 3 _ rfl,HEND.out.2.1.row.cell 4 _ rfl⟩) (fun hHd17=>?_)
    clear hK K
    try simp only [PS]
    refine wpAnyH_done (by kernel_rfl) ?_ _
    go_end0
    exact ⟨⟨_,rfl⟩,⟨_,HEND.out.2.1⟩,HEND.out.2.2.2⟩
   ·go_simp
    refine hK.out _ _ (⟨hBa.cell 0 _ rfl,hBa.cell 1 _ rfl,hBa.cell 2 _ rfl,hBa.cell 3 _ rfl,hWa.row.cell 4 _ rfl⟩) (fun hHd18=>?_)
    clear hK K
    try simp only [PS]
    refine RD (i:=4) rfl (fun K hK=>?_)
    go_simp
    refine hK.out _ _ hHd18 (fun _=>?_)
    clear hK K
    try simp only [PS]
    refine RD (i:=15) rfl (fun K hK=>?_)
    refine step_append_lies _ (by rfl) _ _ _ (by rfl) base 100 i0 (.agg #[.bool false,.int .i64 0,.string ByteArray.empty]) 3 32 Tryz.underlying62 HI.out.1 HI.out.2.1 HI.out.2.2.1 HI.out.2.2.2 rfl (by omega) (.slice va os.length vc) os.length _ (by rfl) hWa.own ⟨w5.heap.size,0,none⟩ 1 1 [.bool false,.int .i64 (t % 2),.string rp] (by rfl) rfl (World.news_of_block (heap_alloc_new w5 _)) (oneOp _ _ _) (by omega) (by unfold maxLen;omega) (by omega) (by have:=hb5'.size;simp<;>omega) (w5.heap.size+1) (by simp) ?_
    intro g9 cap9 w9 hown9 hgrow9 hat9 hlt9
    have hend:=wrt_push (W:=w) (x:=(false,t % 2,rp)) hW5 (by have:=hb5'.size;omega) ((hbb.mono hb).trans (hb5'.mono (by omega))) hown9 hgrow9 hat9
    have hB9:=hBa.grown hgrow9 (fun e=>by have:=(h.own.lt w.heap.size e.symm).2;omega)
    have HEND:=hid hend
    have q9:=hend.1.cell 0 _ rfl
    have q94:=hend.1.cell 4 _ rfl
    have r9:=hend.1.froz 0 (by simp)
    have lg9:=hend.1.lt
    have hBn:w.heap.size≠g:=by omega
    clear hown9 hgrow9 hat9 hend
    refine hK.out _ _ (⟨hB9.cell 0 _ rfl,hB9.cell 1 _ rfl,hB9.cell 2 _ rfl,hB9.cell 3 _ rfl,q94⟩) (fun hHd20=>?_)
    clear hK K
    try simp only [PS]
    refine TY (i:=16) (v:=.pointer (some ⟨g,0,none⟩)) rfl hHd20 ?_
    simp only [PS]
    refine TY (i:=17) (v:=.pointer (some ⟨g,0,none⟩)) rfl hHd20 ?_
    simp only [PS]
    refine RD (i:=18) rfl (fun K hK=>?_)
    go_simp
    have hBs:=hB9.other ⟨g,0,none⟩ (by show g≠w.heap.size;omega) (.slice (some ⟨g9,0,none⟩) (os.length+1) cap9)
    refine hK.out _ _ (⟨hBs.cell 0 _ rfl,hBs.cell 1 _ rfl,hBs.cell 2 _ rfl,hBs.cell 3 _ rfl,HEND.out.2.1.row.cell 4 _ rfl⟩) (fun hHd21=>?_)
    clear hK K
    try simp only [PS]
    refine wpAnyH_done (by kernel_rfl) ?_ _
    go_end0
    exact ⟨⟨_,rfl⟩,⟨_,HEND.out.2.1⟩,HEND.out.2.2.2⟩
theorem mover_i (base g:Nat) (v:Value) (os:List OpT) (at_ nm lf wd:Int) (w:World) (h:Wrt w base g v os at_ nm lf wd) (hb:base<=w.heap.size) (hl:os.length<=1000) (ha0:0<=at_) (ha1:at_<=100000) (hn0:0<=nm) (hn1:nm<=2000000000) :
  Calls Tryz.prog 117 #[.pointer (some ⟨g,0,none⟩)] w fun e w'=>e=.returned (.func (.func 146) #[] #[.pointer (some ⟨w.heap.size,0,none⟩)])/\Row w' w.heap.size [.pointer (some ⟨g,0,none⟩)]/\(∃ v',Wrt w' base g v' (os++[(false,at_,formOf 3 lf nm ByteArray.empty wd)]) (at_+1) (nm+1) lf wd/\∀ k,v'.ownBlock=some k->k≠w.heap.size)/\Below base w w':=by
 have hmf:∀ (fn:Fn) (first cap:Array Value) (w:World),(Instr.makeFunc fn first cap).run Tryz.prog w=.ok (.func fn first cap) w:=fun _ _ _ _=>rfl
 have hbb:∀ o,Below w.heap.size w (w.alloc o):=fun o=>(Below.refl _ _).alloc (Nat.le_refl _) _
 have HN:=hid (newlife_i base g v os at_ nm lf wd _ (h.below (hbb (.cells #[.pointer (some ⟨g,0,none⟩)] 172))) (Nat.le_trans hb (hbb _).size) hl ha0 ha1 hn0 hn1)
 go_enter Tryz.func117,Tryz.ntmps117
 go_wp2_with (go_at_call 121;refine HN.out.mono ?_;rintro e w1 ⟨⟨x,rfl⟩,v',hW,hb1,hwk⟩)
 go_ret
 have lg:=h.row.lt
 refine ⟨rfl,(row_new w #[.pointer (some ⟨g,0,none⟩)] 172).wk hwk (by omega) (fun e=>by have:=(h.own.lt w.heap.size e.symm).2;omega),⟨v',hW,fun k hk e=>?_⟩,((hbb _).mono hb).trans hb1⟩
 subst e
 rcases hwk.own _ hk with h1 | h1
 ·have:=(h.own.lt _ h1).2;omega
 ·rw [World.size_alloc] at h1;omega
set_option maxHeartbeats 16000000 in
theorem mtake_i (base g B:Nat) (v:Value) (os:List OpT) (at_ nm lf:Int) (n m:Nat) (p:Option Addr) (b:List Ch) (cc:Nat) (w:World) (h:Wrt w base g v os at_ nm lf (n:Int)) (hB:Row w B [.pointer (some ⟨g,0,none⟩)]) (hBg:B≠g) (hBo:some B≠v.ownBlock) (hch:Chs w p b) (hbl:b.length<=1048576) (hbs:∀ x∈b,x.1.size<=1048576/\x.2.1.size<=1048576) (hb:base<=w.heap.size) (hl:os.length+(cutAll (bOut b) lf nm n m).length<=1000) (hm:n+m=56) (hn1:1<=n) (hn8:n<=8) (ha0:0<=at_) (ha1:at_<=10000) (hm0:0<=nm) (hm1:nm<=1900000000) :
  Calls Tryz.prog 146 #[.slice p b.length cc,.pointer (some ⟨B,0,none⟩)] w fun e w'=>(∃ x,e=.returned x)/\∃ v',Wrt w' base g v' (os++putOps at_ (cutAll (bOut b) lf nm n m)) (at_+((cutAll (bOut b) lf nm n m).length:Int)) (nm+((cutAll (bOut b) lf nm n m).length:Int)) lf (n:Int)/\Below base w w'/\WK g w v w' v':=by
 have HF:=hid (fun W (hW:Chs W p b)=>formbatch_i p b cc W hW hbl hbs)
 have hO:=bOut_bound b
 go_enter Tryz.func146,Tryz.ntmps146
 go_wp2_with fail
 refine wp_region_held_drew (S:=fun w'=>w'.cell? ⟨B,0,none⟩=some (.pointer (some ⟨g,0,none⟩))) (by kernel_rfl) (hB.drew.cell 0 _ rfl) (fun hHeld=>?_)
 refine TY (i:=0) (v:=.pointer (some ⟨g,0,none⟩)) rfl hHeld ?_
 simp only [PS]
 refine TY (i:=1) (v:=.slice p b.length cc) rfl hHeld ?_
 simp only [PS]
 refine RD (i:=2) rfl (fun K hK=>?_)
 refine step_call (by rfl) 143 #[.slice p b.length cc] (by go_simp) (HF.out _ (hch.below (Below.refl _ _).drew)) ?_
 rintro e w4 ⟨rfl,hb4⟩
 refine ⟨_,rfl,?_⟩
 have hb4':Below w.heap.size w w4:=(Below.refl _ _).drew.trans hb4
 have hB4:=hB.below hb4'
 refine hK.out _ _ (hB4.cell 0 _ rfl) (fun hHd1=>?_)
 clear hK K
 try simp only [PS]
 refine RD (i:=3) rfl (fun K hK=>?_)
 refine step_call (by rfl) 147 #[.pointer (some ⟨g,0,none⟩),.string (bOut b)] (by go_simp) (entry_i base g v os at_ nm lf n m _ _ (h.below hb4') (Nat.le_trans hb hb4'.size) (by omega) hl hm hn1 hn8 ha0 ha1 hm0 hm1) ?_
 rintro e w5 ⟨⟨x,rfl⟩,v',hW5,hb5,hwk5⟩
 refine ⟨_,rfl,?_⟩
 have hB5:=hB4.wk hwk5 hBg hBo
 refine hK.out _ _ (hB5.cell 0 _ rfl) (fun hHd2=>?_)
 clear hK K
 try simp only [PS]
 refine wpAnyH_done (by kernel_rfl) ?_ _
 go_end0
 exact ⟨⟨_,rfl⟩,v',hW5,(hb4'.mono hb).trans hb5,(⟨hb4'.size,fun _ h=>.inl h,fun b hb _ _=>hb4'.block b hb⟩:WK g w v w4 v).trans hwk5⟩
end Go.Proofs.YtcoegjnjjdndjaaGreatDoor
