import Derived.Test.YtnmaknnnmjfhkagGreatDoorPrPage2
import Derived.Test.YtnmaknnnmjfhkagGreatDoorPrG36
import Derived.BigQuiet
import Derived.Deep.QuietTactic
import Derived.Deep.RegionHeld3
import Derived.Test.YtnmaknnnmjfhkagGreatDoorPrG34
import Derived.Test.YtnmaknnnmjfhkagGreatDoorPrG51
set_option maxHeartbeats 16000000
set_option maxRecDepth 8000
set_option linter.unusedVariables false
set_option linter.unusedSimpArgs false
namespace Go.Proofs.YtnmaknnnmjfhkagGreatDoor
open Go.RowKit
set_option maxRecDepth 4000 in
set_option maxHeartbeats 16000000 in
theorem fill_i (k l m:Int) (p:ByteArray) (n:Nat) (w:World) (hok:pageOk k l m p n=true) :
  Calls Tryz.prog 245 #[pageV k l m p,.int .i64 (n:Int)] w fun e w'=>e=.returned (.agg ((nums (pageForm k l m p n)).map (Value.int .u8)).toArray)/\Below w.heap.size w w':=by
 have hok':=of_decide_eq_true (by unfold pageOk at hok;exact hok)
 obtain ⟨hn1,hn2,hk1,hk2,hl1,hl2,hm1,hm2,hp,_⟩:=hok'
 have hsl:=fun wx=>slice_arr_from (P:=Tryz.prog) (t:=267) Tryz.underlying267 (fun _=>by kernel_rfl) (w.heap.size+1+1) 0 n (by omega) .i64 (n:Int) rfl wx
 rw [Nat.zero_add] at hsl
 obtain ⟨M,HM⟩:∃ M,Hid (M=64-n):=⟨64-n,hide rfl⟩
 rw [<-HM.out] at hsl
 have hM1:(56:Int)<=(M:Int):=by have:=HM.out;omega
 have hM2:(M:Int)<=63:=by have:=HM.out;omega
 have hMa:(1:Int)<=(M:Int):=by omega
 have hMb:(3:Int)<=(M:Int):=by omega
 have hMc:(7:Int)<=(M:Int):=by omega
 have hMd:(8:Int)<=(M:Int):=by omega
 have hwk:IntKind.u64.wrap k=k:=wrap_u64_id k (by omega) (by omega)
 have hwl:IntKind.u64.wrap l=l:=wrap_u64_id l (by omega) (by omega)
 have hwm:IntKind.u64.wrap m=m:=wrap_u64_id m (by omega) (by omega)
 have hwp:IntKind.u64.wrap (p.size:Int)=(p.size:Int):=wrap_u64_id _ (by omega) (by omega)
 have hMe:¬ (M=1):=by omega
 have hMf:¬ (M=3):=by omega
 have hMg:¬ (M=7):=by omega
 go_enter Tryz.func245,Tryz.ntmps245
 go_wp2_with fail
 refine wp_start w (.int .i64 k) (.int .i64 l) (.int .i64 m) (.string p) _ _ _ _ _ rfl rfl ?_
 intro wa hpi hfm
 have hln0:(List.replicate 64 (0:Int)).length=64:=by simp
 obtain ⟨xs0,HX0⟩:∃ xs0,Hid (xs0=List.replicate 64 (0:Int)):=⟨_,hide rfl⟩
 rw [<-HX0.out] at hfm hln0
 have hfm0:=hfm
 have hpi0:=hpi
 clear hfm hpi
 have HS0:=hide hpi0.toS
 clear hpi0
 go_region_held3 (fun w'=>w'.cell? ⟨w.heap.size,0,none⟩=some (.int .i64 k)/\w'.cell? ⟨w.heap.size,1,none⟩=some (.int .i64 l)/\w'.cell? ⟨w.heap.size,2,none⟩=some (.int .i64 m)/\w'.cell? ⟨w.heap.size,3,none⟩=some (.string p)/\PI w w' (.int .i64 k) (.int .i64 l) (.int .i64 m) (.string p))
  (first | assumption | exact (PI.ofS HS0.out).drew.toS | exact (PI.wrote (PI.ofS (by assumption)) (by assumption)).toS)
  (first | (go_at_call 263;refine (put_any (w.heap.size+1+1) n 1 M k _ (by omega) (by omega) (by omega) (fun i hi=>⟨_,hfm0.drew.cell (n+i) (by rw [hln0];omega)⟩) (fun i hi=>hfm0.drew.froz (n+i) (by rw [hln0];omega))).mono ?_;rintro e wb ⟨rfl,hw0⟩))
 have hpi1:PI w wb (.int .i64 k) (.int .i64 l) (.int .i64 m) (.string p):=PI.ofS (by assumption)
 obtain ⟨xs1,HX1,hln1,hfm1⟩:=hfm0.drew.step hln0 hw0 (by rw [be_length];omega)
 clear HS0 hw0 hfm0 hln0
 go_wp2_with fail
 have HS1:=hide hpi1.toS
 clear hpi1
 go_region_held3 (fun w'=>w'.cell? ⟨w.heap.size,0,none⟩=some (.int .i64 k)/\w'.cell? ⟨w.heap.size,1,none⟩=some (.int .i64 l)/\w'.cell? ⟨w.heap.size,2,none⟩=some (.int .i64 m)/\w'.cell? ⟨w.heap.size,3,none⟩=some (.string p)/\PI w w' (.int .i64 k) (.int .i64 l) (.int .i64 m) (.string p))
  (first | assumption | exact (PI.ofS HS1.out).drew.toS | exact (PI.wrote (PI.ofS (by assumption)) (by assumption)).toS)
  (first | (go_at_call 263;refine (put_any (w.heap.size+1+1) (n+1) 2 (M-1) l _ (by omega) (by omega) (by omega) (fun i hi=>⟨_,hfm1.drew.cell (n+1+i) (by rw [hln1];omega)⟩) (fun i hi=>hfm1.drew.froz (n+1+i) (by rw [hln1];omega))).mono ?_;rintro e wc ⟨rfl,hw1⟩))
 have hpi2:PI w wc (.int .i64 k) (.int .i64 l) (.int .i64 m) (.string p):=PI.ofS (by assumption)
 obtain ⟨xs2,HX2,hln2,hfm2⟩:=hfm1.drew.step hln1 hw1 (by rw [be_length];omega)
 clear HS1 hw1 hfm1 hln1
 go_wp2_with fail
 have HS2:=hide hpi2.toS
 clear hpi2
 go_region_held3 (fun w'=>w'.cell? ⟨w.heap.size,0,none⟩=some (.int .i64 k)/\w'.cell? ⟨w.heap.size,1,none⟩=some (.int .i64 l)/\w'.cell? ⟨w.heap.size,2,none⟩=some (.int .i64 m)/\w'.cell? ⟨w.heap.size,3,none⟩=some (.string p)/\PI w w' (.int .i64 k) (.int .i64 l) (.int .i64 m) (.string p))
  (first | assumption | exact (PI.ofS HS2.out).drew.toS | exact (PI.wrote (PI.ofS (by assumption)) (by assumption)).toS)
  (first | (go_at_call 263;refine (put_any (w.heap.size+1+1) (n+3) 4 (M-3) m _ (by omega) (by omega) (by omega) (fun i hi=>⟨_,hfm2.drew.cell (n+3+i) (by rw [hln2];omega)⟩) (fun i hi=>hfm2.drew.froz (n+3+i) (by rw [hln2];omega))).mono ?_;rintro e wd ⟨rfl,hw2⟩))
 have hpi3:PI w wd (.int .i64 k) (.int .i64 l) (.int .i64 m) (.string p):=PI.ofS (by assumption)
 obtain ⟨xs3,HX3,hln3,hfm3⟩:=hfm2.drew.step hln2 hw2 (by rw [be_length];omega)
 clear HS2 hw2 hfm2 hln2
 go_wp2_with fail
 have HS3:=hide hpi3.toS
 clear hpi3
 go_region_held3 (fun w'=>w'.cell? ⟨w.heap.size,0,none⟩=some (.int .i64 k)/\w'.cell? ⟨w.heap.size,1,none⟩=some (.int .i64 l)/\w'.cell? ⟨w.heap.size,2,none⟩=some (.int .i64 m)/\w'.cell? ⟨w.heap.size,3,none⟩=some (.string p)/\PI w w' (.int .i64 k) (.int .i64 l) (.int .i64 m) (.string p))
  (first | assumption | exact (PI.ofS HS3.out).drew.toS | exact (PI.wrote (PI.ofS (by assumption)) (by assumption)).toS)
  (first | (go_at_call 263;refine (put_any (w.heap.size+1+1) (n+7) 1 (M-7) (p.size:Int) _ (by omega) (by omega) (by omega) (fun i hi=>⟨_,hfm3.drew.cell (n+7+i) (by rw [hln3];omega)⟩) (fun i hi=>hfm3.drew.froz (n+7+i) (by rw [hln3];omega))).mono ?_;rintro e we ⟨rfl,hw3⟩))
 have hpi4:PI w we (.int .i64 k) (.int .i64 l) (.int .i64 m) (.string p):=PI.ofS (by assumption)
 obtain ⟨xs4,HX4,hln4,hfm4⟩:=hfm3.drew.step hln3 hw3 (by rw [be_length];omega)
 clear HS3 hw3 hfm3 hln3
 go_wp2_with fail
 have hM8:¬ (M=8):=by omega
 have hps:p.size<=M-8:=by have:=HM.out;omega
 have HW4:=hide (hfm4.drew.copied (n+8) p (by rw [hln4];omega))
 have HC4:=hide (hfm4.drew.isSome (n+8) p.size (by rw [hln4];omega))
 have HF4:=hide (hfm4.drew.frozen (n+8) p.size (by rw [hln4];omega))
 have HS4:=hide hpi4.toS
 clear hpi4
 go_region_held3 (fun w'=>w'.cell? ⟨w.heap.size,0,none⟩=some (.int .i64 k)/\w'.cell? ⟨w.heap.size,1,none⟩=some (.int .i64 l)/\w'.cell? ⟨w.heap.size,2,none⟩=some (.int .i64 m)/\w'.cell? ⟨w.heap.size,3,none⟩=some (.string p)/\PI w w' (.int .i64 k) (.int .i64 l) (.int .i64 m) (.string p))
  (first | assumption | exact (PI.ofS HS4.out).drew.toS | exact (PI.wrote (PI.ofS HS4.out).drew HW4.out).toS)
  (first | (refine step_copy_string (by rfl) _ _ _ _ (by rfl) 5 Tryz.underlying47 (fun _=>by kernel_rfl) (w.heap.size+1+1) (n+8) (M-8) (M-8) (by rfl) p (by rfl) hps HC4.out HF4.out ?_))
 have hpi5:=PI.wrote (PI.ofS HS4.out).drew HW4.out
 obtain ⟨xs5,HX5,hln5,hfm5⟩:=hfm4.drew.step hln4 HW4.out (by rw [nums_length];omega)
 clear HS4 HW4 HC4 HF4 hfm4 hln4
 obtain ⟨wf,HWF⟩:∃ wf,wf=we.drew.setCells (w.heap.size+1+1) (n+8) (List.map (fun x=>Value.int IntKind.u8 (x.toNat:Int)) p.data.toList):=⟨_,rfl⟩
 rw [<-HWF] at hfm5 hpi5 ⊢
 clear HWF
 go_wp2_with fail
 have hs2:=fun wx=>slice_arr_to (P:=Tryz.prog) (t:=267) Tryz.underlying267 (fun _=>by kernel_rfl) (w.heap.size+1+1) 0 n (by omega) (by omega) .i64 (n:Int) rfl wx
 obtain ⟨bt,HB⟩:∃ bt,Hid (bt=strOfNums ((xs5.drop n).take M)):=⟨_,hide rfl⟩
 have hbt:bt.size=M:=by rw [HB.out,strOfNums_size,List.length_take,List.length_drop,hln5];have:=HM.out;omega
 have hF:w.heap.size+1+1<wf.drew.heap.size:=by have:=hpi5.size;show _<wf.heap.size;omega
 have toS8:∀ (wx:World) (xs:List Int),xs.length=64->(xs.drop n).take M=(xs5.drop n).take M->Fm wx (w.heap.size+1+1) xs->PI w wx (.int .i64 k) (.int .i64 l) (.int .i64 m) (.string p) ->
   (convert 47 9 (.slice (some ⟨w.heap.size+1+1,n,none⟩) M M)).run Tryz.prog wx=.ok (.string bt) wx/\wx.there (w.heap.size+1+1) 0 64/\PI w wx (.int .i64 k) (.int .i64 l) (.int .i64 m) (.string p):=fun wx xs hx hd hf hp=>by
  refine ⟨?_,fun j hj=>⟨?_,?_⟩,hp⟩
  ·rw [hf.text 47 5 9 Tryz.underlying47 Tryz.underlying5 Tryz.underlying9 n M M (by have:=HM.out;omega),hd,HB.out]
  ·exact hf.isSome 0 64 (by omega) j hj
  ·exact hf.frozen 0 64 (by omega) j hj
 have HT:=hide toS8
 have HF5:=hide hfm5
 have HP5:=hide hpi5
 clear toS8 hfm5 hpi5
 have hzs:(sumN bt n).size=n:=sumN_size _ _
 go_region_held3 (fun w'=>(convert 47 9 (.slice (some ⟨w.heap.size+1+1,n,none⟩) M M)).run Tryz.prog w'=.ok (.string bt) w'/\w'.there (w.heap.size+1+1) 0 64/\PI w w' (.int .i64 k) (.int .i64 l) (.int .i64 m) (.string p))
  (first | assumption | exact HT.out _ xs5 hln5 rfl HF5.out.drew HP5.out.drew | exact HT.out _ xs5 hln5 rfl (HF5.out.drew.below hbs hF) (HP5.out.drew.below hbs) | exact HT.out _ _ (by rw [spl_length _ _ _ (by rw [nums_length,hzs];omega)];exact hln5) (by rw [spl_drop _ _ n (by rw [nums_length,hzs])]) ((HF5.out.drew.below hbs hF).wrote ((HF5.out.drew.below hbs hF).copied 0 (sumN bt n) (by rw [hzs];omega)) (by rw [nums_length,hzs];omega)) (PI.wrote (HP5.out.drew.below hbs) ((HF5.out.drew.below hbs hF).copied 0 (sumN bt n) (by rw [hzs];omega))))
  (first | (go_at_call 268;refine (sum_i bt _ n (by rw [hbt];omega) (by omega) (by omega)).mono ?_;rintro e wg ⟨rfl,hbs⟩) | (refine step_copy_string (by rfl) _ _ _ _ (by rfl) 5 Tryz.underlying47 (fun _=>by kernel_rfl) (w.heap.size+1+1) 0 n 64 (by rfl) (sumN bt n) (by rfl) (by rw [hzs];omega) (fun j hj=>((HT.out _ xs5 hln5 rfl (HF5.out.drew.below hbs hF) (HP5.out.drew.below hbs)).2.1 j (by rw [hzs] at hj;omega)).1) (fun j hj=>((HT.out _ xs5 hln5 rfl (HF5.out.drew.below hbs hF) (HP5.out.drew.below hbs)).2.1 j (by rw [hzs] at hj;omega)).2) ?_))
 have hw6:=(HF5.out.drew.below hbs hF).copied 0 (sumN bt n) (by rw [hzs];omega)
 have hpi6:=PI.wrote (HP5.out.drew.below hbs) hw6
 obtain ⟨xs6,HX6,hln6,hfm6⟩:=(HF5.out.drew.below hbs hF).step hln5 hw6 (by rw [nums_length,hzs];omega)
 have HR:Hid (xs6=nums (pageForm k l m p n)):=by
  have h5:=fill_list k l m p n (by omega) HX0.out HX1.out HX2.out HX3.out HX4.out HX5.out
  show xs6=_
  rw [HX6.out,(form_list k l m p n (by omega) HM.out h5 HB.out).2]
 clear hw6 HF5 HP5 HT hbs hF
 obtain ⟨wh,HWH⟩:∃ wh,wh=wg.setCells (w.heap.size+1+1) 0 (List.map (fun x=>Value.int IntKind.u8 (x.toNat:Int)) (sumN bt n).data.toList):=⟨_,rfl⟩
 rw [<-HWH] at hfm6 hpi6 ⊢
 clear HWH
 have hsz6:(xs6.map (Value.int .u8)).toArray.size=64:=by simp [hln6]
 go_wp2_with (first
  | (refine wpList_load_mid rfl 267 _ rfl (w.heap.size+1+1) 0 rfl (xs6.map (Value.int .u8)) _ hfm6.range Tryz.underlying267 rfl (by rw [List.length_map,hln6];kernel_rfl) ?_)
  | (refine wpList_store_mid rfl 267 _ _ rfl (w.heap.size+1) 0 (xs6.map (Value.int .u8)).toArray rfl rfl (by rw [hsz6];exact hpi6.there) (by rw [hsz6];kernel_rfl) (all_oneCell_toArray (ints_one xs6)) ?_))
 refine bodyPost_ret (v:=.agg (xs6.map (Value.int .u8)).toArray) (results_cell1 (p:=4) Tryz.results245 _ _ (w.heap.size+1) 0 rfl (xs6.map (Value.int .u8)) _ (World.rangeAt_setCells_same _ _ _ _ (by rw [List.length_map,hln6];exact hpi6.there)) Tryz.underlying267 rfl (by rw [List.length_map,hln6];kernel_rfl)) rfl ⟨by rw [HR.out],?_⟩
 exact below_setCells (by omega) _ _ _ hpi6.bel
def formOf (k l m:Int) (p:ByteArray) (n:Int):ByteArray:=if pageOk k l m p n=true then pageForm k l m p n.toNat else ByteArray.empty
theorem form_s_any (k l m:Int) (p:ByteArray) (n:Int) (w:World) (hp:p.size<=1048576) :
  Calls Tryz.prog 55 #[pageV k l m p,.int .i64 n] w fun e w'=>e=.returned (.string (formOf k l m p n))/\Below w.heap.size w w':=by
 unfold formOf
 cases h:pageOk k l m p n with
 | true =>
  have hd:=of_decide_eq_true (by unfold pageOk at h;exact h)
  have hn:1<=n:=hd.1
  obtain ⟨j,rfl⟩:∃ j:Nat,n=(j:Int):=⟨n.toNat,by omega⟩
  rw [if_pos rfl,Int.toNat_natCast]
  exact form_s k l m p j w h
 | false=>rw [if_neg (by simp)];exact form_s_no k l m p n w hp h
theorem grown_trans {a b c:World} {r:Option Nat} (h:a.grownBy b r) (k:b.grownBy c r):a.grownBy c r :=
 ⟨k.os.trans h.os,k.tape.trans h.tape,k.output.trans h.output,Nat.le_trans h.size k.size,fun i hi hr=>(k.block i (Nat.lt_of_lt_of_le hi h.size) hr).trans (h.block i hi hr)⟩
theorem grown_of_below {a b:World} (r:Option Nat) (h:Below a.heap.size a b):a.grownBy b r:=⟨h.os,h.tape,h.output,h.size,fun i hi _=>h.block i hi⟩
theorem grown_set {a b:World} {g:Nat} (h:a.grownBy b (some g)) (i:Nat) (v:Value):a.grownBy (b.setCell ⟨g,i,none⟩ v) (some g) :=
 grown_trans h ⟨rfl,rfl,rfl,by simp [World.setCell],fun j _ hj=>Below.heap_setCell _ _ _ _ (fun e=>hj (by rw [e]))⟩
theorem grown_below {a b:World} {r:Option Nat} {B:Nat} (h:a.grownBy b r) (hB:B<=a.heap.size) (hr:∀ g,r=some g->B<=g):Below B a b :=
 ⟨h.os,h.tape,h.output,h.size,fun k hk=>h.block k (by omega) (fun e=>by have:=hr k e.symm;omega)⟩
theorem Row.grown {w w':World} {g:Nat} {cs:List Value} {r:Option Nat} (h:Row w g cs) (hg:w.grownBy w' r) (hn:some g≠r):Row w' g cs :=
 ⟨Nat.lt_of_lt_of_le h.lt hg.size,fun i v hv=>(World.cell?_of_block (a:=⟨g,i,none⟩) (hg.block g h.lt hn)).trans (h.cell i v hv),fun i hi=>(World.frozen?_of_block (a:=⟨g,i,none⟩) (hg.block g h.lt hn)).trans (h.froz i hi)⟩
def OwnS (w:World) (a:Option Addr) (cs:List Value):Prop:=cs=[]\/∃ g,a=some ⟨g,0,none⟩/\Row w g cs
def blk (a:Option Addr) (n:Nat):Option Nat:=if n=0 then none else a.map (·.block)
theorem blk_pos (b o:Nat) (n:Nat) (h:n≠0):blk (some ⟨b,o,none⟩) n=some b:=by simp [blk,h]
structure OwnD (w:World) (a:Option Addr) (ss:List ByteArray) (a':Option Addr) (ws:List (Int×ByteArray)):Prop where
 s:OwnS w a (ss.map Value.string)
 p:OwnS w a' (wcells ws)
 ne:blk a ss.length=none\/blk a' ws.length=none\/blk a ss.length≠blk a' ws.length
theorem OwnS.below {w w':World} {a:Option Addr} {cs:List Value} (h:OwnS w a cs) (hb:Below w.heap.size w w'):OwnS w' a cs:=by
 rcases h with h | ⟨g,h1,h2⟩
 ·exact .inl h
 ·exact .inr ⟨g,h1,h2.below hb⟩
theorem OwnS.grown {w w':World} {a:Option Addr} {cs:List Value} {r:Option Nat} (h:OwnS w a cs) (hg:w.grownBy w' r) (hn:∀ g,a=some ⟨g,0,none⟩->cs≠[]->some g≠r):OwnS w' a cs:=by
 by_cases hc:cs=[]
 ·exact .inl hc
 ·obtain ⟨g,h1,h2⟩:=h.resolve_left hc
  exact .inr ⟨g,h1,h2.grown hg (hn g h1 hc)⟩
theorem OwnS.lt {w:World} {a:Option Addr} {cs:List Value} (h:OwnS w a cs) (n:Nat) (hn:n≠0->cs≠[]):∀ g,blk a n=some g->g<w.heap.size:=fun g hg=>by
 by_cases h0:n=0
 ·subst h0;cases hg
 ·obtain ⟨g',rfl,h2⟩:=h.resolve_left (hn h0)
  rw [blk_pos g' 0 n h0] at hg
  cases hg
  exact h2.lt
theorem OwnD.below {w w':World} {a a':Option Addr} {ss:List ByteArray} {ws:List (Int×ByteArray)} (h:OwnD w a ss a' ws) (hb:Below w.heap.size w w'):OwnD w' a ss a' ws:=⟨h.s.below hb,h.p.below hb,h.ne⟩
theorem OwnS.strs {w:World} {a:Option Addr} {ss:List ByteArray} (h:OwnS w a (ss.map Value.string)):Strs w a ss:=by
 rcases h with h | ⟨g,rfl,h2⟩
 ·exact .inl (by simpa using h)
 ·exact h2.strs
theorem OwnS.wrs {w:World} {a:Option Addr} {ws:List (Int×ByteArray)} (h:OwnS w a (wcells ws)):Wrs w a ws:=by
 rcases h with h | ⟨g,rfl,h2⟩
 ·exact .inl (by have:=congrArg List.length h;rw [wcells_length,List.length_nil] at this;exact List.eq_nil_of_length_eq_zero (by omega))
 ·exact h2.wrs
def cutAt (s:ByteArray) (l f:Int) (n m N i:Nat):ByteArray:=formOf (if i+1=N then 2 else 1) l (f+(i:Int)) (s.extract (i*m) (i*m+m)) (n:Int)
def cutOk (l f:Int) (N:Nat):Bool:=decide (1<=l/\l<=60000/\1<=f/\f+(N:Int)<=1000000001)
def cutList (s:ByteArray) (l f:Int) (n m N k:Nat):List ByteArray:=(List.range k).map (cutAt s l f n m N)
theorem cutList_succ (s:ByteArray) (l f:Int) (n m N k:Nat):cutList s l f n m N (k+1)=cutList s l f n m N k++[cutAt s l f n m N k]:=by simp [cutList,List.range_succ]
theorem cutList_length (s:ByteArray) (l f:Int) (n m N k:Nat):(cutList s l f n m N k).length=k:=by simp [cutList]
def cutAll (s:ByteArray) (l f:Int) (n m:Nat):List ByteArray:=if cutOk l f (nparts s.size m)=true then cutList s l f n m (nparts s.size m) (nparts s.size m) else []
theorem nparts_le (l m:Nat):nparts l m<=l+1:=by
 unfold nparts
 split
 ·omega
 ·have:=Nat.div_le_self (l-1) m;omega
theorem nparts_pos (l m:Nat):0<nparts l m:=by
 unfold nparts
 split
 ·omega
 ·exact Nat.succ_pos _
theorem nparts_last (l m k:Nat) (hm:0<m) (hk:k<nparts l m):l<=(k+1)*m<->k+1=nparts l m:=by
 unfold nparts at hk ⊢
 by_cases hl:l=0
 ·rw [if_pos hl] at hk ⊢
  omega
 ·rw [if_neg hl] at hk ⊢
  constructor
  ·intro h
   have:(l-1) / m<k+1:=(Nat.div_lt_iff_lt_mul hm).2 (by omega)
   omega
  ·intro h
   have h2:(l-1) / m<k+1:=by omega
   have:=(Nat.div_lt_iff_lt_mul hm).1 h2
   omega
theorem piece_le (s:ByteArray) (a m:Nat):(s.extract a (a+m)).size<=m:=by simp only [ByteArray.size_extract];omega
theorem cutAll_yes {s:ByteArray} {l f:Int} {n m N:Nat} (hN:N=nparts s.size m) (h:1<=l/\l<=60000/\1<=f/\f+(N:Int)<=1000000001):cutAll s l f n m=cutList s l f n m N N:=by
 unfold cutAll cutOk;rw [<-hN,if_pos (by simpa using h)]
theorem cutAll_no {s:ByteArray} {l f:Int} {n m N:Nat} (hN:N=nparts s.size m) (h:¬ (1<=l/\l<=60000/\1<=f/\f+(N:Int)<=1000000001)):cutAll s l f n m=[]:=by
 unfold cutAll cutOk;rw [<-hN,if_neg (by simpa using h)]
def NewS (w w':World) (e:Ending) (ss:List ByteArray):Prop:=∃ a c,e=.returned (.slice a ss.length c)/\OwnS w' a (ss.map Value.string)/\(∀ g,blk a ss.length=some g->w.heap.size<=g)/\Below w.heap.size w w'
theorem newS_nil {w w':World} {v:Value} {a:Option Addr} {c:Nat} (hv:v=.slice a 0 c) (hb:Below w.heap.size w w'):NewS w w' (.returned v) []:=⟨a,c,by rw [hv];rfl,.inl rfl,fun g h=>(by cases h),hb⟩
theorem newS_of {w w':World} {v:Value} {k:Nat} {e:TypeId} {ss:List ByteArray} (h:w'.ownsRow w.heap.size e 1 v k (ss.map Value.string)) (hk:k=ss.length) (hb:Below w.heap.size w w'):NewS w w' (.returned v) ss:=by
 rcases owns_forms h with ⟨h1,h2⟩ | ⟨g,cap,h1,h2,_,h3⟩
 ·have:ss=[]:=List.eq_nil_of_length_eq_zero (by omega)
  subst this
  exact newS_nil h1 hb
 ·subst hk
  refine ⟨_,cap,by rw [h1],.inr ⟨g,rfl,h3⟩,fun g' hg'=>?_,hb⟩
  by_cases h0:ss.length=0
  ·rw [h0] at hg';cases hg'
  ·rw [blk_pos g 0 _ h0] at hg';cases hg';exact h2
set_option maxRecDepth 4000 in
set_option maxHeartbeats 16000000 in
theorem cut_s (s:ByteArray) (l f:Int) (n m:Nat) (w:World) (hs:s.size<=1048576) (hm:n+m=56) (h1:1<=n) (h2:n<=8) :
  Calls Tryz.prog 102 #[.string s,.int .i64 l,.int .i64 f,.int .i64 (n:Int)] w fun e w'=>NewS w w' e (cutAll s l f n m):=by
 have hd:decide (1<=(n:Int)/\(n:Int)<=8)=true:=by simp;omega
 have hb0:∀ o,Below w.heap.size w (w.alloc o):=fun o=>(Below.refl _ _).alloc (Nat.le_refl _) _
 obtain ⟨N,HN⟩:∃ N,Hid (N=nparts s.size m):=⟨_,hid rfl⟩
 have hN1:N<=1048577:=by have:=nparts_le s.size m;rw [HN.out];omega
 have hN0:0<N:=by rw [HN.out];exact nparts_pos _ _
 obtain ⟨R,HR⟩:∃ R,Hid (R=cutAll s l f n m):=⟨_,hid rfl⟩
 rw [<-HR.out]
 by_cases hl1:1<=l
 ·by_cases hl2:l<=60000
  ·by_cases hl3:1<=f
   ·by_cases hl4:f<=1000000000
    ·by_cases hN2:(N:Int)<=1000000000-f+1
     ·have HRR:Hid (R=cutList s l f n m N N):=by show _=_;rw [HR.out];exact cutAll_yes HN.out (by omega)
      clear HR
      obtain ⟨i0,hi0,hz0,hz1,hz2⟩:=info_parts infoStr'
      have HI:=hid (And.intro hi0 (And.intro hz0 (And.intro hz1 hz2)))
      clear hi0 hz0 hz1 hz2
      go_enter Tryz.func102,Tryz.ntmps102
      go_wp2_with (first | (go_at_call 49;refine (width_s _ _).mono ?_;rw [hd];rintro e w2 ⟨rfl,rfl⟩) | (go_at_call 191;refine (parts_s s n m _ hs hm h1 h2).mono ?_;rw [<-HN.out];rintro e w2 ⟨g,c,rfl,hg,hrow,hb⟩;have HROW:=hid hrow;clear hrow))
      simp only [World.size_alloc] at hg
      have hB2:Below w.heap.size w w2:=(hb0 _).trans (hb.mono (by simp))
      have hown0:w2.ownsRow w.heap.size 9 1 (.slice (some ⟨w.heap.size,0,none⟩) 0 0) 0 []:=owns_below (World.ownsRow_lit w #[] 0 (Nat.le_refl _) (by simp) (by simp)) hb
      clear hb
      go_loopw [9,11,12] (fun y i _ wr=>∃ k:Nat,k<=N/\i=.int .i64 k/\wr.ownsRow w.heap.size 9 1 y k ((cutList s l f n m N k).map Value.string)/\y.ownBlock≠some g/\Row wr g ((pieces s m N).map Value.string)/\Below w.heap.size w wr) (fun _ i _ _=>N-(intOf i).toNat)
      case atStart=>exact ⟨0,Nat.zero_le _,rfl,hown0,by simp [Value.ownBlock];omega,HROW.out,hB2⟩
      case round =>
       obtain ⟨k,hk,rfl,hown,hne,hrow,hbel⟩:=hrel
       by_cases hlt:k<N
       ·have hc:=hrow.cell k (.string (s.extract (k*m) (k*m+m))) (by simp [pieces,hlt])
        obtain ⟨p,HP⟩:∃ p,Hid (p=s.extract (k*m) (k*m+m)):=⟨_,hid rfl⟩
        rw [<-HP.out] at hc
        have hpz:p.size<=1048576:=by rw [HP.out];have:=piece_le s (k*m) m;omega
        have hsz:w.heap.size<=wr.heap.size:=hbel.size
        have hglt:=hrow.lt
        have HB:=hid hbel
        have HRW:=hid hrow
        have HOWN:=hid hown
        clear hbel hrow hown
        obtain ⟨F,HF⟩:∃ F,Hid (F=cutAt s l f n m N k):=⟨_,hid rfl⟩
        obtain ⟨kd,hkd⟩:∃ kd:Int,kd=if k+1=N then 2 else 1:=⟨_,rfl⟩
        have HFF:Hid (formOf kd l (f+(k:Int)) p (n:Int)=F):=by show _=_;rw [HF.out,HP.out,hkd];rfl
        have fin:∀ (w5:World),Below wr.heap.size wr w5->∀ (w7:World) (g' cap:Nat),w7.ownsRow w.heap.size 9 1 (.slice (some ⟨g',0,none⟩) (k+1) cap) (k+1) ((cutList s l f n m N k).map Value.string++[.string F])->(w5.alloc (.cells #[.string F] 9)).grownBy w7 u9.ownBlock->(u9.ownBlock=some g'\/g'=w5.heap.size+1)->(∃ k':Nat,k'<=N/\Value.int .i64 ((k:Int)+1)=.int .i64 k'/\w7.ownsRow w.heap.size 9 1 (.slice (some ⟨g',0,none⟩) (k+1) cap) k' ((cutList s l f n m N k').map Value.string)/\(Value.slice (some ⟨g',0,none⟩) (k+1) cap).ownBlock≠some g/\Row w7 g ((pieces s m N).map Value.string)/\Below w.heap.size w w7):=fun w5 hb5 w7 g' cap ho7 hg7 hat=>by
         have hs5:=hb5.size
         refine ⟨k+1,by omega,by go_num,?_,?_,?_,?_⟩
         ·rw [cutList_succ,List.map_append,<-HF.out];exact ho7
         ·rcases hat with hat | hat
          ·intro he;exact hne (hat.trans (by simpa [Value.ownBlock] using he))
          ·simp [Value.ownBlock];omega
         ·exact ((HRW.out.below hb5).alloc _).grown hg7 (fun he=>hne he.symm)
         ·exact below_grown ((HB.out.trans (hb5.mono hsz)).alloc (by omega) _) ((owns_below HOWN.out hb5).alloc _) hg7 (by simp;omega)
        have HFIN:=hid fin
        clear fin
        by_cases hkN:k+1=N
        ·have hq:((k:Int) == (N:Int)-1)=true:=by simp;omega
         rw [if_pos hkN] at hkd
         subst hkd
         clear hkN
         go_wp2_with (first | (go_at_call 55;refine (form_s_any 2 l (f+(k:Int)) p (n:Int) _ hpz).mono ?_;rw [HFF.out];rintro e w5 ⟨rfl,hb5⟩;have hs5:=hb5.size;have HO5:=hid ((owns_below HOWN.out hb5).alloc (.cells #[.string F] 9))) | (at_builtin;refine wpList_append_lies _ rfl _ _ 22 rfl w.heap.size 9 i0 (.string ByteArray.empty) 1 16 Tryz.underlying22 HI.out.1 HI.out.2.1 HI.out.2.2.1 HI.out.2.2.2 rfl (by omega) _ k _ rfl HO5.out ⟨w5.heap.size,0,none⟩ 1 1 [.string F] rfl rfl (World.news_of_block (heap_alloc_new w5 _)) (by intro u hu;simp at hu;subst hu;rfl) (by omega) (by unfold maxLen;omega) (by omega) (by simp;omega) (w5.heap.size+1) (by simp) ?_;intro g' cap w7 hown7 hgrow7 hat7 hlt7;have HFI:=hid (HFIN.out w5 hb5 w7 g' cap hown7 hgrow7 hat7);clear hown7 hgrow7 hat7))
         exact ⟨HFI.out,by simp [intOf];omega⟩
        ·have hq:((k:Int) == (N:Int)-1)=false:=by simp;omega
         rw [if_neg hkN] at hkd
         subst hkd
         go_wp2_with (first | (go_at_call 55;refine (form_s_any 1 l (f+(k:Int)) p (n:Int) _ hpz).mono ?_;rw [HFF.out];rintro e w5 ⟨rfl,hb5⟩;have hs5:=hb5.size;have HO5:=hid ((owns_below HOWN.out hb5).alloc (.cells #[.string F] 9))) | (at_builtin;refine wpList_append_lies _ rfl _ _ 22 rfl w.heap.size 9 i0 (.string ByteArray.empty) 1 16 Tryz.underlying22 HI.out.1 HI.out.2.1 HI.out.2.2.1 HI.out.2.2.2 rfl (by omega) _ k _ rfl HO5.out ⟨w5.heap.size,0,none⟩ 1 1 [.string F] rfl rfl (World.news_of_block (heap_alloc_new w5 _)) (by intro u hu;simp at hu;subst hu;rfl) (by omega) (by unfold maxLen;omega) (by omega) (by simp;omega) (w5.heap.size+1) (by simp) ?_;intro g' cap w7 hown7 hgrow7 hat7 hlt7;have HFI:=hid (HFIN.out w5 hb5 w7 g' cap hown7 hgrow7 hat7);clear hown7 hgrow7 hat7))
         exact ⟨HFI.out,by simp [intOf];omega⟩
       ·have hkN:k=N:=by omega
        subst hkN
        have HO:=hid hown
        clear hown hrow
        go_wp2
        go_ret
        rw [HRR.out]
        exact newS_of HO.out (cutList_length _ _ _ _ _ _ _).symm hbel
     ·have HRR:Hid (R=[]):=by show _=_;rw [HR.out];exact cutAll_no HN.out (by omega)
      clear HR
      go_enter Tryz.func102,Tryz.ntmps102
      go_wp2_with (first | (go_at_call 49;refine (width_s _ _).mono ?_;rw [hd];rintro e w2 ⟨rfl,rfl⟩) | (go_at_call 191;refine (parts_s s n m _ hs hm h1 h2).mono ?_;rw [<-HN.out];rintro e w2 ⟨g,c,rfl,hg,hrow,hb⟩;clear hrow))
      go_ret
      rw [HRR.out]
      exact newS_nil rfl ((hb0 _).trans (hb.mono (by simp)))
    ·have HRR:Hid (R=[]):=by show _=_;rw [HR.out];exact cutAll_no HN.out (by omega)
     clear HR
     go_enter Tryz.func102,Tryz.ntmps102
     go_wp2_with (first | (go_at_call 49;refine (width_s _ _).mono ?_;rw [hd];rintro e w2 ⟨rfl,rfl⟩))
     go_ret
     rw [HRR.out]
     exact newS_nil rfl (hb0 _)
   ·have HRR:Hid (R=[]):=by show _=_;rw [HR.out];exact cutAll_no HN.out (by omega)
    clear HR
    go_enter Tryz.func102,Tryz.ntmps102
    go_wp2_with (first | (go_at_call 49;refine (width_s _ _).mono ?_;rw [hd];rintro e w2 ⟨rfl,rfl⟩))
    go_ret
    rw [HRR.out]
    exact newS_nil rfl (hb0 _)
  ·have HRR:Hid (R=[]):=by show _=_;rw [HR.out];exact cutAll_no HN.out (by omega)
   clear HR
   go_enter Tryz.func102,Tryz.ntmps102
   go_wp2_with (first | (go_at_call 49;refine (width_s _ _).mono ?_;rw [hd];rintro e w2 ⟨rfl,rfl⟩))
   go_ret
   rw [HRR.out]
   exact newS_nil rfl (hb0 _)
 ·have HRR:Hid (R=[]):=by show _=_;rw [HR.out];exact cutAll_no HN.out (by omega)
  clear HR
  go_enter Tryz.func102,Tryz.ntmps102
  go_wp2_with (first | (go_at_call 49;refine (width_s _ _).mono ?_;rw [hd];rintro e w2 ⟨rfl,rfl⟩))
  go_ret
  rw [HRR.out]
  exact newS_nil rfl (hb0 _)
theorem form_i_no (k l m:Int) (p:ByteArray) (n:Int) (w:World) (hp:p.size<=1048576) (hok:pageOk k l m p n=false) :
  Calls Tryz.prog 228 #[pageV k l m p,.int .i64 n] w fun e w'=>e=.returned (.string ByteArray.empty)/\Below w.heap.size w w':=by
 go_enter Tryz.func228,Tryz.ntmps228
 go_wp2_with (go_at_call 244;refine (ok_i k l m p n _ hp).mono ?_;rw [hok];rintro e w1 ⟨rfl,hb1⟩)
 go_ret
 exact ⟨rfl,((Below.refl _ _).alloc (Nat.le_refl _) _).trans (hb1.mono (by simp))⟩
set_option maxRecDepth 4000 in
set_option maxHeartbeats 16000000 in
theorem form_i (k l m:Int) (p:ByteArray) (n:Nat) (w:World) (hok:pageOk k l m p n=true) :
  Calls Tryz.prog 228 #[pageV k l m p,.int .i64 (n:Int)] w fun e w'=>e=.returned (.string (pageForm k l m p n))/\Below w.heap.size w w':=by
 have hok':=of_decide_eq_true (by unfold pageOk at hok;exact hok)
 obtain ⟨hn1,hn2,hk1,hk2,hl1,hl2,hm1,hm2,hp,_⟩:=hok'
 go_enter Tryz.func228,Tryz.ntmps228
 go_wp2_with (go_at_call 244;refine (ok_i k l m p n _ (by omega)).mono ?_;rw [hok];rintro e w1 ⟨rfl,hb1⟩;obtain ⟨q,q0,q1,q2,q3,hb2⟩:=keep4 (W:=w) (v0:=.int .i64 k) (v1:=.int .i64 l) (v2:=.int .i64 m) (v3:=.string p) hb1 ⟨by simp,by simp,by simp,by simp,by simp,(Below.refl _ _).alloc (Nat.le_refl _) _⟩;clear hb1)
 refine (fill_i k l m p n _ hok).mono ?_
 rintro e w2 ⟨rfl,hb3⟩
 clear q q0 q1 q2 q3
 have hb4:=hb2.trans (hb3.mono hb2.size)
 clear hb2 hb3
 obtain ⟨xs,HX⟩:∃ xs,Hid (xs=nums (pageForm k l m p n)):=⟨_,hide rfl⟩
 have hln:xs.length=64:=by rw [HX.out,nums_length];exact pageForm_size k l m p n (by omega)
 have hsz:(xs.map (Value.int .u8)).toArray.size=64:=by simp [hln]
 rw [<-HX.out]
 go_wp2_with (refine wpList_store_new rfl 267 _ _ rfl xs rfl rfl _ _ (.int .u8 0) (by rw [hln];rfl) (by rw [hln];kernel_rfl) ?_;intro wx hfm hbx _;have hcv:=hfm.text (P:=Tryz.prog) 47 5 9 Tryz.underlying47 Tryz.underlying5 Tryz.underlying9 0 64 64 (by omega);rw [List.drop_zero,List.take_of_length_le (by omega)] at hcv;clear hfm)
 go_ret
 refine ⟨ret_str ?_,hb4.trans (hbx.mono hb4.size)⟩
 rw [HX.out,strOfNums_nums]
theorem form_i_any (k l m:Int) (p:ByteArray) (n:Int) (w:World) (hp:p.size<=1048576) :
  Calls Tryz.prog 228 #[pageV k l m p,.int .i64 n] w fun e w'=>e=.returned (.string (formOf k l m p n))/\Below w.heap.size w w':=by
 unfold formOf
 cases h:pageOk k l m p n with
 | true =>
  have hd:=of_decide_eq_true (by unfold pageOk at h;exact h)
  have hn:1<=n:=hd.1
  obtain ⟨j,rfl⟩:∃ j:Nat,n=(j:Int):=⟨n.toNat,by omega⟩
  rw [if_pos rfl,Int.toNat_natCast]
  exact form_i k l m p j w h
 | false=>rw [if_neg (by simp)];exact form_i_no k l m p n w hp h
@[reducible] def rootV (t h f l:Int):Value:=.agg #[.int .i64 t,.int .i64 h,.int .i64 f,.int .i64 l]
abbrev rtOk (h f:Int):Prop:=0<=h/\h<=1/\1<=f/\f<=999999000
def rtPart (h f:Int):ByteArray:=strOfNums (be 1 h)++strOfNums (be 4 f)
def rtForm (t h f l n:Int):ByteArray:=if rtOk h f then formOf 4 l t (rtPart h f) n else ByteArray.empty
theorem half_i (h:Int) (w:World):Calls Tryz.prog 223 #[.int .i64 h] w fun e w'=>e=.returned (.bool (decide (0<=h/\h<=1)))/\w'=w:=by
 have hh:decide (0<=h/\h<=1)=(decide (h=0) || decide (h=1)):=by rw [Bool.eq_iff_iff];simp;omega
 rw [hh]
 go_enter Tryz.func223,Tryz.ntmps223
 by_cases h1:h=0
 ·subst h1;go_wp2;go_ret;exact ⟨rfl,rfl⟩
 ·by_cases h2:h=1
  ·subst h2;go_wp2;go_ret;exact ⟨rfl,rfl⟩
  ·go_wp2;go_ret;simp [h1,h2]
theorem first_i (f:Int) (w:World):Calls Tryz.prog 224 #[.int .i64 f] w fun e w'=>e=.returned (.bool (decide (1<=f/\f<=999999000)))/\w'=w:=by
 go_enter Tryz.func224,Tryz.ntmps224
 by_cases h1:1<=f<;>by_cases h2:f<=999999000<;>(go_wp2;go_ret;simp [h1,h2])
theorem rootpage_s_no (t h f l n:Int) (w:World) (hno:¬ rtOk h f):Calls Tryz.prog 142 #[rootV t h f l,.int .i64 n] w fun e w'=>e=.returned (.string ByteArray.empty)/\Below w.heap.size w w':=by
 have hb0:∀ o,Below w.heap.size w (w.alloc o):=fun o=>(Below.refl _ _).alloc (Nat.le_refl _) _
 unfold rtOk at hno
 go_enter Tryz.func142,Tryz.ntmps142
 by_cases h1:0<=h<;>by_cases h2:h<=1<;>by_cases h3:1<=f<;>by_cases h4:f<=999999000<;>first | (exfalso;omega) | (clear hno;go_wp2;go_ret;exact ⟨rfl,hb0 _⟩)
set_option maxHeartbeats 16000000 in
theorem rootpage_s_ok (t h f l n:Int) (w:World) (hok:rtOk h f):Calls Tryz.prog 142 #[rootV t h f l,.int .i64 n] w fun e w'=>e=.returned (.string (formOf 4 l t (rtPart h f) n))/\Below w.heap.size w w':=by
 obtain ⟨h1,h2,h3,h4⟩:=hok
 obtain ⟨A,hA⟩:∃ A,strOfNums (be 1 h)=A:=⟨_,rfl⟩
 obtain ⟨B,hB⟩:∃ B,strOfNums (be 4 f)=B:=⟨_,rfl⟩
 have zA:A.size=1:=by rw [<-hA,strOfNums_size,be_length]
 have zB:B.size=4:=by rw [<-hB,strOfNums_size,be_length]
 have HP:Hid (rtPart h f=A++B):=by show _=_;unfold rtPart;rw [hA,hB]
 have numA:=fun wx=>num_s' h 1 1 rfl wx (by omega) (by omega) (by omega)
 have numB:=fun wx=>num_s' f 4 4 rfl wx (by omega) (by omega) (by omega)
 simp only [hA] at numA
 simp only [hB] at numB
 rw [HP.out]
 have hz:(A++B).size<=1048576:=by simp only [ByteArray.size_append];omega
 go_enter Tryz.func142,Tryz.ntmps142
 go_wp2_with fail
 have hS:w.heap.size<(w.alloc (.cells #[.int .i64 t,.int .i64 h,.int .i64 f,.int .i64 l] 28)).heap.size/\(w.alloc (.cells #[.int .i64 t,.int .i64 h,.int .i64 f,.int .i64 l] 28)).cell? ⟨w.heap.size,0,none⟩=some (.int .i64 t)/\(w.alloc (.cells #[.int .i64 t,.int .i64 h,.int .i64 f,.int .i64 l] 28)).cell? ⟨w.heap.size,1,none⟩=some (.int .i64 h)/\(w.alloc (.cells #[.int .i64 t,.int .i64 h,.int .i64 f,.int .i64 l] 28)).cell? ⟨w.heap.size,2,none⟩=some (.int .i64 f)/\(w.alloc (.cells #[.int .i64 t,.int .i64 h,.int .i64 f,.int .i64 l] 28)).cell? ⟨w.heap.size,3,none⟩=some (.int .i64 l)/\Below w.heap.size w (w.alloc (.cells #[.int .i64 t,.int .i64 h,.int .i64 f,.int .i64 l] 28)):=⟨by simp,by simp,by simp,by simp,by simp,(Below.refl _ _).alloc (Nat.le_refl _) _⟩
 have HS:=hide hS
 clear hS
 go_region_held3 (fun w'=>w.heap.size<w'.heap.size/\w'.cell? ⟨w.heap.size,0,none⟩=some (.int .i64 t)/\w'.cell? ⟨w.heap.size,1,none⟩=some (.int .i64 h)/\w'.cell? ⟨w.heap.size,2,none⟩=some (.int .i64 f)/\w'.cell? ⟨w.heap.size,3,none⟩=some (.int .i64 l)/\Below w.heap.size w w')
  (first | assumption | exact keep4 (below_drewN (Below.refl _ _) 1) HS.out | exact keep4 (by assumption) (by assumption))
  (first | (go_at_call_of 144 h;refine (numA _).mono ?_;rintro e w2 ⟨rfl,hb2⟩) | (go_at_call_of 144 f;refine (numB _).mono ?_;rintro e w3 ⟨rfl,hb3⟩) | (go_at_call 55;refine (form_s_any 4 l t (A++B) n _ hz).mono ?_;rintro e w4 ⟨rfl,hb4⟩))
 rename_i hSl
 have hbl:=hSl.2.2.2.2.2
 clear hSl
 go_wp2
 go_ret
 exact ⟨rfl,hbl⟩
theorem rootpage_s_any (t h f l n:Int) (w:World):Calls Tryz.prog 142 #[rootV t h f l,.int .i64 n] w fun e w'=>e=.returned (.string (rtForm t h f l n))/\Below w.heap.size w w':=by
 unfold rtForm
 by_cases hok:rtOk h f
 ·rw [if_pos hok];exact rootpage_s_ok t h f l n w hok
 ·rw [if_neg hok];exact rootpage_s_no t h f l n w hok
end Go.Proofs.YtnmaknnnmjfhkagGreatDoor
