import Derived.Test.YtcoegjnjjdndjaaGreatDoorPrG47
import Derived.Test.YtcoegjnjjdndjaaGreatDoorPrG39
namespace Go.Proofs.YtcoegjnjjdndjaaGreatDoor
open Go.RowKit
set_option linter.unusedVariables false
set_option linter.unusedSimpArgs false
structure Bx4 (w:World) (B:Nat) (v0 v1 v2 v3:Value):Prop where
 c0:w.cell? ⟨B,0,none⟩=some v0
 c1:w.cell? ⟨B,1,none⟩=some v1
 c2:w.cell? ⟨B,2,none⟩=some v2
 c3:w.cell? ⟨B,3,none⟩=some v3
theorem Bx4.below {w w':World} {B:Nat} {v0 v1 v2 v3:Value} (h:Bx4 w B v0 v1 v2 v3) (hb:Below w.heap.size w w') (hB:B<w.heap.size):Bx4 w' B v0 v1 v2 v3 :=
 ⟨(hb.cell (p:=⟨B,0,none⟩) hB).trans h.c0,(hb.cell (p:=⟨B,1,none⟩) hB).trans h.c1,(hb.cell (p:=⟨B,2,none⟩) hB).trans h.c2,(hb.cell (p:=⟨B,3,none⟩) hB).trans h.c3⟩
theorem Bx4.drew {w:World} {B:Nat} {v0 v1 v2 v3:Value} (h:Bx4 w B v0 v1 v2 v3):Bx4 w.drew B v0 v1 v2 v3:=⟨h.c0,h.c1,h.c2,h.c3⟩
theorem pg_new (w:World) (B:Nat) (hB:w.heap.size=B) (v0 v1 v2 v3:Value) (t:TypeId):Bx4 (w.alloc (.cells #[v0,v1,v2,v3] t)) B v0 v1 v2 v3:=by subst hB;exact ⟨by simp,by simp,by simp,by simp⟩
set_option maxRecDepth 4000 in
set_option maxHeartbeats 4000000 in
theorem parse_main (s:ByteArray) (n N:Nat) (K L M:Int) (P:ByteArray) (w:World) (ty:TypeId) (v:Value) (hv:w.cell? ⟨1,0,none⟩=some (.iface ty v)) (hg:1<w.heap.size) (hs:s.size=64) (h1:1<=n) (h2:n<=8) (hN:(N:Int)=numOf (((nums s).drop (n+7)).take 1)) (hN1:N+n<=56)
  (hK:K=numOf (((nums s).drop n).take 1)) (hL:L=numOf (((nums s).drop (n+1)).take 2)) (hM:M=numOf (((nums s).drop (n+3)).take 4)) (hP:P=strOfNums (((nums s).drop (n+8)).take N))
  (hK0:0<=K) (hK1:K<=255) (hL0:0<=L) (hL1:L<=65535) (hM0:0<=M) (hM1:M<=4294967295) :
  Calls Tryz.prog 165 #[.string s,.int .i64 (n:Int)] w fun e w'=>(∃ E,e=.returned (prV E (if formOf K L M P (n:Int)=s then some (K,L,M,P) else none)))/\Below w.heap.size w w':=by
 have hd:decide (1<=(n:Int)/\(n:Int)<=8)=true:=by simp;omega
 have hs':(s.size:Int)=64:=by omega
 have hb0:∀ o,Below w.heap.size w (w.alloc o):=fun o=>(Below.refl _ _).alloc (Nat.le_refl _) _
 have hva:∀ w',Below w.heap.size w w'->w'.cell? ⟨1,0,none⟩=some (.iface ty v):=fun w' hb=>(hb.cell (p:=⟨1,0,none⟩) hg).trans hv
 obtain ⟨xs,HX⟩:∃ xs,Hid (xs=nums s):=⟨_,hid0 rfl⟩
 have hln:xs.length=64:=by rw [HX.out,nums_length];exact hs
 have hsz:(xs.map (Value.int .u8)).toArray.size=64:=by simp [hln]
 have HRG:Hid (∀ y∈xs,0<=y/\y<=255):=by rw [HX.out];exact nums_range' s
 have HS:=hid0 hs
 clear hs
 have hsl:=fun g wx=>slice_arr_from (P:=Tryz.prog) (t:=193) Tryz.underlying193 (fun _=>by kernel_rfl) g 0 n (by omega) .i64 (n:Int) rfl wx
 obtain ⟨q,hq⟩:∃ q,64-n=q:=⟨_,rfl⟩
 rw [hq] at hsl
 have hq8:(8:Int)<=(q:Int):=by omega
 have hq7:(7:Int)<=(q:Int):=by omega
 have HN:Hid ((N:Int)=numOf ((xs.drop (n+7)).take 1)):=by rw [HX.out];exact hid0 hN
 have HK:Hid (K=numOf ((xs.drop n).take 1)):=by rw [HX.out];exact hid0 hK
 have HL:Hid (L=numOf ((xs.drop (n+1)).take 2)):=by rw [HX.out];exact hid0 hL
 have HM:Hid (M=numOf ((xs.drop (n+3)).take 4)):=by rw [HX.out];exact hid0 hM
 have HP:Hid (P=strOfNums ((xs.drop (n+8)).take N)):=by rw [HX.out];exact hid0 hP
 have hPz:P.size<=1048576:=by rw [HP.out,strOfNums_size,List.length_take];omega
 clear hN hK hL hM hP
 obtain ⟨R,HR⟩:∃ R,Hid (R=if formOf K L M P (n:Int)=s then some (K,L,M,P) else none):=⟨_,hid0 rfl⟩
 rw [<-HR.out]
 have hKw:IntKind.i64.wrap K=K:=by simp [IntKind.wrap,IntKind.bits,IntKind.signed];omega
 have hLw:IntKind.i64.wrap L=L:=by simp [IntKind.wrap,IntKind.bits,IntKind.signed];omega
 have hMw:IntKind.i64.wrap M=M:=by simp [IntKind.wrap,IntKind.bits,IntKind.signed];omega
 obtain ⟨e8,he8⟩:∃ e8:Nat,e8-8=N/\(8:Int)+(N:Int)=(e8:Int):=⟨8+N,by omega,by omega⟩
 obtain ⟨he8,hE⟩:=he8
 have hE1:(8:Int)<=(e8:Int):=by omega
 have hE2:(e8:Int)<=(q:Int):=by omega
 have hEw:IntKind.i64.wrap (e8:Int)=(e8:Int):=by simp [IntKind.wrap,IntKind.bits,IntKind.signed];omega
 have hnn:(N:Int)<=64-(n:Int)-8:=by omega
 have hq1:(1:Int)<=(q:Int):=by omega
 have hq3:(3:Int)<=(q:Int):=by omega
 have hqa:¬ q=1:=by omega
 have hqb:¬ q=3:=by omega
 have hqc:¬ q=8:=by omega
 have hqd:¬ q=7:=by omega
 go_enter Tryz.func165,Tryz.ntmps165
 go_wp2_with (first | (go_at_call 57;refine (width_i _ _).mono ?_;rw [hd];rintro e w2 ⟨rfl,rfl⟩) | (go_at_call 159;refine (part_i _ _ (by omega) (by omega)).mono ?_;rintro e w3 ⟨rfl,rfl⟩) | (go_at_call 133;refine (sec_i s _ HS.out).mono ?_;rw [<-HX.out];rintro e w2 ⟨rfl,hb2⟩;have HB2:=hid0 ((RB.new w _).below hb2);clear hb2) | (refine wpList_store_new rfl 193 _ _ rfl xs rfl rfl _ _ (.int .u8 0) (by rw [hln];rfl) (by rw [hln];kernel_rfl) ?_;intro wx hfm hbx hsx;have HFM:=hid0 hfm;clear hfm;have HBX:=hid0 (HB2.out.below hbx);clear hbx) | (go_at_call 153;refine (take_fm w2.heap.size xs HRG (n+7) 1 _ (by omega) (by omega) _ HFM.out (N:Int) HN.out).mono ?_;rintro e w3 ⟨rfl,rfl⟩))
 have hFl:w2.heap.size<w3.heap.size:=by omega
 have FMA:Hid (∀ o,Fm (w3.alloc o) w2.heap.size xs):=fun o=>HFM.out.below ((Below.refl _ _).alloc (Nat.le_refl _) _) hFl
 have hcv:(convert 158 9 (.slice (some ⟨w2.heap.size,n+8,none⟩) N (q-8))).run Tryz.prog w3.drew=.ok (.string P) w3.drew:=by rw [HP.out];exact HFM.out.drew.text 158 5 9 Tryz.underlying158 Tryz.underlying5 Tryz.underlying9 (n+8) N (q-8) (by omega)
 have hcw:∀ o,(convert 158 9 (.slice (some ⟨w2.heap.size,n+8,none⟩) N (q-8))).run Tryz.prog (w3.alloc o).drew=.ok (.string P) (w3.alloc o).drew:=fun o=>by rw [HP.out];exact (FMA.out o).drew.text 158 5 9 Tryz.underlying158 Tryz.underlying5 Tryz.underlying9 (n+8) N (q-8) (by omega)
 refine (fun HG:Wr ?G=>?main) ⟨?pf⟩
 case main =>
  go_region_law (first
   | (have _g:=g2;refine step_call (by rfl) 153 #[.slice (some ⟨w2.heap.size,n+3,none⟩) 4 (q-3)] (by go_simp) (take_fm w2.heap.size xs HRG (n+3) 4 _ (by omega) (by omega) _ (by first | exact HFM.out.drew | exact (FMA.out _).drew) M HM.out) ?_;rintro e w7 ⟨rfl,rfl⟩;refine ⟨_,rfl,?_⟩)
   | (have _g:=g1;refine step_call (by rfl) 153 #[.slice (some ⟨w2.heap.size,n+1,none⟩) 2 (q-1)] (by go_simp) (take_fm w2.heap.size xs HRG (n+1) 2 _ (by omega) (by omega) _ (by first | exact HFM.out.drew | exact (FMA.out _).drew) L HL.out) ?_;rintro e w7 ⟨rfl,rfl⟩;refine ⟨_,rfl,?_⟩;have g2:=True.intro)
   | (refine step_call (by rfl) 153 #[.slice (some ⟨w2.heap.size,n,none⟩) 1 q] (by go_simp) (take_fm w2.heap.size xs HRG n 1 _ (by omega) (by omega) _ (by first | exact HFM.out.drew | exact (FMA.out _).drew) K HK.out) ?_;rintro e w7 ⟨rfl,rfl⟩;refine ⟨_,rfl,?_⟩;have g1:=True.intro))
  all_goals exact HG.out
 clear hcv hcw
 have hsx':w3.heap.size=w2.heap.size+1:=by omega
 have HB3:=hid0 (fun o=>(HBX.out.alloc o).drew)
 have HF3:=hid0 (fun o=>(FMA.out o).drew)
 have HP3:=hid0 (fun t=>pg_new w3 (w2.heap.size+1) hsx' (.int .i64 K) (.int .i64 L) (.int .i64 M) (.string P) t)
 cases hok:pageOk K L M P (n:Int) with
 | false =>
  have HRn:Hid (R=none):=by
   show _=_
   rw [HR.out,if_neg]
   intro hh
   have h0:formOf K L M P (n:Int)=ByteArray.empty:=by unfold formOf;rw [hok];rfl
   have h64:=HS.out
   rw [<-hh,h0] at h64
   exact absurd h64 (by decide)
  go_wp2_with (first | (go_at_call 163;refine (ok_i K L M P n _ hPz).mono ?_;rw [hok];rintro e w5 ⟨rfl,hb5⟩;have HB5:=hid0 ((HB3.out _).below hb5);clear hb5) | (go_at_call 168;refine (nopage_b _ ty v _ (hva _ HB5.out.bel)).mono ?_;rintro e w4 ⟨⟨E,rfl⟩,hb4⟩;have hr4:=HB5.out.below hb4;clear hb4;have c0:=hr4.c0;have c1:=hr4.c1;have c2:=hr4.c2;have c3:=hr4.c3;have f0:=hr4.f0;have f1:=hr4.f1;have f2:=hr4.f2;have f3:=hr4.f3;have HR4:=hid0 hr4;clear hr4))
  refine bodyPost_ret (v:=.tuple #[pageV 0 0 0 ⟨#[]⟩,.iface 227 (.pointer (some E))]) (by simp [results,Tryz.results165,go_sem,c0,c1,c2,c3]) rfl ⟨⟨E,by rw [HRn.out];rfl⟩,?_⟩
  exact (((HR4.out.bel.setCell (Nat.le_refl _) _).setCell (Nat.le_refl _) _).setCell (Nat.le_refl _) _).setCell (Nat.le_refl _) _
 | true =>
  have hok':=of_decide_eq_true (by unfold pageOk at hok;exact hok)
  obtain ⟨ys,HY⟩:∃ ys,Hid (ys=nums (pageForm K L M P n)):=⟨_,hid0 rfl⟩
  have hly:ys.length=64:=by rw [HY.out,nums_length];exact pageForm_size K L M P n (by omega)
  have HRn:Hid (R=if ys=xs then some (K,L,M,P) else none):=by
   show _=_
   rw [HR.out]
   have h0:formOf K L M P (n:Int)=pageForm K L M P n:=by unfold formOf;rw [hok,if_pos rfl,Int.toNat_natCast]
   rw [h0,HY.out,HX.out]
   by_cases hh:pageForm K L M P n=s
   ·rw [if_pos hh,if_pos (by rw [hh])]
   ·rw [if_neg hh,if_neg (fun h=>hh (by rw [<-strOfNums_nums (pageForm K L M P n),h,strOfNums_nums]))]
  obtain ⟨iu,hiu⟩:=Option.isSome_iff_exists.1 (show (Tryz.prog.info? 5).isSome=true by kernel_rfl)
  have hneq:=fun wx=>run_neq_arr (P:=Tryz.prog) (t:=193) Tryz.underlying193 hiu (by kernel_rfl) (fun _=>by kernel_rfl) Tryz.underlying5 ys xs hly hln wx
  obtain ⟨bq,Hbq⟩:∃ bq,Hid (bq=!decide (ys=xs)):=⟨_,hid0 rfl⟩
  rw [<-Hbq.out] at hneq
  have hui:=Tryz.underlying193
  have hii:(Tryz.prog.info? 193).map (·.size)=some (xs.map (Value.int .u8)).length:=by rw [List.length_map,hln];kernel_rfl
  clear hok'
  go_wp2_with (first | (go_at_call 163;refine (ok_i K L M P n _ hPz).mono ?_;rw [hok];rintro e w5 ⟨rfl,hb5⟩))
  have hs5:=hb5.size
  simp only [World.size_alloc,World.size_drew] at hs5
  have HB5:=hid0 ((HB3.out _).below hb5)
  have HF5:=hid0 ((HF3.out _).below hb5 (by simp<;>omega))
  have HP5:=hid0 ((HP3.out _).drew.below hb5 (by simp<;>omega))
  clear hb5
  have HT:Hid (∀ w',Below w5.heap.size w5 w'->w'.rangeAt w2.heap.size 0 (xs.map (Value.int .u8))/\w'.cell? ⟨w2.heap.size+1,0,none⟩=some (.int .i64 K)/\w'.cell? ⟨w2.heap.size+1,1,none⟩=some (.int .i64 L)/\w'.cell? ⟨w2.heap.size+1,2,none⟩=some (.int .i64 M)/\w'.cell? ⟨w2.heap.size+1,3,none⟩=some (.string P)/\Below w5.heap.size w5 w'):=fun w' hb=>by
   have hp:=HP5.out.below hb (by omega)
   exact ⟨(HF5.out.below hb (by omega)).range,hp.c0,hp.c1,hp.c2,hp.c3,hb⟩
  go_region_held3 (fun w'=>w'.rangeAt w2.heap.size 0 (xs.map (Value.int .u8))/\w'.cell? ⟨w2.heap.size+1,0,none⟩=some (.int .i64 K)/\w'.cell? ⟨w2.heap.size+1,1,none⟩=some (.int .i64 L)/\w'.cell? ⟨w2.heap.size+1,2,none⟩=some (.int .i64 M)/\w'.cell? ⟨w2.heap.size+1,3,none⟩=some (.string P)/\Below w5.heap.size w5 w')
   (first | assumption | exact HT.out _ ((Below.refl _ _).drew) | exact HT.out _ (((Below.refl _ _).drew).trans (hb6.mono (Nat.le_refl _))))
   (first | (go_at_call 164;refine (fill_i K L M P n _ hok).mono ?_;rw [<-HY.out];rintro e w6 ⟨rfl,hb6⟩))
  rename_i hSl
  have hb56:=hSl.2.2.2.2.2
  have hr4:=HB5.out.below hb56
  have hp:=HP5.out.below hb56 (by omega)
  have p0:=hp.c0
  have p1:=hp.c1
  have p2:=hp.c2
  have p3:=hp.c3
  clear hSl hb56 hp HT HF5 HP5 HB5 hb6
  cases bq with
  | false =>
   have HRm:Hid (R=some (K,L,M,P)):=by
    have hE:ys=xs:=by simpa using Hbq.out
    show _=_
    rw [HRn.out,if_pos hE]
   clear hneq
   have c0:=hr4.c0;have c1:=hr4.c1;have c2:=hr4.c2;have c3:=hr4.c3;have f0:=hr4.f0;have f1:=hr4.f1;have f2:=hr4.f2;have f3:=hr4.f3;have HR4:=hid0 hr4;clear hr4
   go_wp2
   refine bodyPost_ret (v:=.tuple #[pageV K L M P,.nilIface]) (by simp [results,Tryz.results165,go_sem,c0,c1,c2,c3]) rfl ⟨⟨⟨0,0,none⟩,by rw [HRm.out];rfl⟩,?_⟩
   exact (((HR4.out.bel.setCell (Nat.le_refl _) _).setCell (Nat.le_refl _) _).setCell (Nat.le_refl _) _).setCell (Nat.le_refl _) _
  | true =>
   have HRm:Hid (R=none):=by
    have hE:¬ ys=xs:=by simpa using Hbq.out
    show _=_
    rw [HRn.out,if_neg hE]
   clear hneq
   have HB6:=hid0 hr4
   clear hr4
   go_wp2_with (first | (go_at_call 168;refine (nopage_b _ ty v _ (hva _ HB6.out.bel)).mono ?_;rintro e w4 ⟨⟨E,rfl⟩,hb4⟩;have hr4:=HB6.out.below hb4;clear hb4;have c0:=hr4.c0;have c1:=hr4.c1;have c2:=hr4.c2;have c3:=hr4.c3;have f0:=hr4.f0;have f1:=hr4.f1;have f2:=hr4.f2;have f3:=hr4.f3;have HR4:=hid0 hr4;clear hr4))
   refine bodyPost_ret (v:=.tuple #[pageV 0 0 0 ⟨#[]⟩,.iface 227 (.pointer (some E))]) (by simp [results,Tryz.results165,go_sem,c0,c1,c2,c3]) rfl ⟨⟨E,by rw [HRm.out];rfl⟩,?_⟩
   exact (((HR4.out.bel.setCell (Nat.le_refl _) _).setCell (Nat.le_refl _) _).setCell (Nat.le_refl _) _).setCell (Nat.le_refl _) _
end Go.Proofs.YtcoegjnjjdndjaaGreatDoor
