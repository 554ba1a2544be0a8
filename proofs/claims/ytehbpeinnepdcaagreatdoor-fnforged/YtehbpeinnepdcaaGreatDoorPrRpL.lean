import Derived.Test.YtehbpeinnepdcaaGreatDoorPrG53
set_option maxHeartbeats 16000000
namespace Go.Proofs.YtehbpeinnepdcaaGreatDoor
open Go.RowKit
set_option linter.unusedVariables false
set_option linter.unusedSimpArgs false
structure Bx4 (w:World) (B:Nat) (v0 v1 v2 v3:Value):Prop where
 c0:w.cell? ⟨B,0,none⟩=some v0
 c1:w.cell? ⟨B,1,none⟩=some v1
 c2:w.cell? ⟨B,2,none⟩=some v2
 c3:w.cell? ⟨B,3,none⟩=some v3
theorem Bx4.below {w w':World} {B:Nat} {v0 v1 v2 v3:Value} (h:Bx4 w B v0 v1 v2 v3) (hb:Below w.heap.size w w') (hB:B<w.heap.size):Bx4 w' B v0 v1 v2 v3 :=
 ⟨(hb.cell (p:=⟨B,0,none⟩) hB).trans h.c0,(hb.cell (p:=⟨B,1,none⟩) hB).trans h.c1,(hb.cell (p:=⟨B,2,none⟩) hB).trans h.c2,(hb.cell (p:=⟨B,3,none⟩) hB).trans h.c3⟩
theorem Bx4.drew {w:World} {B:Nat} {v0 v1 v2 v3:Value} (h:Bx4 w B v0 v1 v2 v3):Bx4 w.drew B v0 v1 v2 v3:=⟨h.c0,h.c1,h.c2,h.c3⟩
theorem z8y (w:World) (B:Nat) (hB:w.heap.size=B) (v0 v1 v2 v3:Value) (t:TypeId):Bx4 (w.alloc (.cells #[v0,v1,v2,v3] t)) B v0 v1 v2 v3:=by subst hB;exact ⟨by simp,by simp,by simp,by simp⟩
set_option maxRecDepth 4000 in
theorem vMP (s:ByteArray) (n N:Nat) (K L M:Int) (P:ByteArray) (w:World) (ty:TypeId) (v:Value) (hv:w.cell? ⟨1,0,none⟩=some (.iface ty v)) (hg:1<w.heap.size) (hs:s.size=64) (h1:1<=n) (h2:n<=8) (hN:(N:Int)=zMt (((zFD s).drop (n+7)).take 1)) (cQ:N+n<=56)
  (hK:K=zMt (((zFD s).drop n).take 1)) (hL:L=zMt (((zFD s).drop (n+1)).take 2)) (hM:M=zMt (((zFD s).drop (n+3)).take 4)) (hP:P=strOfNums (((zFD s).drop (n+8)).take N))
  (cH:0<=K) (cI:K<=255) (cK:0<=L) (cL:L<=65535) (cN:0<=M) (cO:M<=4294967295) :
  Calls Tryz.prog 32 #[.string s,.int .i64 (n:Int)] w fun e w'=>(∃ E,e=.returned (prV E (if ZQp K L M P (n:Int)=s then some (K,L,M,P) else none)))/\Below w.heap.size w w':=by
 have hd:decide (1<=(n:Int)/\(n:Int)<=8)=true:=by simp;omega
 have dK:(s.size:Int)=64:=by omega
 have cS:∀ o,Below w.heap.size w (w.alloc o):=fun o=>(Below.refl _ _).alloc (Nat.le_refl _) _
 have bG:∀ w',Below w.heap.size w w'->w'.cell? ⟨1,0,none⟩=some (.iface ty v):=fun w' hb=>(hb.cell (p:=⟨1,0,none⟩) hg).trans hv
 obtain ⟨xs,HX⟩:∃ xs,Hid (xs=zFD s):=⟨_,jjQ rfl⟩;have aJ:xs.length=64:=by rw [HX.out,vgz];exact hs
 have dM:(xs.map (Value.int .u8)).toArray.size=64:=by simp [aJ]
 have aK:Hid (∀ y∈xs,0<=y/\y<=255):=by rw [HX.out];exact X8K s
 have HS:=jjQ hs;clear hs
 have b8:=fun g wx=>xXI (P:=Tryz.prog) (t:=95) Tryz.underlying95 (fun _=>by kernel_rfl) g 0 n (by omega) .i64 (n:Int) rfl wx
 obtain ⟨q,hq⟩:∃ q,64-n=q:=⟨_,rfl⟩;rw [hq] at b8;have cZ:(8:Int)<=(q:Int):=by omega
 have cY:(7:Int)<=(q:Int):=by omega
 have HN:Hid ((N:Int)=zMt ((xs.drop (n+7)).take 1)):=by rw [HX.out];exact jjQ hN
 have HK:Hid (K=zMt ((xs.drop n).take 1)):=by rw [HX.out];exact jjQ hK
 have HL:Hid (L=zMt ((xs.drop (n+1)).take 2)):=by rw [HX.out];exact jjQ hL
 have HM:Hid (M=zMt ((xs.drop (n+3)).take 4)):=by rw [HX.out];exact jjQ hM
 have HP:Hid (P=strOfNums ((xs.drop (n+8)).take N)):=by rw [HX.out];exact jjQ hP
 have aV:P.size<=1048576:=by rw [HP.out,strOfNums_size,List.length_take];omega
 clear hN hK hL hM hP;obtain ⟨R,HR⟩:∃ R,Hid (R=if ZQp K L M P (n:Int)=s then some (K,L,M,P) else none):=⟨_,jjQ rfl⟩;rw [<-HR.out];have cJ:IntKind.i64.wrap K=K:=by simp [IntKind.wrap,IntKind.bits,IntKind.signed];omega
 have cM:IntKind.i64.wrap L=L:=by simp [IntKind.wrap,IntKind.bits,IntKind.signed];omega
 have cP:IntKind.i64.wrap M=M:=by simp [IntKind.wrap,IntKind.bits,IntKind.signed];omega
 obtain ⟨e8,aZ⟩:∃ e8:Nat,e8-8=N/\(8:Int)+(N:Int)=(e8:Int):=⟨8+N,by omega,by omega⟩;obtain ⟨aZ,hE⟩:=aZ;have cC:(8:Int)<=(e8:Int):=by omega
 have cE:(e8:Int)<=(q:Int):=by omega
 have cF:IntKind.i64.wrap (e8:Int)=(e8:Int):=by simp [IntKind.wrap,IntKind.bits,IntKind.signed];omega
 have cU:(N:Int)<=64-(n:Int)-8:=by omega
 have cV:(1:Int)<=(q:Int):=by omega
 have cW:(3:Int)<=(q:Int):=by omega
 have dE:¬ q=1:=by omega
 have dH:¬ q=3:=by omega
 have dI:¬ q=8:=by omega
 have dJ:¬ q=7:=by omega
 go_enter Tryz.func32,Tryz.ntmps32
 go_wp2_with (first | (go_at_call 27;refine (jnI _ _).mono ?_;rw [hd];rintro e w2 ⟨rfl,rfl⟩) | (go_at_call 58;refine (qHH _ _ (by omega) (by omega)).mono ?_;rintro e w3 ⟨rfl,rfl⟩) | (go_at_call 56;refine (jsf s _ HS.out).mono ?_;rw [<-HX.out];rintro e w2 ⟨rfl,aW⟩;have bH:=jjQ ((RB.new w _).below aW);clear aW) | (refine jY1 rfl 95 _ _ rfl xs rfl rfl _ _ (.int .u8 0) (by rw [aJ];rfl) (by rw [aJ];kernel_rfl) ?_;intro wx bC aY dL;have aE:=jjQ bC;clear bC;have bI:=jjQ (bH.out.below aY);clear aY) | (go_at_call 57;refine (zPV w2.heap.size xs aK (n+7) 1 _ (by omega) (by omega) _ aE.out (N:Int) HN.out).mono ?_;rintro e w3 ⟨rfl,rfl⟩))
 have bU:w2.heap.size<w3.heap.size:=by omega
 have aF:Hid (∀ o,Fm (w3.alloc o) w2.heap.size xs):=fun o=>aE.out.below ((Below.refl _ _).alloc (Nat.le_refl _) _) bU
 have bV:(convert 22 9 (.slice (some ⟨w2.heap.size,n+8,none⟩) N (q-8))).run Tryz.prog w3.drew=.ok (.string P) w3.drew:=by rw [HP.out];exact aE.out.drew.text 22 5 9 Tryz.underlying22 Tryz.underlying5 Tryz.underlying9 (n+8) N (q-8) (by omega)
 have bW:∀ o,(convert 22 9 (.slice (some ⟨w2.heap.size,n+8,none⟩) N (q-8))).run Tryz.prog (w3.alloc o).drew=.ok (.string P) (w3.alloc o).drew:=fun o=>by rw [HP.out];exact (aF.out o).drew.text 22 5 9 Tryz.underlying22 Tryz.underlying5 Tryz.underlying9 (n+8) N (q-8) (by omega)
 refine (fun HG:Wr ?G=>?main) ⟨?pf⟩
 case main =>
  go_region_law (first
   | (have _g:=g2;refine XRf (by rfl) 57 #[.slice (some ⟨w2.heap.size,n+3,none⟩) 4 (q-3)] (by go_simp) (zPV w2.heap.size xs aK (n+3) 4 _ (by omega) (by omega) _ (by first | exact aE.out.drew | exact (aF.out _).drew) M HM.out) ?_;rintro e w7 ⟨rfl,rfl⟩;refine ⟨_,rfl,?_⟩)
   | (have _g:=g1;refine XRf (by rfl) 57 #[.slice (some ⟨w2.heap.size,n+1,none⟩) 2 (q-1)] (by go_simp) (zPV w2.heap.size xs aK (n+1) 2 _ (by omega) (by omega) _ (by first | exact aE.out.drew | exact (aF.out _).drew) L HL.out) ?_;rintro e w7 ⟨rfl,rfl⟩;refine ⟨_,rfl,?_⟩;have g2:=True.intro)
   | (refine XRf (by rfl) 57 #[.slice (some ⟨w2.heap.size,n,none⟩) 1 q] (by go_simp) (zPV w2.heap.size xs aK n 1 _ (by omega) (by omega) _ (by first | exact aE.out.drew | exact (aF.out _).drew) K HK.out) ?_;rintro e w7 ⟨rfl,rfl⟩;refine ⟨_,rfl,?_⟩;have g1:=True.intro))
  all_goals exact HG.out
 clear bV bW;have aQ:w3.heap.size=w2.heap.size+1:=by omega
 have aR:=jjQ (fun o=>(bI.out.alloc o).drew);have bJ:=jjQ (fun o=>(aF.out o).drew);have bQ:=jjQ (fun t=>z8y w3 (w2.heap.size+1) aQ (.int .i64 K) (.int .i64 L) (.int .i64 M) (.string P) t)
 cases hok:Xhw K L M P (n:Int) with
 | false =>
  have aL:Hid (R=none):=by
   show _=_;rw [HR.out,if_neg];intro hh;have h0:ZQp K L M P (n:Int)=ByteArray.empty:=by unfold ZQp;rw [hok];rfl
   have aU:=HS.out;rw [<-hh,h0] at aU;exact absurd aU (by decide)
  go_wp2_with (first | (go_at_call 59;refine (ZTz K L M P n _ aV).mono ?_;rw [hok];rintro e w5 ⟨rfl,aB⟩;have aG:=jjQ ((aR.out _).below aB);clear aB) | (go_at_call 55;refine (XsM _ ty v _ (bG _ aG.out.bel)).mono ?_;rintro e w4 ⟨⟨E,rfl⟩,aI⟩;have aA:=aG.out.below aI;clear aI;have c0:=aA.c0;have c1:=aA.c1;have c2:=aA.c2;have c3:=aA.c3;have f0:=aA.f0;have f1:=aA.f1;have f2:=aA.f2;have f3:=aA.f3;have aH:=jjQ aA;clear aA))
  refine bodyPost_ret (v:=.tuple #[QAw 0 0 0 ⟨#[]⟩,.iface 68 (.pointer (some E))]) (by simp [results,Tryz.results32,go_sem,c0,c1,c2,c3]) rfl ⟨⟨E,by rw [aL.out];rfl⟩,?_⟩;exact (((aH.out.bel.setCell (Nat.le_refl _) _).setCell (Nat.le_refl _) _).setCell (Nat.le_refl _) _).setCell (Nat.le_refl _) _
 | true =>
  have aP:=of_decide_eq_true (by unfold Xhw at hok;exact hok);obtain ⟨ys,HY⟩:∃ ys,Hid (ys=zFD (XQs K L M P n)):=⟨_,jjQ rfl⟩;have bZ:ys.length=64:=by rw [HY.out,vgz];exact X5y K L M P n (by omega)
  have aL:Hid (R=if ys=xs then some (K,L,M,P) else none):=by
   show _=_;rw [HR.out];have h0:ZQp K L M P (n:Int)=XQs K L M P n:=by unfold ZQp;rw [hok,if_pos rfl,Int.toNat_natCast]
   rw [h0,HY.out,HX.out]
   by_cases hh:XQs K L M P n=s
   ·rw [if_pos hh,if_pos (by rw [hh])]
   ·rw [if_neg hh,if_neg (fun h=>hh (by rw [<-ZXs (XQs K L M P n),h,ZXs]))]
  obtain ⟨iu,bY⟩:=Option.isSome_iff_exists.1 (show (Tryz.prog.info? 5).isSome=true by kernel_rfl)
  have aD:=fun wx=>kFr (P:=Tryz.prog) (t:=95) Tryz.underlying95 bY (by kernel_rfl) (fun _=>by kernel_rfl) Tryz.underlying5 ys xs bZ aJ wx
  obtain ⟨bq,aO⟩:∃ bq,Hid (bq=!decide (ys=xs)):=⟨_,jjQ rfl⟩;rw [<-aO.out] at aD;have dN:=Tryz.underlying95;have cT:(Tryz.prog.info? 95).map (·.size)=some (xs.map (Value.int .u8)).length:=by rw [List.length_map,aJ];kernel_rfl
  clear aP
  go_wp2_with (first | (go_at_call 59;refine (ZTz K L M P n _ aV).mono ?_;rw [hok];rintro e w5 ⟨rfl,aB⟩))
  have b7:=aB.size;simp only [World.size_alloc,World.size_drew] at b7;have aG:=jjQ ((aR.out _).below aB);have aT:=jjQ ((bJ.out _).below aB (by simp<;>omega));have aM:=jjQ ((bQ.out _).drew.below aB (by simp<;>omega));clear aB
  have HT:Hid (∀ w',Below w5.heap.size w5 w'->w'.rangeAt w2.heap.size 0 (xs.map (Value.int .u8))/\w'.cell? ⟨w2.heap.size+1,0,none⟩=some (.int .i64 K)/\w'.cell? ⟨w2.heap.size+1,1,none⟩=some (.int .i64 L)/\w'.cell? ⟨w2.heap.size+1,2,none⟩=some (.int .i64 M)/\w'.cell? ⟨w2.heap.size+1,3,none⟩=some (.string P)/\Below w5.heap.size w5 w'):=fun w' hb=>by
   have hp:=aM.out.below hb (by omega);exact ⟨(aT.out.below hb (by omega)).range,hp.c0,hp.c1,hp.c2,hp.c3,hb⟩
  go_region_held3 (fun w'=>w'.rangeAt w2.heap.size 0 (xs.map (Value.int .u8))/\w'.cell? ⟨w2.heap.size+1,0,none⟩=some (.int .i64 K)/\w'.cell? ⟨w2.heap.size+1,1,none⟩=some (.int .i64 L)/\w'.cell? ⟨w2.heap.size+1,2,none⟩=some (.int .i64 M)/\w'.cell? ⟨w2.heap.size+1,3,none⟩=some (.string P)/\Below w5.heap.size w5 w')
   (first | assumption | exact HT.out _ ((Below.refl _ _).drew) | exact HT.out _ (((Below.refl _ _).drew).trans (aX.mono (Nat.le_refl _))))
   (first | (go_at_call 60;refine (Xue K L M P n _ hok).mono ?_;rw [<-HY.out];rintro e w6 ⟨rfl,aX⟩))
  rename_i hSl;have aC:=hSl.2.2.2.2.2;have aA:=aG.out.below aC;have hp:=aM.out.below aC (by omega);have p0:=hp.c0;have p1:=hp.c1;have p2:=hp.c2;have p3:=hp.c3;clear hSl aC hp HT aT aM aG aX
  cases bq with
  | false =>
   have aN:Hid (R=some (K,L,M,P)):=by
    have hE:ys=xs:=by simpa using aO.out
    show _=_;rw [aL.out,if_pos hE]
   clear aD;have c0:=aA.c0;have c1:=aA.c1;have c2:=aA.c2;have c3:=aA.c3;have f0:=aA.f0;have f1:=aA.f1;have f2:=aA.f2;have f3:=aA.f3;have aH:=jjQ aA;clear aA;go_wp2;refine bodyPost_ret (v:=.tuple #[QAw K L M P,.nilIface]) (by simp [results,Tryz.results32,go_sem,c0,c1,c2,c3]) rfl ⟨⟨⟨0,0,none⟩,by rw [aN.out];rfl⟩,?_⟩;exact (((aH.out.bel.setCell (Nat.le_refl _) _).setCell (Nat.le_refl _) _).setCell (Nat.le_refl _) _).setCell (Nat.le_refl _) _
  | true =>
   have aN:Hid (R=none):=by
    have hE:¬ ys=xs:=by simpa using aO.out
    show _=_;rw [aL.out,if_neg hE]
   clear aD;have aS:=jjQ aA;clear aA
   go_wp2_with (first | (go_at_call 55;refine (XsM _ ty v _ (bG _ aS.out.bel)).mono ?_;rintro e w4 ⟨⟨E,rfl⟩,aI⟩;have aA:=aS.out.below aI;clear aI;have c0:=aA.c0;have c1:=aA.c1;have c2:=aA.c2;have c3:=aA.c3;have f0:=aA.f0;have f1:=aA.f1;have f2:=aA.f2;have f3:=aA.f3;have aH:=jjQ aA;clear aA))
   refine bodyPost_ret (v:=.tuple #[QAw 0 0 0 ⟨#[]⟩,.iface 68 (.pointer (some E))]) (by simp [results,Tryz.results32,go_sem,c0,c1,c2,c3]) rfl ⟨⟨E,by rw [aN.out];rfl⟩,?_⟩;exact (((aH.out.bel.setCell (Nat.le_refl _) _).setCell (Nat.le_refl _) _).setCell (Nat.le_refl _) _).setCell (Nat.le_refl _) _
end Go.Proofs.YtehbpeinnepdcaaGreatDoor
