import Derived.Test.YtcdojnnkjeakmaaGreatDoorPrG51
set_option maxHeartbeats 16000000
namespace Go.Proofs.YtcdojnnkjeakmaaGreatDoor
open Go.RowKit
set_option linter.unusedVariables false
set_option linter.unusedSimpArgs false
structure Bx4 (w:World) (B:Nat) (v0 v1 v2 v3:Value):Prop where
 c0:w.cell? ⟨B,0,none⟩=some v0
 c1:w.cell? ⟨B,1,none⟩=some v1
 c2:w.cell? ⟨B,2,none⟩=some v2
 c3:w.cell? ⟨B,3,none⟩=some v3
theorem Bx4.below {w w':World} {B:Nat} {v0 v1 v2 v3:Value} (h:Bx4 w B v0 v1 v2 v3) (hb:Below w.heap.size w w') (hB:B<w.heap.size):Bx4 w' B v0 v1 v2 v3 :=
 ⟨(hb.cell (p:=⟨B,0,none⟩) hB).trans h.c0,(hb.cell (p:=⟨B,1,none⟩) hB).trans h.c1,(hb.cell (p:=⟨B,2,none⟩) hB).trans h.c2,(hb.cell (p:=⟨B,3,none⟩) hB).trans h.c3⟩
theorem Bx4.drew {w:World} {B:Nat} {v0 v1 v2 v3:Value} (h:Bx4 w B v0 v1 v2 v3):Bx4 w.drew B v0 v1 v2 v3:=⟨h.c0,h.c1,h.c2,h.c3⟩
theorem z8y (w:World) (B:Nat) (hB:w.heap.size=B) (v0 v1 v2 v3:Value) (t:TypeId):Bx4 (w.alloc (.cells #[v0,v1,v2,v3] t)) B v0 v1 v2 v3:=by subst hB;exact ⟨by simp,by simp,by simp,by simp⟩
set_option maxRecDepth 4000 in
theorem vMP (s:ByteArray) (n N:Nat) (K L M:Int) (P:ByteArray) (w:World) (ty:TypeId) (v:Value) (hv:w.cell? ⟨1,0,none⟩=some (.iface ty v)) (hg:1<w.heap.size) (hs:s.size=64) (h1:1<=n) (h2:n<=8) (hN:(N:Int)=zMt (((zFD s).drop (n+7)).take 1)) (dI:N+n<=56)
  (hK:K=zMt (((zFD s).drop n).take 1)) (hL:L=zMt (((zFD s).drop (n+1)).take 2)) (hM:M=zMt (((zFD s).drop (n+3)).take 4)) (hP:P=strOfNums (((zFD s).drop (n+8)).take N))
  (cJ:0<=K) (cW:K<=255) (dH:0<=L) (dM:L<=65535) (cY:0<=M) (cL:M<=4294967295) :
  Calls Tryz.prog 85 #[.string s,.int .i64 (n:Int)] w fun e w'=>(∃ E,e=.returned (prV E (if ZQp K L M P (n:Int)=s then some (K,L,M,P) else none)))/\Below w.heap.size w w':=by
 have hd:decide (1<=(n:Int)/\(n:Int)<=8)=true:=by simp;omega
 have cH:(s.size:Int)=64:=by omega
 have cC:∀ o,Below w.heap.size w (w.alloc o):=fun o=>(Below.refl _ _).alloc (Nat.le_refl _) _
 have aW:∀ w',Below w.heap.size w w'->w'.cell? ⟨1,0,none⟩=some (.iface ty v):=fun w' hb=>(hb.cell (p:=⟨1,0,none⟩) hg).trans hv
 obtain ⟨xs,HX⟩:∃ xs,Hid (xs=zFD s):=⟨_,jjQ rfl⟩;have aJ:xs.length=64:=by rw [HX.out,vgz];exact hs
 have cP:(xs.map (Value.int .u8)).toArray.size=64:=by simp [aJ]
 have aL:Hid (∀ y∈xs,0<=y/\y<=255):=by rw [HX.out];exact X8K s
 have HS:=jjQ hs;clear hs
 have bZ:=fun g wx=>xXI (P:=Tryz.prog) (t:=86) Tryz.underlying86 (fun _=>by kernel_rfl) g 0 n (by omega) .i64 (n:Int) rfl wx
 obtain ⟨q,hq⟩:∃ q,64-n=q:=⟨_,rfl⟩;rw [hq] at bZ;have dN:(8:Int)<=(q:Int):=by omega
 have cV:(7:Int)<=(q:Int):=by omega
 have HN:Hid ((N:Int)=zMt ((xs.drop (n+7)).take 1)):=by rw [HX.out];exact jjQ hN
 have HK:Hid (K=zMt ((xs.drop n).take 1)):=by rw [HX.out];exact jjQ hK
 have HL:Hid (L=zMt ((xs.drop (n+1)).take 2)):=by rw [HX.out];exact jjQ hL
 have HM:Hid (M=zMt ((xs.drop (n+3)).take 4)):=by rw [HX.out];exact jjQ hM
 have HP:Hid (P=strOfNums ((xs.drop (n+8)).take N)):=by rw [HX.out];exact jjQ hP
 have aT:P.size<=1048576:=by rw [HP.out,strOfNums_size,List.length_take];omega
 clear hN hK hL hM hP;obtain ⟨R,HR⟩:∃ R,Hid (R=if ZQp K L M P (n:Int)=s then some (K,L,M,P) else none):=⟨_,jjQ rfl⟩;rw [<-HR.out];have cF:IntKind.i64.wrap K=K:=by simp [IntKind.wrap,IntKind.bits,IntKind.signed];omega
 have cU:IntKind.i64.wrap L=L:=by simp [IntKind.wrap,IntKind.bits,IntKind.signed];omega
 have dE:IntKind.i64.wrap M=M:=by simp [IntKind.wrap,IntKind.bits,IntKind.signed];omega
 obtain ⟨e8,bG⟩:∃ e8:Nat,e8-8=N/\(8:Int)+(N:Int)=(e8:Int):=⟨8+N,by omega,by omega⟩;obtain ⟨bG,hE⟩:=bG;have cK:(8:Int)<=(e8:Int):=by omega
 have cT:(e8:Int)<=(q:Int):=by omega
 have dK:IntKind.i64.wrap (e8:Int)=(e8:Int):=by simp [IntKind.wrap,IntKind.bits,IntKind.signed];omega
 have dJ:(N:Int)<=64-(n:Int)-8:=by omega
 have cI:(1:Int)<=(q:Int):=by omega
 have cN:(3:Int)<=(q:Int):=by omega
 have dL:¬ q=1:=by omega
 have cE:¬ q=3:=by omega
 have cO:¬ q=8:=by omega
 have cZ:¬ q=7:=by omega
 go_enter Tryz.func85,Tryz.ntmps85
 go_wp2_with (first | (go_at_call 25;refine (jnI _ _).mono ?_;rw [hd];rintro e w2 ⟨rfl,rfl⟩) | (go_at_call 55;refine (qHH _ _ (by omega) (by omega)).mono ?_;rintro e w3 ⟨rfl,rfl⟩) | (go_at_call 48;refine (jsf s _ HS.out).mono ?_;rw [<-HX.out];rintro e w2 ⟨rfl,aX⟩;have bW:=jjQ ((RB.new w _).below aX);clear aX) | (refine jY1 rfl 86 _ _ rfl xs rfl rfl _ _ (.int .u8 0) (by rw [aJ];rfl) (by rw [aJ];kernel_rfl) ?_;intro wx aS aV cM;have aE:=jjQ aS;clear aS;have bI:=jjQ (bW.out.below aV);clear aV) | (go_at_call 68;refine (zPV w2.heap.size xs aL (n+7) 1 _ (by omega) (by omega) _ aE.out (N:Int) HN.out).mono ?_;rintro e w3 ⟨rfl,rfl⟩))
 have bJ:w2.heap.size<w3.heap.size:=by omega
 have aH:Hid (∀ o,Fm (w3.alloc o) w2.heap.size xs):=fun o=>aE.out.below ((Below.refl _ _).alloc (Nat.le_refl _) _) bJ
 have b8:(convert 22 9 (.slice (some ⟨w2.heap.size,n+8,none⟩) N (q-8))).run Tryz.prog w3.drew=.ok (.string P) w3.drew:=by rw [HP.out];exact aE.out.drew.text 22 5 9 Tryz.underlying22 Tryz.underlying5 Tryz.underlying9 (n+8) N (q-8) (by omega)
 have bV:∀ o,(convert 22 9 (.slice (some ⟨w2.heap.size,n+8,none⟩) N (q-8))).run Tryz.prog (w3.alloc o).drew=.ok (.string P) (w3.alloc o).drew:=fun o=>by rw [HP.out];exact (aH.out o).drew.text 22 5 9 Tryz.underlying22 Tryz.underlying5 Tryz.underlying9 (n+8) N (q-8) (by omega)
 refine (fun HG:Wr ?G=>?main) ⟨?pf⟩
 case main =>
  go_region_law (first
   | (have _g:=g2;refine XRf (by rfl) 68 #[.slice (some ⟨w2.heap.size,n+3,none⟩) 4 (q-3)] (by go_simp) (zPV w2.heap.size xs aL (n+3) 4 _ (by omega) (by omega) _ (by first | exact aE.out.drew | exact (aH.out _).drew) M HM.out) ?_;rintro e w7 ⟨rfl,rfl⟩;refine ⟨_,rfl,?_⟩)
   | (have _g:=g1;refine XRf (by rfl) 68 #[.slice (some ⟨w2.heap.size,n+1,none⟩) 2 (q-1)] (by go_simp) (zPV w2.heap.size xs aL (n+1) 2 _ (by omega) (by omega) _ (by first | exact aE.out.drew | exact (aH.out _).drew) L HL.out) ?_;rintro e w7 ⟨rfl,rfl⟩;refine ⟨_,rfl,?_⟩;have g2:=True.intro)
   | (refine XRf (by rfl) 68 #[.slice (some ⟨w2.heap.size,n,none⟩) 1 q] (by go_simp) (zPV w2.heap.size xs aL n 1 _ (by omega) (by omega) _ (by first | exact aE.out.drew | exact (aH.out _).drew) K HK.out) ?_;rintro e w7 ⟨rfl,rfl⟩;refine ⟨_,rfl,?_⟩;have g1:=True.intro))
  all_goals exact HG.out
 clear b8 bV;have aO:w3.heap.size=w2.heap.size+1:=by omega
 have bC:=jjQ (fun o=>(bI.out.alloc o).drew);have bU:=jjQ (fun o=>(aH.out o).drew);have b7:=jjQ (fun t=>z8y w3 (w2.heap.size+1) aO (.int .i64 K) (.int .i64 L) (.int .i64 M) (.string P) t)
 cases hok:Xhw K L M P (n:Int) with
 | false =>
  have aK:Hid (R=none):=by
   show _=_;rw [HR.out,if_neg];intro hh;have h0:ZQp K L M P (n:Int)=ByteArray.empty:=by unfold ZQp;rw [hok];rfl
   have aY:=HS.out;rw [<-hh,h0] at aY;exact absurd aY (by decide)
  go_wp2_with (first | (go_at_call 37;refine (ZTz K L M P n _ aT).mono ?_;rw [hok];rintro e w5 ⟨rfl,aB⟩;have aG:=jjQ ((bC.out _).below aB);clear aB) | (go_at_call 97;refine (XsM _ ty v _ (aW _ aG.out.bel)).mono ?_;rintro e w4 ⟨⟨E,rfl⟩,aF⟩;have aA:=aG.out.below aF;clear aF;have c0:=aA.c0;have c1:=aA.c1;have c2:=aA.c2;have c3:=aA.c3;have f0:=aA.f0;have f1:=aA.f1;have f2:=aA.f2;have f3:=aA.f3;have aI:=jjQ aA;clear aA))
  refine bodyPost_ret (v:=.tuple #[QAw 0 0 0 ⟨#[]⟩,.iface 145 (.pointer (some E))]) (by simp [results,Tryz.results85,go_sem,c0,c1,c2,c3]) rfl ⟨⟨E,by rw [aK.out];rfl⟩,?_⟩;exact (((aI.out.bel.setCell (Nat.le_refl _) _).setCell (Nat.le_refl _) _).setCell (Nat.le_refl _) _).setCell (Nat.le_refl _) _
 | true =>
  have aP:=of_decide_eq_true (by unfold Xhw at hok;exact hok);obtain ⟨ys,HY⟩:∃ ys,Hid (ys=zFD (XQs K L M P n)):=⟨_,jjQ rfl⟩;have bQ:ys.length=64:=by rw [HY.out,vgz];exact X5y K L M P n (by omega)
  have aK:Hid (R=if ys=xs then some (K,L,M,P) else none):=by
   show _=_;rw [HR.out];have h0:ZQp K L M P (n:Int)=XQs K L M P n:=by unfold ZQp;rw [hok,if_pos rfl,Int.toNat_natCast]
   rw [h0,HY.out,HX.out]
   by_cases hh:XQs K L M P n=s
   ·rw [if_pos hh,if_pos (by rw [hh])]
   ·rw [if_neg hh,if_neg (fun h=>hh (by rw [<-ZXs (XQs K L M P n),h,ZXs]))]
  obtain ⟨iu,bY⟩:=Option.isSome_iff_exists.1 (show (Tryz.prog.info? 5).isSome=true by kernel_rfl)
  have aD:=fun wx=>kFr (P:=Tryz.prog) (t:=86) Tryz.underlying86 bY (by kernel_rfl) (fun _=>by kernel_rfl) Tryz.underlying5 ys xs bQ aJ wx
  obtain ⟨bq,aQ⟩:∃ bq,Hid (bq=!decide (ys=xs)):=⟨_,jjQ rfl⟩;rw [<-aQ.out] at aD;have cS:=Tryz.underlying86;have cQ:(Tryz.prog.info? 86).map (·.size)=some (xs.map (Value.int .u8)).length:=by rw [List.length_map,aJ];kernel_rfl
  clear aP
  go_wp2_with (first | (go_at_call 37;refine (ZTz K L M P n _ aT).mono ?_;rw [hok];rintro e w5 ⟨rfl,aB⟩))
  have bH:=aB.size;simp only [World.size_alloc,World.size_drew] at bH;have aG:=jjQ ((bC.out _).below aB);have aZ:=jjQ ((bU.out _).below aB (by simp<;>omega));have aN:=jjQ ((b7.out _).drew.below aB (by simp<;>omega));clear aB
  have HT:Hid (∀ w',Below w5.heap.size w5 w'->w'.rangeAt w2.heap.size 0 (xs.map (Value.int .u8))/\w'.cell? ⟨w2.heap.size+1,0,none⟩=some (.int .i64 K)/\w'.cell? ⟨w2.heap.size+1,1,none⟩=some (.int .i64 L)/\w'.cell? ⟨w2.heap.size+1,2,none⟩=some (.int .i64 M)/\w'.cell? ⟨w2.heap.size+1,3,none⟩=some (.string P)/\Below w5.heap.size w5 w'):=fun w' hb=>by
   have hp:=aN.out.below hb (by omega);exact ⟨(aZ.out.below hb (by omega)).range,hp.c0,hp.c1,hp.c2,hp.c3,hb⟩
  go_region_held3 (fun w'=>w'.rangeAt w2.heap.size 0 (xs.map (Value.int .u8))/\w'.cell? ⟨w2.heap.size+1,0,none⟩=some (.int .i64 K)/\w'.cell? ⟨w2.heap.size+1,1,none⟩=some (.int .i64 L)/\w'.cell? ⟨w2.heap.size+1,2,none⟩=some (.int .i64 M)/\w'.cell? ⟨w2.heap.size+1,3,none⟩=some (.string P)/\Below w5.heap.size w5 w')
   (first | assumption | exact HT.out _ ((Below.refl _ _).drew) | exact HT.out _ (((Below.refl _ _).drew).trans (aR.mono (Nat.le_refl _))))
   (first | (go_at_call 38;refine (Xue K L M P n _ hok).mono ?_;rw [<-HY.out];rintro e w6 ⟨rfl,aR⟩))
  rename_i hSl;have aC:=hSl.2.2.2.2.2;have aA:=aG.out.below aC;have hp:=aN.out.below aC (by omega);have p0:=hp.c0;have p1:=hp.c1;have p2:=hp.c2;have p3:=hp.c3;clear hSl aC hp HT aZ aN aG aR
  cases bq with
  | false =>
   have aM:Hid (R=some (K,L,M,P)):=by
    have hE:ys=xs:=by simpa using aQ.out
    show _=_;rw [aK.out,if_pos hE]
   clear aD;have c0:=aA.c0;have c1:=aA.c1;have c2:=aA.c2;have c3:=aA.c3;have f0:=aA.f0;have f1:=aA.f1;have f2:=aA.f2;have f3:=aA.f3;have aI:=jjQ aA;clear aA;go_wp2;refine bodyPost_ret (v:=.tuple #[QAw K L M P,.nilIface]) (by simp [results,Tryz.results85,go_sem,c0,c1,c2,c3]) rfl ⟨⟨⟨0,0,none⟩,by rw [aM.out];rfl⟩,?_⟩;exact (((aI.out.bel.setCell (Nat.le_refl _) _).setCell (Nat.le_refl _) _).setCell (Nat.le_refl _) _).setCell (Nat.le_refl _) _
  | true =>
   have aM:Hid (R=none):=by
    have hE:¬ ys=xs:=by simpa using aQ.out
    show _=_;rw [aK.out,if_neg hE]
   clear aD;have aU:=jjQ aA;clear aA
   go_wp2_with (first | (go_at_call 97;refine (XsM _ ty v _ (aW _ aU.out.bel)).mono ?_;rintro e w4 ⟨⟨E,rfl⟩,aF⟩;have aA:=aU.out.below aF;clear aF;have c0:=aA.c0;have c1:=aA.c1;have c2:=aA.c2;have c3:=aA.c3;have f0:=aA.f0;have f1:=aA.f1;have f2:=aA.f2;have f3:=aA.f3;have aI:=jjQ aA;clear aA))
   refine bodyPost_ret (v:=.tuple #[QAw 0 0 0 ⟨#[]⟩,.iface 145 (.pointer (some E))]) (by simp [results,Tryz.results85,go_sem,c0,c1,c2,c3]) rfl ⟨⟨E,by rw [aM.out];rfl⟩,?_⟩;exact (((aI.out.bel.setCell (Nat.le_refl _) _).setCell (Nat.le_refl _) _).setCell (Nat.le_refl _) _).setCell (Nat.le_refl _) _
end Go.Proofs.YtcdojnnkjeakmaaGreatDoor
