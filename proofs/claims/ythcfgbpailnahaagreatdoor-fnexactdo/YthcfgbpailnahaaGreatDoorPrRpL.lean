import Derived.Test.YthcfgbpailnahaaGreatDoorPrG40
set_option maxHeartbeats 16000000
namespace Go.Proofs.YthcfgbpailnahaaGreatDoor
open Tryz
open Go.RowKit
set_option linter.all false
structure Bx4(w:World)(B:Nat)(v0 v1 v2 v3:Value):Prop where
 c0:w.cell? ⟨B,0,none⟩=some v0
 c1:w.cell? ⟨B,1,none⟩=some v1
 c2:w.cell? ⟨B,2,none⟩=some v2
 c3:w.cell? ⟨B,3,none⟩=some v3
theorem Bx4.I{w w':World}{B:Nat}{v0 v1 v2 v3:Value}(h:Bx4 w B v0 v1 v2 v3)(hb:Below w.heap.size w w')(hB:B<w.heap.size):Bx4 w' B v0 v1 v2 v3 :=⟨(hb.cell (p:=⟨B,0,none⟩) hB).j h.c0,(hb.cell (p:=⟨B,1,none⟩) hB).j h.c1,(hb.cell (p:=⟨B,2,none⟩) hB).j h.c2,(hb.cell (p:=⟨B,3,none⟩) hB).j h.c3⟩
theorem Bx4.drew{w:World}{B:Nat}{v0 v1 v2 v3:Value}(h:Bx4 w B v0 v1 v2 v3):Bx4 w.drew B v0 v1 v2 v3:=⟨h.c0,h.c1,h.c2,h.c3⟩
theorem qA(w:World)(B:Nat)(hB:w.heap.size=B)(v0 v1 v2 v3:Value)(t:TypeId):Bx4 (w.alloc (.cells #[v0,v1,v2,v3] t)) B v0 v1 v2 v3:=by subst hB;exact⟨by simp,by simp,by simp,by simp⟩
set_option maxRecDepth 4000 in
theorem Dp(s:ByteArray)(n N:Nat)(K L M:Int)(P:ByteArray)(w:World)(ty:TypeId)(v:Value)(hv:w.cell? ⟨1,0,none⟩=some (.iface ty v))(hg:1<w.heap.size)(hs:s.size=64)(h1:1<=n)(h2:n<=8)(hN:(N:Int)=MR (((LF s).drop (n+7)).take 1))(cQ:N+n<=56)
  (hK:K=MR (((LF s).drop n).take 1))(hL:L=MR (((LF s).drop (n+1)).take 2))(hM:M=MR (((LF s).drop (n+3)).take 4))(hP:P=strOfNums (((LF s).drop (n+8)).take N))
  (cF:0<=K)(cH:K<=255)(cJ:0<=L)(cL:L<=65535)(cN:0<=M)(cO:M<=4294967295):Calls prog 239 #[.string s,.int .i64 (n:Int)] w λe w'=>(∃E,e=.returned (XV E (if MP K L M P (n:Int)=s then some (K,L,M,P) else none)))/\Below w.heap.size w w':=by
 have hd:decide (1<=(n:Int)/\(n:Int)<=8)=true:=by simp;omega
 have dL:(s.size:Int)=64:=by omega
 have cS:∀o,Below w.heap.size w (w.alloc o):=λo=>LG _ _
 have bE:∀w',Below w.heap.size w w'->w'.cell? ⟨1,0,none⟩=some (.iface ty v):=λw' hb=>(hb.cell (p:=⟨1,0,none⟩) hg).j hv
 obtain⟨xs,HX⟩:∃xs,Hid (xs=LF s):=⟨_,LQ rfl⟩;have aI:xs.length=64:=by rw[HX.o,ML];exact hs
 have dN:(xs.map (Value.int .u8)).toArray.size=64:=by simp[aI]
 have aJ:Hid (∀y∈xs,0<=y/\y<=255):=by rw[HX.o];exact an s
 have HS:=LQ hs;clear hs
 have cA:=λg wx=>ik (P:=prog) (t:=168) underlying168 (λ_=>by kernel_rfl) g 0 n (by omega) .i64 (n:Int) rfl wx
 obtain⟨q,hq⟩:∃q,64-n=q:=⟨_,rfl⟩;rw[hq]at cA;have cY:(8:Int)<=(q:Int):=by omega
 have cX:(7:Int)<=(q:Int):=by omega
 have HN:Hid ((N:Int)=MR ((xs.drop (n+7)).take 1)):=by rw[HX.o];exact LQ hN
 have HK:Hid (K=MR ((xs.drop n).take 1)):=by rw[HX.o];exact LQ hK
 have HL:Hid (L=MR ((xs.drop (n+1)).take 2)):=by rw[HX.o];exact LQ hL
 have HM:Hid (M=MR ((xs.drop (n+3)).take 4)):=by rw[HX.o];exact LQ hM
 have HP:Hid (P=strOfNums ((xs.drop (n+8)).take N)):=by rw[HX.o];exact LQ hP
 have aV:P.size<=1048576:=by rw[HP.o,BS,BC];omega
 clear hN hK hL hM hP;obtain⟨R,HR⟩:∃R,Hid (R=if MP K L M P (n:Int)=s then some (K,L,M,P) else none):=⟨_,LQ rfl⟩;rw[<-HR.o];have cI:IntKind.i64.wrap K=K:=by simp[IntKind.wrap,IntKind.bits,IntKind.signed];omega
 have cM:IntKind.i64.wrap L=L:=by simp[IntKind.wrap,IntKind.bits,IntKind.signed];omega
 have cP:IntKind.i64.wrap M=M:=by simp[IntKind.wrap,IntKind.bits,IntKind.signed];omega
 obtain⟨e8,aZ⟩:∃e8:Nat,e8-8=N/\(8:Int)+(N:Int)=(e8:Int):=⟨8+N,by omega,by omega⟩;obtain⟨aZ,hE⟩:=aZ;have cB:(8:Int)<=(e8:Int):=by omega
 have cC:(e8:Int)<=(q:Int):=by omega
 have cE:IntKind.i64.wrap (e8:Int)=(e8:Int):=by simp[IntKind.wrap,IntKind.bits,IntKind.signed];omega
 have cU:(N:Int)<=64-(n:Int)-8:=by omega
 have cV:(1:Int)<=(q:Int):=by omega
 have cW:(3:Int)<=(q:Int):=by omega
 have cZ:¬q=1:=by omega
 have dB:¬q=3:=by omega
 have dF:¬q=8:=by omega
 have dH:¬q=7:=by omega
 go_enter func239,ntmps239
 go_wp2_with (first|(go_at_call 72;refine(QZ _ _).i ?_;rw[hd];rintro e w2 ⟨rfl,rfl⟩)|(go_at_call 180;refine(mz _ _ (by omega) (by omega)).i ?_;rintro e w3 ⟨rfl,rfl⟩)|(go_at_call 119;refine(bk s _ HS.o).i ?_;rw[<-HX.o];rintro e w2 ⟨rfl,aW⟩;have bF:=LQ ((RB.new w _).I aW);clear aW)|(refine mj rfl 168 _ _ rfl xs rfl rfl _ _ (.int .u8 0) (by rw[aI];rfl) (by rw[aI];kernel_rfl) ?_;intro wx bC aY dM;have aE:=LQ bC;clear bC;have bI:=LQ (bF.o.I aY);clear aY)|(go_at_call 232;refine(YR w2.heap.size xs aJ (n+7) 1 _ (by omega) (by omega) _ aE.o (N:Int) HN.o).i ?_;rintro e w3 ⟨rfl,rfl⟩))
 have bQ:w2.heap.size<w3.heap.size:=by omega
 have aF:Hid (∀o,Fm (w3.alloc o) w2.heap.size xs):=λo=>aE.o.I (LG _ _) bQ
 have bT:(convert 172 9 (.slice (some ⟨w2.heap.size,n+8,none⟩) N (q-8))).run prog w3.drew=.ok (.string P) w3.drew:=by rw[HP.o];exact aE.o.drew.text 172 5 9 underlying172 underlying5 underlying9 (n+8) N (q-8) (by omega)
 have bU:∀o,(convert 172 9 (.slice (some ⟨w2.heap.size,n+8,none⟩) N (q-8))).run prog (w3.alloc o).drew=.ok (.string P) (w3.alloc o).drew:=λo=>by rw[HP.o];exact(aF.o o).drew.text 172 5 9 underlying172 underlying5 underlying9 (n+8) N (q-8) (by omega)
 refine(λHG:Wr ?G=>?main) ⟨?pf⟩
 case main =>
  go_region_law (first
   | (have _g:=g2;refine LK (by rfl) 232 #[.slice (some ⟨w2.heap.size,n+3,none⟩) 4 (q-3)] (by go_simp) (YR w2.heap.size xs aJ (n+3) 4 _ (by omega) (by omega) _ (by first|exact aE.o.drew|exact(aF.o _).drew) M HM.o) ?_;rintro e w7 ⟨rfl,rfl⟩;refine⟨_,rfl,?_⟩)
   | (have _g:=g1;refine LK (by rfl) 232 #[.slice (some ⟨w2.heap.size,n+1,none⟩) 2 (q-1)] (by go_simp) (YR w2.heap.size xs aJ (n+1) 2 _ (by omega) (by omega) _ (by first|exact aE.o.drew|exact(aF.o _).drew) L HL.o) ?_;rintro e w7 ⟨rfl,rfl⟩;refine⟨_,rfl,?_⟩;have g2:=True.intro)
   | (refine LK (by rfl) 232 #[.slice (some ⟨w2.heap.size,n,none⟩) 1 q] (by go_simp) (YR w2.heap.size xs aJ n 1 _ (by omega) (by omega) _ (by first|exact aE.o.drew|exact(aF.o _).drew) K HK.o) ?_;rintro e w7 ⟨rfl,rfl⟩;refine⟨_,rfl,?_⟩;have g1:=True.intro))
  all_goals exact HG.o
 clear bT bU;have aQ:w3.heap.size=w2.heap.size+1:=by omega
 have aR:=LQ (λo=>(bI.o.alloc o).drew);have bJ:=LQ (λo=>(aF.o o).drew);have bP:=LQ (λt=>qA w3 (w2.heap.size+1) aQ (.int .i64 K) (.int .i64 L) (.int .i64 M) (.string P) t)
 cases hok:NI K L M P (n:Int)
 focus
  have aK:Hid (R=none):=by
   show _=_;rw[HR.o,AE];intro hh;have h0:MP K L M P (n:Int)=ByteArray.empty:=by unfold MP;rw[hok];rfl
   have aU:=HS.o;rw[<-hh,h0]at aU;exact absurd aU (by decide)
  go_wp2_with (first|(go_at_call 237;refine(fi K L M P n _ aV).i ?_;rw[hok];rintro e w5 ⟨rfl,aB⟩;have aG:=LQ ((aR.o _).I aB);clear aB)|(go_at_call 242;refine(ko _ ty v _ (bE _ aG.o.bel)).i ?_;rintro e w4 ⟨⟨E,rfl⟩,aH⟩;have aA:=aG.o.I aH;clear aH;have c0:=aA.c0;have c1:=aA.c1;have c2:=aA.c2;have c3:=aA.c3;have f0:=aA.f0;have f1:=aA.f1;have f2:=aA.f2;have f3:=aA.f3;have aM:=LQ aA;clear aA))
  refine AJ (v:=.tuple #[NH 0 0 0 ⟨#[]⟩,.iface 299 (.pointer (some E))]) (by simp[results,results239,go_sem,c0,c1,c2,c3]) rfl ⟨⟨E,by rw[aK.o];rfl⟩,?_⟩
 rotate_left
 focus
  have aP:=AZ (by unfold NI at hok;exact hok);obtain⟨ys,HY⟩:∃ys,Hid (ys=LF (SI K L M P n)):=⟨_,LQ rfl⟩;have bW:ys.length=64:=by rw[HY.o,ML];exact eo K L M P n (by omega)
  have aK:Hid (R=if ys=xs then some (K,L,M,P) else none):=by
   show _=_;rw[HR.o];have h0:MP K L M P (n:Int)=SI K L M P n:=by unfold MP;rw[hok,AK rfl,DG]
   rw[h0,HY.o,HX.o]
   by_cases hh:SI K L M P n=s
   ·rw[AK hh,AK (by rw[hh])]
   rw[AE hh,AE (λh=>hh (by rw[<-SJ (SI K L M P n),h,SJ]))]
  obtain⟨iu,bV⟩:=GO.1 (show(prog.info? 5).isSome=true by kernel_rfl)
  have aD:=λwx=>Ai (P:=prog) (t:=168) underlying168 bV (by kernel_rfl) (λ_=>by kernel_rfl) underlying5 ys xs bW aI wx
  obtain⟨bq,aO⟩:∃bq,Hid (bq=!decide (ys=xs)):=⟨_,LQ rfl⟩;rw[<-aO.o]at aD;have dP:=underlying168;have cT:(prog.info? 168).map (·.size)=some (xs.map (Value.int .u8)).length:=by rw[BJ,aI];kernel_rfl
  clear aP
  go_wp2_with (first|(go_at_call 237;refine(fi K L M P n _ aV).i ?_;rw[hok];rintro e w5 ⟨rfl,aB⟩))
  have b7:=aB.size;simp only[AU,JA]at b7;have aG:=LQ ((aR.o _).I aB);have aT:=LQ ((bJ.o _).I aB (by simp<;>omega));have aL:=LQ ((bP.o _).drew.I aB (by simp<;>omega));clear aB
  have HT:Hid (∀w',Below w5.heap.size w5 w'->w'.rangeAt w2.heap.size 0 (xs.map (Value.int .u8))/\w'.cell? ⟨w2.heap.size+1,0,none⟩=some (.int .i64 K)/\w'.cell? ⟨w2.heap.size+1,1,none⟩=some (.int .i64 L)/\w'.cell? ⟨w2.heap.size+1,2,none⟩=some (.int .i64 M)/\w'.cell? ⟨w2.heap.size+1,3,none⟩=some (.string P)/\Below w5.heap.size w5 w'):=λw' hb=>by
   have hp:=aL.o.I hb (by omega);exact⟨(aT.o.I hb (by omega)).range,hp.c0,hp.c1,hp.c2,hp.c3,hb⟩
  go_region_held3 (λw'=>w'.rangeAt w2.heap.size 0 (xs.map (Value.int .u8))/\w'.cell? ⟨w2.heap.size+1,0,none⟩=some (.int .i64 K)/\w'.cell? ⟨w2.heap.size+1,1,none⟩=some (.int .i64 L)/\w'.cell? ⟨w2.heap.size+1,2,none⟩=some (.int .i64 M)/\w'.cell? ⟨w2.heap.size+1,3,none⟩=some (.string P)/\Below w5.heap.size w5 w')
   (first|assumption|exact HT.o _ ((AB _ _).drew)|exact HT.o _ (((AB _ _).drew).j (aX.i (AA _))))
   (first|(go_at_call 238;refine(uu K L M P n _ hok).i ?_;rw[<-HY.o];rintro e w6 ⟨rfl,aX⟩))
  rename_i hSl;have aC:=hSl.2.2.2.2.2;have aA:=aG.o.I aC;have hp:=aL.o.I aC (by omega);have p0:=hp.c0;have p1:=hp.c1;have p2:=hp.c2;have p3:=hp.c3;clear hSl aC hp HT aT aL aG aX
  cases bq
  focus
   have aN:Hid (R=some (K,L,M,P)):=by
    have hE:ys=xs:=by simpa using aO.o
    show _=_;rw[aK.o,AK hE]
   clear aD;have c0:=aA.c0;have c1:=aA.c1;have c2:=aA.c2;have c3:=aA.c3;have f0:=aA.f0;have f1:=aA.f1;have f2:=aA.f2;have f3:=aA.f3;have aM:=LQ aA;clear aA;go_wp2;refine AJ (v:=.tuple #[NH K L M P,.nilIface]) (by simp[results,results239,go_sem,c0,c1,c2,c3]) rfl ⟨⟨⟨0,0,none⟩,by rw[aN.o];rfl⟩,?_⟩
  rotate_left
  focus
   have aN:Hid (R=none):=by
    have hE:¬ys=xs:=by simpa using aO.o
    show _=_;rw[aK.o,AE hE]
   clear aD;have aS:=LQ aA;clear aA
   go_wp2_with (first|(go_at_call 242;refine(ko _ ty v _ (bE _ aS.o.bel)).i ?_;rintro e w4 ⟨⟨E,rfl⟩,aH⟩;have aA:=aS.o.I aH;clear aH;have c0:=aA.c0;have c1:=aA.c1;have c2:=aA.c2;have c3:=aA.c3;have f0:=aA.f0;have f1:=aA.f1;have f2:=aA.f2;have f3:=aA.f3;have aM:=LQ aA;clear aA))
   refine AJ (v:=.tuple #[NH 0 0 0 ⟨#[]⟩,.iface 299 (.pointer (some E))]) (by simp[results,results239,go_sem,c0,c1,c2,c3]) rfl ⟨⟨E,by rw[aN.o];rfl⟩,?_⟩
  rotate_left
 rotate_left 2
 all_goals
  exact(((aM.o.bel.setCell (AA _) _).setCell (AA _) _).setCell (AA _) _).setCell (AA _) _
