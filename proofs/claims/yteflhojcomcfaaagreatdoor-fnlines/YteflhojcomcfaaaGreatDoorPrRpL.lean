import Derived.Test.YteflhojcomcfaaaGreatDoorPrG36
set_option maxHeartbeats 16000000
namespace Go.Proofs.YteflhojcomcfaaaGreatDoor
open Tryz
open Go.RowKit
set_option linter.all false
structure Bx4(w:Q9)(B:Nat)(v0 v1 v2 v3:Ra):Prop where
 c0:w.cell? (Ki B 0)=some v0
 c1:w.cell? (Ki B 1)=some v1
 c2:w.cell? (Ki B 2)=some v2
 c3:w.cell? (Ki B 3)=some v3
theorem Bx4.I{w g:Q9}{B:Nat}{c d e f:Ra}(h:Bx4 w B c d e f)(b:Q3 w g)(a:B<w.heap.size):Bx4 g B c d e f :=⟨(b.cell (p:=(Ki B 0)) a).E h.c0,(b.cell (p:=(Ki B 1)) a).E h.c1,(b.cell (p:=(Ki B 2)) a).E h.c2,(b.cell (p:=(Ki B 3)) a).E h.c3⟩
theorem Bx4.drew{w:Q9}{B:Nat}{a b c d:Ra}(h:Bx4 w B a b c d):Bx4 w.drew B a b c d:=⟨h.c0,h.c1,h.c2,h.c3⟩
theorem Be(w:Q9)(B:Nat)(e:w.heap.size=B)(a b c d:Ra)(t:TypeId):Bx4 (w.alloc (.cells #[a,b,c,d] t)) B a b c d:=by subst e;exact⟨j,j,j,j⟩
set_option maxRecDepth 4000 in
theorem Mj(s:Q4)(n N:Nat)(K L M:Int)(P:Q4)(w:Q9)(H:TypeId)(v:Ra)(hv:w.cell? (Ki 7 0)=some (.iface H v))(hg:7<w.heap.size)(hs:s.size=64)(h1:1<=n)(h2:n<=8)(hN:(N:Int)=NV (((LF s).drop (n+7)).take 1))(cM:N+n<=56)
  (hK:K=NV (((LF s).drop n).take 1))(hL:L=NV (((LF s).drop (n+1)).take 2))(hM:M=NV (((LF s).drop (n+3)).take 4))(hP:P=strOfNums (((LF s).drop (n+8)).take N))
  (bZ:0<=K)(cA:K<=255)(cE:0<=L)(cF:L<=65535)(cI:0<=M)(cJ:M<=4294967295):Calls prog 157 #[Ow s,Z (n:Int)] w λe k=>(∃E,e=Q2 (ix E (if NB K L M P (n:Int)=s then some (K,L,M,P) else none)))/\Q3 w k:=by
 have hd:decide (1<=(n:Int)/\(n:Int)<=8)=true:=τ
 have dB:(s.size:Int)=64:=d
 have cN:∀o,Q3 w (w.alloc o):=λo=>LH _ _
 have bC:∀k,Q3 w k->k.cell? (Ki 7 0)=some (.iface H v):=λk D=>(D.cell (p:=(Ki 7 0)) hg).E hv
 obtain⟨j,p⟩:=nHz (LF s);have T:j.length=64:=by rw[p.j,NK];exact hs
 have dH:(j.map (Value.int .u8)).toArray.size=64:=by simp[T]
 have f:Hid (∀y∈j,0<=y/\y<=255):=by rw[p.j];exact mq s
 have HS:=LV hs;clear hs
 have bU:=λg A=>ux (P:=prog) (t:=121) underlying121 (λ_=>κ) g 0 n d .i64 (n:Int) z A
 obtain⟨a,hq⟩:∃a,64-n=a:=⟨_,z⟩;rw[hq]at bU;have cV:(8:Int)<=(a:Int):=d
 have cT:(7:Int)<=(a:Int):=d
 have HN:Hid ((N:Int)=NV ((j.drop (n+7)).take 1)):=by rw[p.j];exact LV hN
 have HK:Hid (K=NV ((j.drop n).take 1)):=by rw[p.j];exact LV hK
 have HL:Hid (L=NV ((j.drop (n+1)).take 2)):=by rw[p.j];exact LV hL
 have HM:Hid (M=NV ((j.drop (n+3)).take 4)):=by rw[p.j];exact LV hM
 have G:Hid (P=strOfNums ((j.drop (n+8)).take N)):=by rw[p.j];exact LV hP
 have aV:P.size<=1048576:=by rw[G.j,CY,AZ];omega
 clear hN hK hL hM hP;obtain⟨R,HR⟩:=nHz (if NB K L M P (n:Int)=s then some (K,L,M,P) else none);rw[<-HR.j];have cC:IntKind.i64.wrap K=K:=by simp[IntKind.wrap,IntKind.bits,IntKind.signed];omega
 have cH:IntKind.i64.wrap L=L:=by simp[IntKind.wrap,IntKind.bits,IntKind.signed];omega
 have cL:IntKind.i64.wrap M=M:=by simp[IntKind.wrap,IntKind.bits,IntKind.signed];omega
 obtain⟨B,aZ⟩:∃B:Nat,B-8=N/\(8:Int)+(N:Int)=(B:Int):=⟨8+N,d,d⟩;obtain⟨aZ,l⟩:=aZ;have bV:(8:Int)<=(B:Int):=d
 have bW:(B:Int)<=(a:Int):=d
 have bY:IntKind.i64.wrap (B:Int)=(B:Int):=by simp[IntKind.wrap,IntKind.bits,IntKind.signed];omega
 have cP:(N:Int)<=64-(n:Int)-8:=d
 have cQ:(1:Int)<=(a:Int):=d
 have cS:(3:Int)<=(a:Int):=d
 have cW:¬a=1:=d
 have cX:¬a=3:=d
 have cY:¬a=8:=d
 have cZ:¬a=7:=d
 go_enter func157,ntmps157
 go_wp2_with (first|(go_at_call 27;refine(TX _ _).J ?_;rw[hd];rintro e i ⟨rfl,rfl⟩)|(go_at_call 224;refine(nH _ _ d d).J ?_;rintro e r ⟨rfl,rfl⟩)|(go_at_call 196;refine(om s _ HS.j).J ?_;rw[<-p.j];rintro e i ⟨rfl,aW⟩;have bE:=LV ((RB.new w _).I aW);clear aW)|(refine lQ z 121 _ _ z j z z _ _ (.int .u8 0) (by rw[T];rfl) (by rw[T];kernel_rfl) ?_;intro A bB aY dF;have F:=LV bB;clear bB;have bF:=LV (bE.j.I aY);clear aY)|(go_at_call 223;refine(ju i.heap.size j f (n+7) 1 _ d d _ F.j (N:Int) HN.j).J ?_;rintro e r ⟨rfl,rfl⟩))
 have bI:i.heap.size<r.heap.size:=d
 have O:Hid (∀o,Fm (r.alloc o) i.heap.size j):=λo=>F.j.I (LH _ _) bI
 have bJ:(convert 22 9 (Y (Hw i.heap.size (n+8)) N (a-8))).run prog r.drew=.ok (Ow P) r.drew:=by rw[G.j];exact F.j.drew.text 22 5 9 underlying22 underlying5 underlying9 (n+8) N (a-8) d
 have bP:∀o,(convert 22 9 (Y (Hw i.heap.size (n+8)) N (a-8))).run prog (r.alloc o).drew=.ok (Ow P) (r.alloc o).drew:=λo=>by rw[G.j];exact(O.j o).drew.text 22 5 9 underlying22 underlying5 underlying9 (n+8) N (a-8) d
 refine(λHG:Wr ?G=>?main) ⟨?pf⟩
 case main =>
  go_region_law (first
   | (have _g:=g2;refine LM ρ 223 #[.slice (some ⟨i.heap.size,n+3,none⟩) 4 (a-3)] γ (ju i.heap.size j f (n+3) 4 _ d d _ (by first|exact F.j.drew|exact(O.j _).drew) M HM.j) ?_;rintro e w7 ⟨rfl,rfl⟩;refine⟨_,rfl,?_⟩)
   | (have _g:=g1;refine LM ρ 223 #[.slice (some ⟨i.heap.size,n+1,none⟩) 2 (a-1)] γ (ju i.heap.size j f (n+1) 2 _ d d _ (by first|exact F.j.drew|exact(O.j _).drew) L HL.j) ?_;rintro e w7 ⟨rfl,rfl⟩;refine⟨_,rfl,?_⟩;have g2:=True.intro)
   | (refine LM ρ 223 #[.slice (some ⟨i.heap.size,n,none⟩) 1 a] γ (ju i.heap.size j f n 1 _ d d _ (by first|exact F.j.drew|exact(O.j _).drew) K HK.j) ?_;rintro e w7 ⟨rfl,rfl⟩;refine⟨_,rfl,?_⟩;have g1:=True.intro))
  all_goals exact HG.j
 clear bJ bP;have aQ:r.heap.size=i.heap.size+1:=d
 have aR:=LV (λo=>(bF.j.alloc o).drew);have bG:=LV (λo=>(O.j o).drew);have bH:=LV (λt=>Be r (i.heap.size+1) aQ (Z K) (Z L) (Z M) (Ow P) t)
 cases hok:OB K L M P (n:Int)
 focus
  have h:Hid (R=none):=by
   show _=_;rw[HR.j,AF];intro I;have h0:NB K L M P (n:Int)=ByteArray.empty:=by unfold NB;rw[hok];rfl
   have aU:=HS.j;rw[<-I,h0]at aU;exact absurd aU δ
  go_wp2_with (first|(go_at_call 225;refine(sn K L M P n _ aV).J ?_;rw[hok];rintro e x ⟨rfl,u⟩;have Q:=LV ((aR.j _).I u);clear u)|(go_at_call 222;refine(yv _ H v _ (bC _ Q.j.bel)).J ?_;rintro e w4 ⟨⟨E,rfl⟩,S⟩;have c:=Q.j.I S;clear S;have U:=c.c0;have V:=c.c1;have W:=c.c2;have X:=c.c3;have f0:=c.f0;have f1:=c.f1;have f2:=c.f2;have f3:=c.f3;have aM:=LV c;clear c))
  refine AE (v:=.tuple #[OD 0 0 0 ⟨#[]⟩,.iface 198 (.pointer (some E))]) (by simp[results,results157,go_sem,U,V,W,X]) z ⟨⟨E,by rw[h.j];rfl⟩,?_⟩
 rotate_left
 focus
  have aP:=AW (by unfold OB at hok;exact hok);obtain⟨J,HY⟩:=nHz (LF (WQ K L M P n));have bR:J.length=64:=by rw[HY.j,NK];exact ka K L M P n d
  have h:Hid (R=if J=j then some (K,L,M,P) else none):=by
   show _=_;rw[HR.j];have h0:NB K L M P (n:Int)=WQ K L M P n:=by unfold NB;rw[hok,AI z,DO]
   rw[h0,HY.j,p.j]
   by_cases I:WQ K L M P n=s
   .rw[AI I,AI (by rw[I])]
   rw[AF I,AF (λb=>I (by rw[<-WR (WQ K L M P n),b,WR]))]
  obtain⟨iu,bQ⟩:=II.1 (show(prog.info? 5).isSome=true by kernel_rfl)
  have aD:=λA=>VG (P:=prog) (t:=121) underlying121 bQ κ (λ_=>κ) underlying5 J j bR T A
  obtain⟨bq,aO⟩:=nHz (!decide (J=j));rw[<-aO.j]at aD;have dL:=underlying121;have cO:(prog.info? 121).map (·.size)=some (j.map (Value.int .u8)).length:=by rw[BP,T];kernel_rfl
  clear aP
  go_wp2_with (first|(go_at_call 225;refine(sn K L M P n _ aV).J ?_;rw[hok];rintro e x ⟨rfl,u⟩))
  have bT:=u.size;simp only[BG,JD]at bT;have Q:=LV ((aR.j _).I u);have aT:=LV ((bG.j _).I u ξ);have aL:=LV ((bH.j _).drew.I u ξ);clear u
  have HT:Hid (∀k,Q3 x k->k.rangeAt i.heap.size 0 (j.map (Value.int .u8))/\k.cell? (Ki (i.heap.size+1) 0)=some (Z K)/\k.cell? (Ki (i.heap.size+1) 1)=some (Z L)/\k.cell? (Ki (i.heap.size+1) 2)=some (Z M)/\k.cell? (Ki (i.heap.size+1) 3)=some (Ow P)/\Q3 x k):=λk D=>by
   have m:=aL.j.I D d;exact⟨(aT.j.I D d).range,m.c0,m.c1,m.c2,m.c3,D⟩
  go_region_held3 (λk=>k.rangeAt i.heap.size 0 (j.map (Value.int .u8))/\k.cell? (Ki (i.heap.size+1) 0)=some (Z K)/\k.cell? (Ki (i.heap.size+1) 1)=some (Z L)/\k.cell? (Ki (i.heap.size+1) 2)=some (Z M)/\k.cell? (Ki (i.heap.size+1) 3)=some (Ow P)/\Q3 x k)
   (first|assumption|exact HT.j _ ((AB).drew)|exact HT.j _ (((AB).drew).E (aX.J C)))
   (first|(go_at_call 226;refine(tY K L M P n _ hok).J ?_;rw[<-HY.j];rintro e w6 ⟨rfl,aX⟩))
  rename_i q;have aC:=q.2.2.2.2.2;have c:=Q.j.I aC;have m:=aL.j.I aC d;have p0:=m.c0;have p1:=m.c1;have p2:=m.c2;have p3:=m.c3;clear q aC m HT aT aL Q aX
  cases bq
  focus
   have aN:Hid (R=some (K,L,M,P)):=by
    have l:J=j:=by simpa using aO.j
    show _=_;rw[h.j,AI l]
   clear aD;have U:=c.c0;have V:=c.c1;have W:=c.c2;have X:=c.c3;have f0:=c.f0;have f1:=c.f1;have f2:=c.f2;have f3:=c.f3;have aM:=LV c;clear c;go_wp2;refine AE (v:=.tuple #[OD K L M P,.nilIface]) (by simp[results,results157,go_sem,U,V,W,X]) z ⟨⟨(Ki 0 0),by rw[aN.j];rfl⟩,?_⟩
  rotate_left
  focus
   have aN:Hid (R=none):=by
    have l:¬J=j:=by simpa using aO.j
    show _=_;rw[h.j,AF l]
   clear aD;have aS:=LV c;clear c
   go_wp2_with (first|(go_at_call 222;refine(yv _ H v _ (bC _ aS.j.bel)).J ?_;rintro e w4 ⟨⟨E,rfl⟩,S⟩;have c:=aS.j.I S;clear S;have U:=c.c0;have V:=c.c1;have W:=c.c2;have X:=c.c3;have f0:=c.f0;have f1:=c.f1;have f2:=c.f2;have f3:=c.f3;have aM:=LV c;clear c))
   refine AE (v:=.tuple #[OD 0 0 0 ⟨#[]⟩,.iface 198 (.pointer (some E))]) (by simp[results,results157,go_sem,U,V,W,X]) z ⟨⟨E,by rw[aN.j];rfl⟩,?_⟩
  rotate_left
 rotate_left 2
 all_goals
  exact(((aM.j.bel.setCell C _).setCell C _).setCell C _).setCell C _
