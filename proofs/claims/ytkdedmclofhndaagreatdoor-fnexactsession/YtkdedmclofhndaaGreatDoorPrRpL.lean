import Derived.Test.YtkdedmclofhndaaGreatDoorPrG36
set_option maxHeartbeats 16000000
namespace Go.Proofs.YtkdedmclofhndaaGreatDoor
open Tryz
open Go.RowKit
set_option linter.all false
structure Bx4(w:xV)(B:Nat)(v0 v1 v2 v3:qD):Prop where
 c0:w.cell? (yA B 0)=some v0
 c1:w.cell? (yA B 1)=some v1
 c2:w.cell? (yA B 2)=some v2
 c3:w.cell? (yA B 3)=some v3
theorem Bx4.I{w g:xV}{B:Nat}{c d e f:qD}(h:Bx4 w B c d e f)(b:yX w g)(a:B<w.heap.size):Bx4 g B c d e f :=⟨(b.cell (p:=(yA B 0)) a).E h.c0,(b.cell (p:=(yA B 1)) a).E h.c1,(b.cell (p:=(yA B 2)) a).E h.c2,(b.cell (p:=(yA B 3)) a).E h.c3⟩
theorem Bx4.drew{w:xV}{B:Nat}{a b c d:qD}(h:Bx4 w B a b c d):Bx4 w.drew B a b c d:=⟨h.c0,h.c1,h.c2,h.c3⟩
theorem yL(w:xV)(B:Nat)(e:w.heap.size=B)(a b c d:qD)(t:TypeId):Bx4 (w.alloc (.cells #[a,b,c,d] t)) B a b c d:=by subst e;exact⟨σ,σ,σ,σ⟩
set_option maxRecDepth 4000 in
theorem Ki(s:yZ)(n N:Nat)(K L M:Int)(P:yZ)(w:xV)(Q:TypeId)(v:qD)(hv:w.cell? (yA 7 0)=some (.iface Q v))(hg:7<w.heap.size)(hs:s.size=64)(h1:1<=n)(h2:n<=8)(hN:(N:Int)=MY (((LF s).drop (n+7)).take 1))(cM:N+n<=56)
  (hK:K=MY (((LF s).drop n).take 1))(hL:L=MY (((LF s).drop (n+1)).take 2))(hM:M=MY (((LF s).drop (n+3)).take 4))(hP:P=strOfNums (((LF s).drop (n+8)).take N))
  (bZ:0<=K)(cA:K<=255)(cE:0<=L)(cF:L<=65535)(cI:0<=M)(cJ:M<=4294967295):Calls prog 176 #[yQ s,Z (n:Int)] w λe d=>(∃E,e=yT (ae E (if MJ K L M P (n:Int)=s then some (K,L,M,P) else none)))/\yX w d:=by
 have hd:decide (1<=(n:Int)/\(n:Int)<=8)=true:=τ
 have dB:(s.size:Int)=64:=ω
 have cN:∀o,yX w (w.alloc o):=λo=>LG _ _
 have bC:∀d,yX w d->d.cell? (yA 7 0)=some (.iface Q v):=λd H=>(H.cell (p:=(yA 7 0)) hg).E hv
 obtain⟨c,i⟩:∃c,Hid (c=LF s):=⟨_,LQ rfl⟩;have A:c.length=64:=by rw[i.j,MR];exact hs
 have dH:(c.map (Value.int .u8)).toArray.size=64:=by simp[A]
 have I:Hid (∀y∈c,0<=y/\y<=255):=by rw[i.j];exact gj s
 have HS:=LQ hs;clear hs
 have bU:=λg T=>ox (P:=prog) (t:=143) underlying143 (λ_=>κ) g 0 n ω .i64 (n:Int) rfl T
 obtain⟨q,hq⟩:∃q,64-n=q:=⟨_,rfl⟩;rw[hq]at bU;have cV:(8:Int)<=(q:Int):=ω
 have cT:(7:Int)<=(q:Int):=ω
 have HN:Hid ((N:Int)=MY ((c.drop (n+7)).take 1)):=by rw[i.j];exact LQ hN
 have HK:Hid (K=MY ((c.drop n).take 1)):=by rw[i.j];exact LQ hK
 have HL:Hid (L=MY ((c.drop (n+1)).take 2)):=by rw[i.j];exact LQ hL
 have HM:Hid (M=MY ((c.drop (n+3)).take 4)):=by rw[i.j];exact LQ hM
 have U:Hid (P=strOfNums ((c.drop (n+8)).take N)):=by rw[i.j];exact LQ hP
 have aV:P.size<=1048576:=by rw[U.j,CY,AX];omega
 clear hN hK hL hM hP;obtain⟨R,V⟩:∃R,Hid (R=if MJ K L M P (n:Int)=s then some (K,L,M,P) else none):=⟨_,LQ rfl⟩;rw[<-V.j];have cC:IntKind.i64.wrap K=K:=by simp[IntKind.wrap,IntKind.bits,IntKind.signed];omega
 have cH:IntKind.i64.wrap L=L:=by simp[IntKind.wrap,IntKind.bits,IntKind.signed];omega
 have cL:IntKind.i64.wrap M=M:=by simp[IntKind.wrap,IntKind.bits,IntKind.signed];omega
 obtain⟨m,aZ⟩:∃m:Nat,m-8=N/\(8:Int)+(N:Int)=(m:Int):=⟨8+N,ω,ω⟩;obtain⟨aZ,O⟩:=aZ;have bV:(8:Int)<=(m:Int):=ω
 have bW:(m:Int)<=(q:Int):=ω
 have bY:IntKind.i64.wrap (m:Int)=(m:Int):=by simp[IntKind.wrap,IntKind.bits,IntKind.signed];omega
 have cP:(N:Int)<=64-(n:Int)-8:=ω
 have cQ:(1:Int)<=(q:Int):=ω
 have cS:(3:Int)<=(q:Int):=ω
 have cW:¬q=1:=ω
 have cX:¬q=3:=ω
 have cY:¬q=8:=ω
 have cZ:¬q=7:=ω
 go_enter func176,ntmps176
 go_wp2_with (first|(go_at_call 36;refine(RH _ _).J ?_;rw[hd];rintro e b ⟨rfl,rfl⟩)|(go_at_call 236;refine(vn _ _ ω ω).J ?_;rintro e j ⟨rfl,rfl⟩)|(go_at_call 208;refine(im s _ HS.j).J ?_;rw[<-i.j];rintro e b ⟨rfl,aW⟩;have bE:=LQ ((RB.new w _).I aW);clear aW)|(refine ui rfl 143 _ _ rfl c rfl rfl _ _ (.int .u8 0) (by rw[A];rfl) (by rw[A];kernel_rfl) ?_;intro T bB aY dF;have p:=LQ bB;clear bB;have bF:=LQ (bE.j.I aY);clear aY)|(go_at_call 235;refine(cd b.heap.size c I (n+7) 1 _ ω ω _ p.j (N:Int) HN.j).J ?_;rintro e j ⟨rfl,rfl⟩))
 have bI:b.heap.size<j.heap.size:=ω
 have u:Hid (∀o,Fm (j.alloc o) b.heap.size c):=λo=>p.j.I (LG _ _) bI
 have bJ:(convert 24 9 (yI (zY b.heap.size (n+8)) N (q-8))).run prog j.drew=.ok (yQ P) j.drew:=by rw[U.j];exact p.j.drew.text 24 5 9 underlying24 underlying5 underlying9 (n+8) N (q-8) ω
 have bP:∀o,(convert 24 9 (yI (zY b.heap.size (n+8)) N (q-8))).run prog (j.alloc o).drew=.ok (yQ P) (j.alloc o).drew:=λo=>by rw[U.j];exact(u.j o).drew.text 24 5 9 underlying24 underlying5 underlying9 (n+8) N (q-8) ω
 refine(λHG:Wr ?G=>?main) ⟨?pf⟩
 case main =>
  go_region_law (first
   | (have _g:=g2;refine LI ρ 235 #[.slice (some ⟨b.heap.size,n+3,none⟩) 4 (q-3)] γ (cd b.heap.size c I (n+3) 4 _ ω ω _ (by first|exact p.j.drew|exact(u.j _).drew) M HM.j) ?_;rintro e w7 ⟨rfl,rfl⟩;refine⟨_,rfl,?_⟩)
   | (have _g:=g1;refine LI ρ 235 #[.slice (some ⟨b.heap.size,n+1,none⟩) 2 (q-1)] γ (cd b.heap.size c I (n+1) 2 _ ω ω _ (by first|exact p.j.drew|exact(u.j _).drew) L HL.j) ?_;rintro e w7 ⟨rfl,rfl⟩;refine⟨_,rfl,?_⟩;have g2:=True.intro)
   | (refine LI ρ 235 #[.slice (some ⟨b.heap.size,n,none⟩) 1 q] γ (cd b.heap.size c I n 1 _ ω ω _ (by first|exact p.j.drew|exact(u.j _).drew) K HK.j) ?_;rintro e w7 ⟨rfl,rfl⟩;refine⟨_,rfl,?_⟩;have g1:=True.intro))
  all_goals exact HG.j
 clear bJ bP;have aQ:j.heap.size=b.heap.size+1:=ω
 have aR:=LQ (λo=>(bF.j.alloc o).drew);have bG:=LQ (λo=>(u.j o).drew);have bH:=LQ (λt=>yL j (b.heap.size+1) aQ (Z K) (Z L) (Z M) (yQ P) t)
 cases hok:NC K L M P (n:Int)
 focus
  have J:Hid (R=none):=by
   show _=_;rw[V.j,AF];intro r;have h0:MJ K L M P (n:Int)=ByteArray.empty:=by unfold MJ;rw[hok];rfl
   have aU:=HS.j;rw[<-r,h0]at aU;exact absurd aU δ
  go_wp2_with (first|(go_at_call 237;refine(lj K L M P n _ aV).J ?_;rw[hok];rintro e S ⟨rfl,k⟩;have x:=LQ ((aR.j _).I k);clear k)|(go_at_call 234;refine(th _ Q v _ (bC _ x.j.bel)).J ?_;rintro e w4 ⟨⟨E,rfl⟩,z⟩;have a:=x.j.I z;clear z;have B:=a.c0;have C:=a.c1;have D:=a.c2;have F:=a.c3;have f0:=a.f0;have f1:=a.f1;have f2:=a.f2;have f3:=a.f3;have aM:=LQ a;clear a))
  refine AE (v:=.tuple #[ND 0 0 0 ⟨#[]⟩,.iface 207 (.pointer (some E))]) (by simp[results,results176,go_sem,B,C,D,F]) rfl ⟨⟨E,by rw[J.j];rfl⟩,?_⟩
 rotate_left
 focus
  have aP:=AW (by unfold NC at hok;exact hok);obtain⟨l,X⟩:∃l,Hid (l=LF (TX K L M P n)):=⟨_,LQ rfl⟩;have bR:l.length=64:=by rw[X.j,MR];exact cz K L M P n ω
  have J:Hid (R=if l=c then some (K,L,M,P) else none):=by
   show _=_;rw[V.j];have h0:MJ K L M P (n:Int)=TX K L M P n:=by unfold MJ;rw[hok,AI rfl,DS]
   rw[h0,X.j,i.j]
   by_cases r:TX K L M P n=s
   ·rw[AI r,AI (by rw[r])]
   rw[AF r,AF (λh=>r (by rw[<-UA (TX K L M P n),h,UA]))]
  obtain⟨iu,bQ⟩:=IF.1 (show(prog.info? 5).isSome=true by kernel_rfl)
  have aD:=λT=>Ta (P:=prog) (t:=143) underlying143 bQ κ (λ_=>κ) underlying5 l c bR A T
  obtain⟨bq,aO⟩:∃bq,Hid (bq=!decide (l=c)):=⟨_,LQ rfl⟩;rw[<-aO.j]at aD;have dL:=underlying143;have cO:(prog.info? 143).map (·.size)=some (c.map (Value.int .u8)).length:=by rw[BO,A];kernel_rfl
  clear aP
  go_wp2_with (first|(go_at_call 237;refine(lj K L M P n _ aV).J ?_;rw[hok];rintro e S ⟨rfl,k⟩))
  have bT:=k.size;simp only[BE,JD]at bT;have x:=LQ ((aR.j _).I k);have aT:=LQ ((bG.j _).I k ξ);have aL:=LQ ((bH.j _).drew.I k ξ);clear k
  have W:Hid (∀d,yX S d->d.rangeAt b.heap.size 0 (c.map (Value.int .u8))/\d.cell? (yA (b.heap.size+1) 0)=some (Z K)/\d.cell? (yA (b.heap.size+1) 1)=some (Z L)/\d.cell? (yA (b.heap.size+1) 2)=some (Z M)/\d.cell? (yA (b.heap.size+1) 3)=some (yQ P)/\yX S d):=λd H=>by
   have f:=aL.j.I H ω;exact⟨(aT.j.I H ω).range,f.c0,f.c1,f.c2,f.c3,H⟩
  go_region_held3 (λd=>d.rangeAt b.heap.size 0 (c.map (Value.int .u8))/\d.cell? (yA (b.heap.size+1) 0)=some (Z K)/\d.cell? (yA (b.heap.size+1) 1)=some (Z L)/\d.cell? (yA (b.heap.size+1) 2)=some (Z M)/\d.cell? (yA (b.heap.size+1) 3)=some (yQ P)/\yX S d)
   (first|assumption|exact W.j _ ((AB _ _).drew)|exact W.j _ (((AB _ _).drew).E (aX.J (AA _))))
   (first|(go_at_call 238;refine(qA K L M P n _ hok).J ?_;rw[<-X.j];rintro e w6 ⟨rfl,aX⟩))
  rename_i G;have Y:=G.2.2.2.2.2;have a:=x.j.I Y;have f:=aL.j.I Y ω;have p0:=f.c0;have p1:=f.c1;have p2:=f.c2;have p3:=f.c3;clear G Y f W aT aL x aX
  cases bq
  focus
   have aN:Hid (R=some (K,L,M,P)):=by
    have O:l=c:=by simpa using aO.j
    show _=_;rw[J.j,AI O]
   clear aD;have B:=a.c0;have C:=a.c1;have D:=a.c2;have F:=a.c3;have f0:=a.f0;have f1:=a.f1;have f2:=a.f2;have f3:=a.f3;have aM:=LQ a;clear a;go_wp2;refine AE (v:=.tuple #[ND K L M P,.nilIface]) (by simp[results,results176,go_sem,B,C,D,F]) rfl ⟨⟨(yA 0 0),by rw[aN.j];rfl⟩,?_⟩
  rotate_left
  focus
   have aN:Hid (R=none):=by
    have O:¬l=c:=by simpa using aO.j
    show _=_;rw[J.j,AF O]
   clear aD;have aS:=LQ a;clear a
   go_wp2_with (first|(go_at_call 234;refine(th _ Q v _ (bC _ aS.j.bel)).J ?_;rintro e w4 ⟨⟨E,rfl⟩,z⟩;have a:=aS.j.I z;clear z;have B:=a.c0;have C:=a.c1;have D:=a.c2;have F:=a.c3;have f0:=a.f0;have f1:=a.f1;have f2:=a.f2;have f3:=a.f3;have aM:=LQ a;clear a))
   refine AE (v:=.tuple #[ND 0 0 0 ⟨#[]⟩,.iface 207 (.pointer (some E))]) (by simp[results,results176,go_sem,B,C,D,F]) rfl ⟨⟨E,by rw[aN.j];rfl⟩,?_⟩
  rotate_left
 rotate_left 2
 all_goals
  exact(((aM.j.bel.setCell (AA _) _).setCell (AA _) _).setCell (AA _) _).setCell (AA _) _
