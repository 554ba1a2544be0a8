import Derived.Test.YtjdmogljfdffeaaGreatDoorPrG41
set_option maxHeartbeats 16000000
namespace Go.Proofs.YtjdmogljfdffeaaGreatDoor
open Tryz
open Go.RowKit
set_option linter.all false
structure Bx4(w:World)(B:Nat)(v0 v1 v2 v3:Value):Prop where
 c0:w.cell? ⟨B,0,none⟩=some v0
 c1:w.cell? ⟨B,1,none⟩=some v1
 c2:w.cell? ⟨B,2,none⟩=some v2
 c3:w.cell? ⟨B,3,none⟩=some v3
theorem Bx4.z{w g:World}{B:Nat}{c d e f:Value}(h:Bx4 w B c d e f)(b:Below w.heap.size w g)(a:B<w.heap.size):Bx4 g B c d e f :=⟨(b.cell (p:=⟨B,0,none⟩) a).j h.c0,(b.cell (p:=⟨B,1,none⟩) a).j h.c1,(b.cell (p:=⟨B,2,none⟩) a).j h.c2,(b.cell (p:=⟨B,3,none⟩) a).j h.c3⟩
theorem Bx4.drew{w:World}{B:Nat}{a b c d:Value}(h:Bx4 w B a b c d):Bx4 w.drew B a b c d:=⟨h.c0,h.c1,h.c2,h.c3⟩
theorem uZ(w:World)(B:Nat)(e:w.heap.size=B)(a b c d:Value)(t:TypeId):Bx4 (w.alloc (.cells #[a,b,c,d] t)) B a b c d:=by subst e;exact⟨σ,σ,σ,σ⟩
set_option maxRecDepth 4000 in
theorem Fq(s:ByteArray)(n N:Nat)(K L M:Int)(P:ByteArray)(w:World)(T:TypeId)(v:Value)(hv:w.cell? ⟨1,0,none⟩=some (.iface T v))(hg:1<w.heap.size)(hs:s.size=64)(h1:1<=n)(h2:n<=8)(hN:(N:Int)=MT (((KU s).drop (n+7)).take 1))(cU:N+n<=56)
  (hK:K=MT (((KU s).drop n).take 1))(hL:L=MT (((KU s).drop (n+1)).take 2))(hM:M=MT (((KU s).drop (n+3)).take 4))(hP:P=strOfNums (((KU s).drop (n+8)).take N))
  (cH:0<=K)(cI:K<=255)(cL:0<=L)(cO:L<=65535)(cQ:0<=M)(cS:M<=4294967295):Calls prog 192 #[.string s,.int .i64 (n:Int)] w λe d=>(∃E,e=.returned (aw E (if LS K L M P (n:Int)=s then some (K,L,M,P) else none)))/\Below w.heap.size w d:=by
 have hd:decide (1<=(n:Int)/\(n:Int)<=8)=true:=τ
 have dV:(s.size:Int)=64:=ω
 have cV:∀o,Below w.heap.size w (w.alloc o):=λo=>KW _ _
 have bG:∀d,Below w.heap.size w d->d.cell? ⟨1,0,none⟩=some (.iface T v):=λd I=>(I.cell (p:=⟨1,0,none⟩) hg).j hv
 obtain⟨c,i⟩:∃c,Hid (c=KU s):=⟨_,LN rfl⟩;have B:c.length=64:=by rw[i.l,ME];exact hs
 have eB:(c.map (Value.int .u8)).toArray.size=64:=by simp[B]
 have O:Hid (∀y∈c,0<=y/\y<=255):=by rw[i.l];exact gk s
 have HS:=LN hs;clear hs
 have cA:=λg U=>og (P:=prog) (t:=142) underlying142 (λ_=>κ) g 0 n ω .i64 (n:Int) rfl U
 obtain⟨q,hq⟩:∃q,64-n=q:=⟨_,rfl⟩;rw[hq]at cA;have dM:(8:Int)<=(q:Int):=ω
 have dL:(7:Int)<=(q:Int):=ω
 have HN:Hid ((N:Int)=MT ((c.drop (n+7)).take 1)):=by rw[i.l];exact LN hN
 have HK:Hid (K=MT ((c.drop n).take 1)):=by rw[i.l];exact LN hK
 have HL:Hid (L=MT ((c.drop (n+1)).take 2)):=by rw[i.l];exact LN hL
 have HM:Hid (M=MT ((c.drop (n+3)).take 4)):=by rw[i.l];exact LN hM
 have W:Hid (P=strOfNums ((c.drop (n+8)).take N)):=by rw[i.l];exact LN hP
 have aV:P.size<=1048576:=by rw[W.l,BU,BF];omega
 clear hN hK hL hM hP;obtain⟨R,X⟩:∃R,Hid (R=if LS K L M P (n:Int)=s then some (K,L,M,P) else none):=⟨_,LN rfl⟩;rw[<-X.l];have cJ:IntKind.i64.wrap K=K:=by simp[IntKind.wrap,IntKind.bits,IntKind.signed];omega
 have cP:IntKind.i64.wrap L=L:=by simp[IntKind.wrap,IntKind.bits,IntKind.signed];omega
 have cT:IntKind.i64.wrap M=M:=by simp[IntKind.wrap,IntKind.bits,IntKind.signed];omega
 obtain⟨m,aZ⟩:∃m:Nat,m-8=N/\(8:Int)+(N:Int)=(m:Int):=⟨8+N,ω,ω⟩;obtain⟨aZ,S⟩:=aZ;have cC:(8:Int)<=(m:Int):=ω
 have cE:(m:Int)<=(q:Int):=ω
 have cF:IntKind.i64.wrap (m:Int)=(m:Int):=by simp[IntKind.wrap,IntKind.bits,IntKind.signed];omega
 have cY:(N:Int)<=64-(n:Int)-8:=ω
 have cZ:(1:Int)<=(q:Int):=ω
 have dH:(3:Int)<=(q:Int):=ω
 have dN:¬q=1:=ω
 have dQ:¬q=3:=ω
 have dR:¬q=8:=ω
 have dU:¬q=7:=ω
 go_enter func192,ntmps192
 go_wp2_with (first|(go_at_call 45;refine(RX _ _).A ?_;rw[hd];rintro e b ⟨rfl,rfl⟩)|(go_at_call 78;refine(uw _ _ ω ω).A ?_;rintro e j ⟨rfl,rfl⟩)|(go_at_call 92;refine(ig s _ HS.l).A ?_;rw[<-i.l];rintro e b ⟨rfl,aW⟩;have bH:=LN ((RB.new w _).z aW);clear aW)|(refine tr rfl 142 _ _ rfl c rfl rfl _ _ (.int .u8 0) (by rw[B];rfl) (by rw[B];kernel_rfl) ?_;intro U bE aY dZ;have r:=LN bE;clear bE;have bI:=LN (bH.l.z aY);clear aY)|(go_at_call 186;refine(cr b.heap.size c O (n+7) 1 _ ω ω _ r.l (N:Int) HN.l).A ?_;rintro e j ⟨rfl,rfl⟩))
 have bT:b.heap.size<j.heap.size:=ω
 have x:Hid (∀o,Fm (j.alloc o) b.heap.size c):=λo=>r.l.z (KW _ _) bT
 have bU:(convert 22 9 (.slice (some ⟨b.heap.size,n+8,none⟩) N (q-8))).run prog j.drew=.ok (.string P) j.drew:=by rw[W.l];exact r.l.drew.text 22 5 9 underlying22 underlying5 underlying9 (n+8) N (q-8) ω
 have bV:∀o,(convert 22 9 (.slice (some ⟨b.heap.size,n+8,none⟩) N (q-8))).run prog (j.alloc o).drew=.ok (.string P) (j.alloc o).drew:=λo=>by rw[W.l];exact(x.l o).drew.text 22 5 9 underlying22 underlying5 underlying9 (n+8) N (q-8) ω
 refine(λHG:Wr ?G=>?main) ⟨?pf⟩
 case main =>
  go_region_law (first
   | (have _g:=g2;refine LC ρ 186 #[.slice (some ⟨b.heap.size,n+3,none⟩) 4 (q-3)] γ (cr b.heap.size c O (n+3) 4 _ ω ω _ (by first|exact r.l.drew|exact(x.l _).drew) M HM.l) ?_;rintro e w7 ⟨rfl,rfl⟩;refine⟨_,rfl,?_⟩)
   | (have _g:=g1;refine LC ρ 186 #[.slice (some ⟨b.heap.size,n+1,none⟩) 2 (q-1)] γ (cr b.heap.size c O (n+1) 2 _ ω ω _ (by first|exact r.l.drew|exact(x.l _).drew) L HL.l) ?_;rintro e w7 ⟨rfl,rfl⟩;refine⟨_,rfl,?_⟩;have g2:=True.intro)
   | (refine LC ρ 186 #[.slice (some ⟨b.heap.size,n,none⟩) 1 q] γ (cr b.heap.size c O n 1 _ ω ω _ (by first|exact r.l.drew|exact(x.l _).drew) K HK.l) ?_;rintro e w7 ⟨rfl,rfl⟩;refine⟨_,rfl,?_⟩;have g1:=True.intro))
  all_goals exact HG.l
 clear bU bV;have aQ:j.heap.size=b.heap.size+1:=ω
 have aR:=LN (λo=>(bI.l.alloc o).drew);have bJ:=LN (λo=>(x.l o).drew);have bQ:=LN (λt=>uZ j (b.heap.size+1) aQ (.int .i64 K) (.int .i64 L) (.int .i64 M) (.string P) t)
 cases hok:MN K L M P (n:Int)
 focus
  have Q:Hid (R=none):=by
   show _=_;rw[X.l,AG];intro u;have h0:LS K L M P (n:Int)=ByteArray.empty:=by unfold LS;rw[hok];rfl
   have aU:=HS.l;rw[<-u,h0]at aU;exact absurd aU δ
  go_wp2_with (first|(go_at_call 152;refine(la K L M P n _ aV).A ?_;rw[hok];rintro e p ⟨rfl,k⟩;have z:=LN ((aR.l _).z k);clear k)|(go_at_call 195;refine(sk _ T v _ (bG _ z.l.bel)).A ?_;rintro e w4 ⟨⟨E,rfl⟩,A⟩;have a:=z.l.z A;clear A;have C:=a.c0;have D:=a.c1;have F:=a.c2;have G:=a.c3;have f0:=a.f0;have f1:=a.f1;have f2:=a.f2;have f3:=a.f3;have aM:=LN a;clear a))
  refine AI (v:=.tuple #[NK 0 0 0 ⟨#[]⟩,.iface 245 (.pointer (some E))]) (by simp[results,results192,go_sem,C,D,F,G]) rfl ⟨⟨E,by rw[Q.l];rfl⟩,?_⟩
 rotate_left
 focus
  have aP:=AU (by unfold MN at hok;exact hok);obtain⟨l,HY⟩:∃l,Hid (l=KU (RJ K L M P n)):=⟨_,LN rfl⟩;have bY:l.length=64:=by rw[HY.l,ME];exact aa K L M P n ω
  have Q:Hid (R=if l=c then some (K,L,M,P) else none):=by
   show _=_;rw[X.l];have h0:LS K L M P (n:Int)=RJ K L M P n:=by unfold LS;rw[hok,AF rfl,BM]
   rw[h0,HY.l,i.l]
   by_cases u:RJ K L M P n=s
   ·rw[AF u,AF (by rw[u])]
   rw[AG u,AG (λh=>u (by rw[<-TI (RJ K L M P n),h,TI]))]
  obtain⟨iu,bW⟩:=GS.1 (show(prog.info? 5).isSome=true by kernel_rfl)
  have aD:=λU=>SX (P:=prog) (t:=142) underlying142 bW κ (λ_=>κ) underlying5 l c bY B U
  obtain⟨bq,aO⟩:∃bq,Hid (bq=!decide (l=c)):=⟨_,LN rfl⟩;rw[<-aO.l]at aD;have eC:=underlying142;have cW:(prog.info? 142).map (·.size)=some (c.map (Value.int .u8)).length:=by rw[BP,B];kernel_rfl
  clear aP
  go_wp2_with (first|(go_at_call 152;refine(la K L M P n _ aV).A ?_;rw[hok];rintro e p ⟨rfl,k⟩))
  have bZ:=k.size;simp only[BB,IS]at bZ;have z:=LN ((aR.l _).z k);have aT:=LN ((bJ.l _).z k ξ);have aL:=LN ((bQ.l _).drew.z k ξ);clear k
  have HT:Hid (∀d,Below p.heap.size p d->d.rangeAt b.heap.size 0 (c.map (Value.int .u8))/\d.cell? ⟨b.heap.size+1,0,none⟩=some (.int .i64 K)/\d.cell? ⟨b.heap.size+1,1,none⟩=some (.int .i64 L)/\d.cell? ⟨b.heap.size+1,2,none⟩=some (.int .i64 M)/\d.cell? ⟨b.heap.size+1,3,none⟩=some (.string P)/\Below p.heap.size p d):=λd I=>by
   have f:=aL.l.z I ω;exact⟨(aT.l.z I ω).range,f.c0,f.c1,f.c2,f.c3,I⟩
  go_region_held3 (λd=>d.rangeAt b.heap.size 0 (c.map (Value.int .u8))/\d.cell? ⟨b.heap.size+1,0,none⟩=some (.int .i64 K)/\d.cell? ⟨b.heap.size+1,1,none⟩=some (.int .i64 L)/\d.cell? ⟨b.heap.size+1,2,none⟩=some (.int .i64 M)/\d.cell? ⟨b.heap.size+1,3,none⟩=some (.string P)/\Below p.heap.size p d)
   (first|assumption|exact HT.l _ ((AC _ _).drew)|exact HT.l _ (((AC _ _).drew).j (aX.A (Y _))))
   (first|(go_at_call 153;refine(oH K L M P n _ hok).A ?_;rw[<-HY.l];rintro e w6 ⟨rfl,aX⟩))
  rename_i H;have aC:=H.2.2.2.2.2;have a:=z.l.z aC;have f:=aL.l.z aC ω;have p0:=f.c0;have p1:=f.c1;have p2:=f.c2;have p3:=f.c3;clear H aC f HT aT aL z aX
  cases bq
  focus
   have aN:Hid (R=some (K,L,M,P)):=by
    have S:l=c:=by simpa using aO.l
    show _=_;rw[Q.l,AF S]
   clear aD;have C:=a.c0;have D:=a.c1;have F:=a.c2;have G:=a.c3;have f0:=a.f0;have f1:=a.f1;have f2:=a.f2;have f3:=a.f3;have aM:=LN a;clear a;go_wp2;refine AI (v:=.tuple #[NK K L M P,.nilIface]) (by simp[results,results192,go_sem,C,D,F,G]) rfl ⟨⟨⟨0,0,none⟩,by rw[aN.l];rfl⟩,?_⟩
  rotate_left
  focus
   have aN:Hid (R=none):=by
    have S:¬l=c:=by simpa using aO.l
    show _=_;rw[Q.l,AG S]
   clear aD;have aS:=LN a;clear a
   go_wp2_with (first|(go_at_call 195;refine(sk _ T v _ (bG _ aS.l.bel)).A ?_;rintro e w4 ⟨⟨E,rfl⟩,A⟩;have a:=aS.l.z A;clear A;have C:=a.c0;have D:=a.c1;have F:=a.c2;have G:=a.c3;have f0:=a.f0;have f1:=a.f1;have f2:=a.f2;have f3:=a.f3;have aM:=LN a;clear a))
   refine AI (v:=.tuple #[NK 0 0 0 ⟨#[]⟩,.iface 245 (.pointer (some E))]) (by simp[results,results192,go_sem,C,D,F,G]) rfl ⟨⟨E,by rw[aN.l];rfl⟩,?_⟩
  rotate_left
 rotate_left 2
 all_goals
  exact(((aM.l.bel.setCell (Y _) _).setCell (Y _) _).setCell (Y _) _).setCell (Y _) _
