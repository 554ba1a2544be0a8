import Derived.Test.YtmlejnbjclkdjaaGreatDoorPrG36
set_option maxHeartbeats 16000000
namespace Go.Proofs.YtmlejnbjclkdjaaGreatDoor
open Tryz
open Go.RowKit
set_option linter.all false
structure Bx4(w:Nb)(B:Nat)(v0 v1 v2 v3:Nc):Prop where
 c0:w.cell? ⟨B,0,none⟩=some v0
 c1:w.cell? ⟨B,1,none⟩=some v1
 c2:w.cell? ⟨B,2,none⟩=some v2
 c3:w.cell? ⟨B,3,none⟩=some v3
theorem Bx4.I{w g:Nb}{B:Nat}{c d e f:Nc}(h:Bx4 w B c d e f)(b:Below w.heap.size w g)(a:B<w.heap.size):Bx4 g B c d e f :=⟨(b.cell (p:=⟨B,0,none⟩) a).j h.c0,(b.cell (p:=⟨B,1,none⟩) a).j h.c1,(b.cell (p:=⟨B,2,none⟩) a).j h.c2,(b.cell (p:=⟨B,3,none⟩) a).j h.c3⟩
theorem Bx4.drew{w:Nb}{B:Nat}{a b c d:Nc}(h:Bx4 w B a b c d):Bx4 w.drew B a b c d:=⟨h.c0,h.c1,h.c2,h.c3⟩
theorem vY(w:Nb)(B:Nat)(e:w.heap.size=B)(a b c d:Nc)(t:TypeId):Bx4 (w.alloc (.cells #[a,b,c,d] t)) B a b c d:=by subst e;exact⟨σ,σ,σ,σ⟩
set_option maxRecDepth 4000 in
theorem Hs(s:Y)(n N:Nat)(K L M:Int)(P:Y)(w:Nb)(S:TypeId)(v:Nc)(hv:w.cell? ⟨1,0,none⟩=some (.iface S v))(hg:1<w.heap.size)(hs:s.size=64)(h1:1<=n)(h2:n<=8)(hN:(N:Int)=NY (((LI s).drop (n+7)).take 1))(cN:N+n<=56)
  (hK:K=NY (((LI s).drop n).take 1))(hL:L=NY (((LI s).drop (n+1)).take 2))(hM:M=NY (((LI s).drop (n+3)).take 4))(hP:P=strOfNums (((LI s).drop (n+8)).take N))
  (cB:0<=K)(cC:K<=255)(cF:0<=L)(cH:L<=65535)(cJ:0<=M)(cL:M<=4294967295):Calls prog 46 #[Mz s,.int .i64 (n:Int)] w λe d=>(∃E,e=M3 (aa E (if MM K L M P (n:Int)=s then some (K,L,M,P) else none)))/\Below w.heap.size w d:=by
 have hd:decide (1<=(n:Int)/\(n:Int)<=8)=true:=τ
 have dM:(s.size:Int)=64:=ω
 have cO:∀o,Below w.heap.size w (w.alloc o):=λo=>LO _ _
 have bE:∀d,Below w.heap.size w d->d.cell? ⟨1,0,none⟩=some (.iface S v):=λd I=>(I.cell (p:=⟨1,0,none⟩) hg).j hv
 obtain⟨c,i⟩:∃c,Hid (c=LI s):=⟨_,MF rfl⟩;have B:c.length=64:=by rw[i.l,NH];exact hs
 have dP:(c.map (Value.int .u8)).toArray.size=64:=by simp[B]
 have J:Hid (∀y∈c,0<=y/\y<=255):=by rw[i.l];exact fv s
 have HS:=MF hs;clear hs
 have bY:=λg T=>mz (P:=prog) (t:=142) underlying142 (λ_=>κ) g 0 n ω .i64 (n:Int) rfl T
 obtain⟨q,hq⟩:∃q,64-n=q:=⟨_,rfl⟩;rw[hq]at bY;have cV:(8:Int)<=(q:Int):=ω
 have cU:(7:Int)<=(q:Int):=ω
 have HN:Hid ((N:Int)=NY ((c.drop (n+7)).take 1)):=by rw[i.l];exact MF hN
 have HK:Hid (K=NY ((c.drop n).take 1)):=by rw[i.l];exact MF hK
 have HL:Hid (L=NY ((c.drop (n+1)).take 2)):=by rw[i.l];exact MF hL
 have HM:Hid (M=NY ((c.drop (n+3)).take 4)):=by rw[i.l];exact MF hM
 have U:Hid (P=strOfNums ((c.drop (n+8)).take N)):=by rw[i.l];exact MF hP
 have aV:P.size<=1048576:=by rw[U.l,CJ,AP];omega
 clear hN hK hL hM hP;obtain⟨R,V⟩:∃R,Hid (R=if MM K L M P (n:Int)=s then some (K,L,M,P) else none):=⟨_,MF rfl⟩;rw[<-V.l];have cE:IntKind.i64.wrap K=K:=by simp[IntKind.wrap,IntKind.bits,IntKind.signed];omega
 have cI:IntKind.i64.wrap L=L:=by simp[IntKind.wrap,IntKind.bits,IntKind.signed];omega
 have cM:IntKind.i64.wrap M=M:=by simp[IntKind.wrap,IntKind.bits,IntKind.signed];omega
 obtain⟨m,aZ⟩:∃m:Nat,m-8=N/\(8:Int)+(N:Int)=(m:Int):=⟨8+N,ω,ω⟩;obtain⟨aZ,Q⟩:=aZ;have bZ:(8:Int)<=(m:Int):=ω
 have b7:(m:Int)<=(q:Int):=ω
 have cA:IntKind.i64.wrap (m:Int)=(m:Int):=by simp[IntKind.wrap,IntKind.bits,IntKind.signed];omega
 have cQ:(N:Int)<=64-(n:Int)-8:=ω
 have cS:(1:Int)<=(q:Int):=ω
 have cT:(3:Int)<=(q:Int):=ω
 have cW:¬q=1:=ω
 have cZ:¬q=3:=ω
 have dH:¬q=8:=ω
 have dL:¬q=7:=ω
 go_enter func46,ntmps46
 go_wp2_with (first|(go_at_call 53;refine(SZ _ _).z ?_;rw[hd];rintro e b ⟨rfl,rfl⟩)|(go_at_call 88;refine(um _ _ ω ω).z ?_;rintro e j ⟨rfl,rfl⟩)|(go_at_call 86;refine(TR s _ HS.l).z ?_;rw[<-i.l];rintro e b ⟨rfl,aW⟩;have bG:=MF ((RB.new w _).I aW);clear aW)|(refine tk rfl 142 _ _ rfl c rfl rfl _ _ (.int .u8 0) (by rw[B];rfl) (by rw[B];kernel_rfl) ?_;intro T bC aY dN;have r:=MF bC;clear bC;have bH:=MF (bG.l.I aY);clear aY)|(go_at_call 87;refine(bw b.heap.size c J (n+7) 1 _ ω ω _ r.l (N:Int) HN.l).z ?_;rintro e j ⟨rfl,rfl⟩))
 have bQ:b.heap.size<j.heap.size:=ω
 have x:Hid (∀o,Fm (j.alloc o) b.heap.size c):=λo=>r.l.I (LO _ _) bQ
 have bR:(convert 22 9 (.slice (Mw b.heap.size (n+8)) N (q-8))).run prog j.drew=.ok (Mz P) j.drew:=by rw[U.l];exact r.l.drew.text 22 5 9 underlying22 underlying5 underlying9 (n+8) N (q-8) ω
 have bT:∀o,(convert 22 9 (.slice (Mw b.heap.size (n+8)) N (q-8))).run prog (j.alloc o).drew=.ok (Mz P) (j.alloc o).drew:=λo=>by rw[U.l];exact(x.l o).drew.text 22 5 9 underlying22 underlying5 underlying9 (n+8) N (q-8) ω
 refine(λHG:Wr ?G=>?main) ⟨?pf⟩
 case main =>
  go_region_law (first
   | (have _g:=g2;refine LW ρ 87 #[.slice (some ⟨b.heap.size,n+3,none⟩) 4 (q-3)] γ (bw b.heap.size c J (n+3) 4 _ ω ω _ (by first|exact r.l.drew|exact(x.l _).drew) M HM.l) ?_;rintro e w7 ⟨rfl,rfl⟩;refine⟨_,rfl,?_⟩)
   | (have _g:=g1;refine LW ρ 87 #[.slice (some ⟨b.heap.size,n+1,none⟩) 2 (q-1)] γ (bw b.heap.size c J (n+1) 2 _ ω ω _ (by first|exact r.l.drew|exact(x.l _).drew) L HL.l) ?_;rintro e w7 ⟨rfl,rfl⟩;refine⟨_,rfl,?_⟩;have g2:=True.intro)
   | (refine LW ρ 87 #[.slice (some ⟨b.heap.size,n,none⟩) 1 q] γ (bw b.heap.size c J n 1 _ ω ω _ (by first|exact r.l.drew|exact(x.l _).drew) K HK.l) ?_;rintro e w7 ⟨rfl,rfl⟩;refine⟨_,rfl,?_⟩;have g1:=True.intro))
  all_goals exact HG.l
 clear bR bT;have aQ:j.heap.size=b.heap.size+1:=ω
 have aR:=MF (λo=>(bH.l.alloc o).drew);have bI:=MF (λo=>(x.l o).drew);have bJ:=MF (λt=>vY j (b.heap.size+1) aQ (.int .i64 K) (.int .i64 L) (.int .i64 M) (Mz P) t)
 cases hok:NQ K L M P (n:Int)
 focus
  have O:Hid (R=none):=by
   show _=_;rw[V.l,AG];intro u;have h0:MM K L M P (n:Int)=ByteArray.empty:=by unfold MM;rw[hok];rfl
   have aU:=HS.l;rw[<-u,h0]at aU;exact absurd aU δ
  go_wp2_with (first|(go_at_call 89;refine(ko K L M P n _ aV).z ?_;rw[hok];rintro e p ⟨rfl,k⟩;have z:=MF ((aR.l _).I k);clear k)|(go_at_call 85;refine(rz _ S v _ (bE _ z.l.bel)).z ?_;rintro e w4 ⟨⟨E,rfl⟩,A⟩;have a:=z.l.I A;clear A;have C:=a.c0;have D:=a.c1;have F:=a.c2;have G:=a.c3;have f0:=a.f0;have f1:=a.f1;have f2:=a.f2;have f3:=a.f3;have aM:=MF a;clear a))
  refine AJ (v:=.tuple #[OE 0 0 0 ⟨#[]⟩,.iface 94 (.pointer (some E))]) (by simp[results,results46,go_sem,C,D,F,G]) rfl ⟨⟨E,by rw[O.l];rfl⟩,?_⟩
 rotate_left
 focus
  have aP:=AV (by unfold NQ at hok;exact hok);obtain⟨l,X⟩:∃l,Hid (l=LI (SL K L M P n)):=⟨_,MF rfl⟩;have bV:l.length=64:=by rw[X.l,NH];exact ZN K L M P n ω
  have O:Hid (R=if l=c then some (K,L,M,P) else none):=by
   show _=_;rw[V.l];have h0:MM K L M P (n:Int)=SL K L M P n:=by unfold MM;rw[hok,AE rfl,BM]
   rw[h0,X.l,i.l]
   by_cases u:SL K L M P n=s
   ·rw[AE u,AE (by rw[u])]
   rw[AG u,AG (λh=>u (by rw[<-TM (SL K L M P n),h,TM]))]
  obtain⟨iu,bU⟩:=FW.1 (show(prog.info? 5).isSome=true by kernel_rfl)
  have aD:=λT=>Ex (P:=prog) (t:=142) underlying142 bU κ (λ_=>κ) underlying5 l c bV B T
  obtain⟨bq,aO⟩:∃bq,Hid (bq=!decide (l=c)):=⟨_,MF rfl⟩;rw[<-aO.l]at aD;have dQ:=underlying142;have cP:(prog.info? 142).map (·.size)=some (c.map (Value.int .u8)).length:=by rw[BU,B];kernel_rfl
  clear aP
  go_wp2_with (first|(go_at_call 89;refine(ko K L M P n _ aV).z ?_;rw[hok];rintro e p ⟨rfl,k⟩))
  have bW:=k.size;simp only[BD,IZ]at bW;have z:=MF ((aR.l _).I k);have aT:=MF ((bI.l _).I k ξ);have aL:=MF ((bJ.l _).drew.I k ξ);clear k
  have W:Hid (∀d,Below p.heap.size p d->d.rangeAt b.heap.size 0 (c.map (Value.int .u8))/\d.cell? ⟨b.heap.size+1,0,none⟩=some (.int .i64 K)/\d.cell? ⟨b.heap.size+1,1,none⟩=some (.int .i64 L)/\d.cell? ⟨b.heap.size+1,2,none⟩=some (.int .i64 M)/\d.cell? ⟨b.heap.size+1,3,none⟩=some (Mz P)/\Below p.heap.size p d):=λd I=>by
   have f:=aL.l.I I ω;exact⟨(aT.l.I I ω).range,f.c0,f.c1,f.c2,f.c3,I⟩
  go_region_held3 (λd=>d.rangeAt b.heap.size 0 (c.map (Value.int .u8))/\d.cell? ⟨b.heap.size+1,0,none⟩=some (.int .i64 K)/\d.cell? ⟨b.heap.size+1,1,none⟩=some (.int .i64 L)/\d.cell? ⟨b.heap.size+1,2,none⟩=some (.int .i64 M)/\d.cell? ⟨b.heap.size+1,3,none⟩=some (Mz P)/\Below p.heap.size p d)
   (first|assumption|exact W.l _ ((AB _ _).drew)|exact W.l _ (((AB _ _).drew).j (aX.z (AA _))))
   (first|(go_at_call 90;refine(oG K L M P n _ hok).z ?_;rw[<-X.l];rintro e w6 ⟨rfl,aX⟩))
  rename_i H;have aC:=H.2.2.2.2.2;have a:=z.l.I aC;have f:=aL.l.I aC ω;have p0:=f.c0;have p1:=f.c1;have p2:=f.c2;have p3:=f.c3;clear H aC f W aT aL z aX
  cases bq
  focus
   have aN:Hid (R=some (K,L,M,P)):=by
    have Q:l=c:=by simpa using aO.l
    show _=_;rw[O.l,AE Q]
   clear aD;have C:=a.c0;have D:=a.c1;have F:=a.c2;have G:=a.c3;have f0:=a.f0;have f1:=a.f1;have f2:=a.f2;have f3:=a.f3;have aM:=MF a;clear a;go_wp2;refine AJ (v:=.tuple #[OE K L M P,.nilIface]) (by simp[results,results46,go_sem,C,D,F,G]) rfl ⟨⟨⟨0,0,none⟩,by rw[aN.l];rfl⟩,?_⟩
  rotate_left
  focus
   have aN:Hid (R=none):=by
    have Q:¬l=c:=by simpa using aO.l
    show _=_;rw[O.l,AG Q]
   clear aD;have aS:=MF a;clear a
   go_wp2_with (first|(go_at_call 85;refine(rz _ S v _ (bE _ aS.l.bel)).z ?_;rintro e w4 ⟨⟨E,rfl⟩,A⟩;have a:=aS.l.I A;clear A;have C:=a.c0;have D:=a.c1;have F:=a.c2;have G:=a.c3;have f0:=a.f0;have f1:=a.f1;have f2:=a.f2;have f3:=a.f3;have aM:=MF a;clear a))
   refine AJ (v:=.tuple #[OE 0 0 0 ⟨#[]⟩,.iface 94 (.pointer (some E))]) (by simp[results,results46,go_sem,C,D,F,G]) rfl ⟨⟨E,by rw[aN.l];rfl⟩,?_⟩
  rotate_left
 rotate_left 2
 all_goals
  exact(((aM.l.bel.setCell (AA _) _).setCell (AA _) _).setCell (AA _) _).setCell (AA _) _
