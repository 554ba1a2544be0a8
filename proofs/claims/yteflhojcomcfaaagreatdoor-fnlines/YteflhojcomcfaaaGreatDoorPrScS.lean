import Derived.Test.YteflhojcomcfaaaGreatDoorPrG33
set_option maxHeartbeats 32000000
namespace Go.Proofs.YteflhojcomcfaaaGreatDoor
open _root_.ByteArray(empty)
open Tryz
open Go.RowKit
set_option maxRecDepth 8000
set_option linter.all false
theorem qq(x:Int)(a:-9223372036854775808<=x)(b:x<=9223372036854775807):IntKind.i64.wrap x=x:=by
 simp[IntKind.wrap,IntKind.bits,IntKind.signed];omega
theorem Ma:(prog.info? 9).map (λi=>(i.zero,i.size,i.bytes))=some (some (Ow empty),1,16):=h
theorem Fy{P:Program}{e:TypeId}{z:Ra}{a b:Nat}(h:(P.info? e).map (λi=>(i.zero,i.size,i.bytes))=some (some z,a,b)):∃i,P.info? e=some i/\i.zero=some z/\i.size=a/\i.bytes=b:=by
 obtain⟨i,d,c⟩:=EC.1 h;simp only[EK]at c;exact⟨i,d,c⟩
theorem M1(w:Q9)(a:Array Ra)(t:TypeId):∀j u,a.toList[j]?=some u->(w.alloc (.cells a t)).cell? (((Ki w.heap.size 0):Addr).add j)=some u:=World.news_of_block (AV w (.cells a t))
theorem Gy(k:Q4):∀u∈[Ow k],u.oneCell'=true:=by
 intro u a;simp only[DZ,EY,IX]at a;subst a;rfl
theorem Qm(c:List Q4)(d:List (Int×Q4))(b a first e n:Int)(h:¬dg c d b a n):VW c d b a first e n=([],0,0):=by unfold VW;rw[A h]
theorem N5(a:Q5)(g:List Q4)(c:Nat)(l:Q5)(i:List (Int×Q4))(o:Nat)(b f first B n:Int)(w:Q9)(h:Strs w a g)(J:Wrs w l i)(K:g.length<=1048576)(E:i.length<=1048576)(L:∀s∈g,s.size<=1048576)(F:∀x∈i,x.2.size<=1048576)(m:¬dg g i b f n):Calls prog 161 #[LR a g.length c l i.length o,Z b,Z f,Z first,Z B,Z n] w λe k=>ji w k e ([],0,0):=by
 have t:∀k p,Q3 w ((w.alloc k).alloc p):=λk p=>((AB).alloc AA _).alloc j _
 have A:=LE (λ(x:Q9) (v:Q3 w x)=>ZX a g c l i o x (h.I v) (J.I v) K E L F)
 cases hok:LT g i
 focus
  have q:decide (1<=n/\n<=8)=decide (1<=n/\n<=8):=z
 rotate_left
 focus
  obtain⟨⟨R,S,T⟩,Q,C⟩:=QH hok
  by_cases r:1<=n/\n<=8
  focus
   have q:decide (1<=n/\n<=8)=true:=AM r
   by_cases V:b<0
   focus
    clear m
   rotate_left
   focus
    by_cases s0:f<0
    focus
     clear m
    rotate_left
    focus
     by_cases W:(g.length:Int)<b
     focus
      clear m
     rotate_left
     focus
      have X:IntKind.i64.wrap ((g.length:Int)-b)=(g.length:Int)-b:=qq _ d d
      by_cases s1:(g.length:Int)-b<f
      focus
       clear m
      rotate_left
      exact absurd ⟨hok,r,d,d,d,d⟩ m
     rotate_left
    rotate_left 2
   rotate_left 3
  rotate_left 4
  focus
   have q:decide (1<=n/\n<=8)=false:=AH r;clear m
  rotate_left
 rotate_left 5
 all_goals
  go_enter func161,ntmps161
  go_wp2_with (first|(go_at_call 111;refine(A.j _ (t _ _)).J ?_;rw[hok];rintro e w1 ⟨rfl,p⟩;have s:=((OY w #[Y a g.length c,Y l i.length o] 37 w.heap.size z).alloc (.cells #[Y none 0 0,Z 0,Z 0] 187)).I p;have k:=(OY (w.alloc (.cells #[Y a g.length c,Y l i.length o] 37)) #[Y none 0 0,Z 0,Z 0] 187 (w.heap.size+1) j).I p;have y:=LE ((t (.cells #[Y a g.length c,Y l i.length o] 37) (.cells #[Y none 0 0,Z 0,Z 0] 187)).E (p.J ξ));have D:=s.y 0;have H:=s.lt;have b0:=k.y 0;have G:=k.y 1;have I:=k.y 2;have N:=k.A 0;have O:=k.A 1;have P:=k.A 2;have U:=k.lt;clear p s k)|(go_at_call 43;refine(RZ _ _).J ?_;rw[q];rintro e M ⟨rfl,u⟩;rw[u];clear u M))
  refine AE (v:=.agg #[Y none 0 0,Z 0,Z 0]) (by simp[results,results161,go_sem,b0,G,I]) z ?_;exact⟨Y none 0 0,z,BU _ _ _ _,((y.j.setCell (by show w.heap.size<=w.heap.size+1;omega) _).setCell (by show w.heap.size<=w.heap.size+1;omega) _).setCell (by show w.heap.size<=w.heap.size+1;omega) _⟩
theorem Ks(a:Q5)(v:List Q4)(c:Nat)(I:Q5)(K:List (Int×Q4))(c':Nat)(P J first Q n:Int)(w:Q9)(h:Strs w a v)(h':Wrs w I K)(hl:v.length<=1048576)(eP:K.length<=1048576)(hs:∀s∈v,s.size<=1048576)(cO:∀o∈K,o.2.size<=1048576)(bE:dg v K P J n):Calls prog 161 #[LR a v.length c I K.length c',Z P,Z J,Z first,Z Q,Z n] w λe w'=>ji w w' e (VW v K P J first Q n):=by
 have cA:∀x D,Q3 w ((w.alloc x).alloc D):=λx D=>((AB).alloc AA _).alloc j _
 have bC:VW v K P J first Q n=OV (λk=>(LQ K v).getD k empty) P.toNat first n J.toNat 0 0 Q empty ([],0,Q):=by unfold VW;rw[AI bE]
 rw[bC];clear bC;obtain⟨dF,hn,f0,s0,f1,s1⟩:=bE;obtain⟨L,rfl⟩:∃k:Nat,P=(k:Int):=⟨P.toNat,d⟩;obtain⟨N,rfl⟩:∃k:Nat,J=(k:Int):=⟨J.toNat,d⟩;simp only[DO];have hd:decide (1<=n/\n<=8)=true:=AM hn;obtain⟨⟨fG,cY,cZ⟩,eH,hw⟩:=QH dF;obtain⟨i0,cW,dM,dN,dP⟩:=Fy Ma;have HI:=LE (AG cW (AG dM (AG dN dP)));clear cW dM dN dP;have g0:¬((L:Int)<0):=d
 have g1:¬((N:Int)<0):=d
 have g2:¬((v.length:Int)<(L:Int)):=d
 have g3:IntKind.i64.wrap ((v.length:Int)-(L:Int))=(v.length:Int)-(L:Int):=qq _ d d;have g4:¬((v.length:Int)-(L:Int)<(N:Int)):=d
 obtain⟨U,aF⟩:∃U:Nat->Q4,U=λk=>(LQ K v).getD k empty:=⟨_,z⟩
 have dZ:Hid (∀k,(U k).size<=1048576):=λk=>by rw[aF];exact lP K v hs cO k
 rw[<-aF]
 obtain⟨G,aX⟩:=nHz (OV U L first n N 0 0 Q empty ([],0,Q))
 rw[<-aX.j];go_enter func161,ntmps161;go_wp2_with fail;refine(ZX a v c I K c' _ (h.I (cA _ _)) (h'.I (cA _ _)) hl eP hs cO).J ?_;rw[dF];rintro e w1 ⟨rfl,bH⟩;have r6:=(OY w #[Y a v.length c,Y I K.length c'] 37 w.heap.size z).alloc (.cells #[Y none 0 0,Z 0,Z 0] 187);have X:=OY (w.alloc (.cells #[Y a v.length c,Y I K.length c'] 37)) #[Y none 0 0,Z 0,Z 0] 187 (w.heap.size+1) j;have r6:=r6.I bH;have X:=X.I bH;have aW:=(cA (.cells #[Y a v.length c,Y I K.length c'] 37) (.cells #[Y none 0 0,Z 0,Z 0] 187)).E (bH.J ξ);have q0:=r6.y 0;have q1:=r6.y 1;have fW:=X.lt;clear bH
 go_wp2_with (first|(go_at_call 43;refine(RZ _ _).J ?_;rw[hd];rintro e wz ⟨rfl,dL⟩;rw[dL];clear dL wz))
 refine(TW a v c I K c' _ (h.I aW) (h'.I aW) cY cZ).J ?_;rintro e w2 ⟨g,c1,g',eB,rfl,bQ,hg,eJ,bI⟩;have aS:v.length≠0:=d
 have eZ:w1.heap.size<=g:=hg g (by unfold blk;rw[AF aS];rfl)
 have dH:Row w2 g (v.map Value.string):=by
  rcases bQ.s with e|⟨b,e,hr⟩
  .exact absurd (BD List.length e) (by rw[BP,AU];omega)
  cases e;exact hr
 have dB:MZ K≠[]->g'≠g:=λhc=>by
  have hl:K.length≠0:=λe=>hc (by rw[AD e];rfl)
  rcases bQ.ne with e|e|e
  .unfold blk at e;rw[AF aS]at e;exact absurd e j
  .unfold blk at e;rw[AF hl]at e;exact absurd e j
  unfold blk at e;rw[AF aS,AF hl]at e;exactλe2=>e (by rw[e2])
 have HY:=LE (WL g g' v c1 K eB w2 dH bQ.p dB cY cZ (λo hx=>by have:=AW (hw o hx);omega));have bU:=aW.E (bI.J aW.size);have X:=X.I bI;have fV:=bI.size;clear q0 q1 bQ hg eJ bI dH dB r6;go_wp2_with fail;refine HY.j.J ?_;rintro e B ⟨o,rfl,fS,fT,bR,cE⟩;have bV:=bU.E (MU cE bU.size (λk hk=>by cases hk;have:=aW.size;omega));have X:=X.V cE (λe=>by injection e with e;omega);have eK:g<B.heap.size:=bR.lt;have cN:((LQ K v).map Value.string).length=v.length:=by rw[BP,MC]
 have cQ:Hid (∀k,k<v.length->((LQ K v).map Value.string)[k]?=some (Ow (U k))):=λk hk=>by
  rw[aF];simp[List.getD,MC,hk]
 obtain⟨SV,aZ⟩:=nMz ((LQ K v).map Value.string);rw[<-aZ]at bR cN cQ;clear aZ HY aF cE h h' hs cO eH hw
 have D0:ScB w (((B.alloc (.cells #[Y (Hw g 0) v.length c1,Y (Hw o 0) 0 0] 37)).alloc (.cells #[Y none 0 0,Z 0,Z Q] 187)).alloc (.cells #[Z 0,Z Q,Z 0,Ow ⟨#[]⟩] 156)) (w.heap.size+1) g B.heap.size (B.heap.size+1) (B.heap.size+1+1) SV c1 (Y (Hw o 0) 0 0) (Y none 0 0) [] 0 Q 0 Q 0 ⟨#[]⟩:=by
  refine⟨((X.alloc _).alloc _).alloc _,((bR.alloc _).alloc _).alloc _,?_,?_,?_,BU _ _ _ _,d,d,d,d,d,λk hk=>(by cases hk),?_⟩
  .rw[cN]
   exact((LZ _ _ _).alloc _).alloc _
  .exact(OY _ _ _ _ j).alloc _
  .exact OY _ _ _ _ j
  have b1:=bV.alloc bV.size (.cells #[Y (Hw g 0) v.length c1,Y (Hw o 0) 0 0] 37)
  have b2:=b1.alloc b1.size (.cells #[Y none 0 0,Z 0,Z Q] 187);exact b2.alloc b2.size _
 clear X bR bV bU aW;go_wp2
 go_loopw [16,17] (λov iv wr=>∃(i:Nat) (M:Q4) (wk wl wm:Int) (wp:Q4) (t:Scd) (r:Ra) (W:Q9),W=wr/\ov=Ow M/\iv=Z (i:Int)/\i<=N/\M.size<=64*i/\t.1.length<=i/\Hid (OV U L first n (N-i) i wk wl M t=G)/\ScB w W (w.heap.size+1) g B.heap.size (B.heap.size+1) (B.heap.size+1+1) SV c1 (Y (Hw o 0) 0 0) r t.1 t.2.1 t.2.2 wk wl wm wp) (λ_ iv _=>((N:Int)-intOf iv).toNat)
 case atStart =>
  exact⟨0,⟨#[]⟩,0,Q,0,⟨#[]⟩,([],0,Q),_,_,z,z,z,AL,δ,AA,by show _=_;rw[aX.j];rfl,D0⟩
 case round =>
  obtain⟨i,M,wk,wl,wm,wp,t,y,wr,rfl,rfl,rfl,fA,fJ,fI,A,f⟩:=hrel;clear D0
  obtain⟨ya,yc,rfl⟩:∃ya yc,y=Y ya t.1.length yc:=by
   rcases MS f.own with ⟨h1,h2⟩|⟨gg,V,h1,_⟩
   .exact⟨none,0,by rw[h1,h2]⟩
   exact⟨_,V,h1⟩
  by_cases fE:i<N
  focus
   have cJ:(i:Int)<(N:Int):=d
   have eI:IntKind.i64.wrap ((L:Int)+(i:Int))=((L+i:Nat):Int):=by rw[qq _ d d];omega
   have eL:L+i<v.length:=d
   have eM:((L+i:Nat):Int)<(v.length:Int):=d
   have eE:=f.xb.y 0;rw[cN]at eE;have cs:=f.sec.cell (L+i) _ (cQ.j (L+i) eL);have lx:=f.xb.lt;have ls:=f.sec.lt;have fQ:IntKind.i64.wrap ((i:Int)+1)=(i:Int)+1:=qq _ d d;have C:=LE (λwx=>mR (U (L+i)) n wx (dZ.j _))
   cases hR:OA (U (L+i)) n
   focus
    rw[hR]at C;simp only[WJ]at C;have HF:Hid (G=t):=by show _=_;rw[<-A.j];exact wR hR
    go_wp2_with fail;refine(C.j _).J ?_;rintro e O ⟨rfl,aQ⟩;have T:=f.I aQ;have E:=T.I (MI O (.cells #[Z 0,Z 0,Z 0,Ow ⟨#[]⟩] 156));obtain⟨o0,x,D⟩:=E.ot.k3;obtain⟨b0,b1,b2⟩:=E.rb.k3;obtain⟨bW,bY,bZ⟩:=E.rb.z3;have ol:=E.ot.lt;have bl:=E.rb.lt;have q:=LE E;have aT:¬(w.heap.size+1=B.heap.size+1):=by have:=E.o2;have:=E.o3;omega
    go_wp2
   rotate_left
   focus
    rename_i xr;obtain⟨k,l,m,p⟩:=xr;obtain⟨_,_,m0,m1,l0,l1,fO⟩:=XL hR;rw[hR]at C;simp only[WJ]at C;have cL:IntKind.i64.wrap (m-(i:Int))=m-(i:Int):=qq _ d d;have bG:=LE (λwx=>Mp wk wl wm wp k l m p wx)
    by_cases aG:m-(i:Int)=first
    focus
     cases hgo:RW wk wl k l
     focus
      rw[hgo]at bG;have HF:Hid (G=t):=by show _=_;rw[<-A.j];exact ze hR (by rw[hgo];simp)
      go_wp2_with fail;refine(C.j _).J ?_;rintro e O ⟨rfl,aQ⟩;have T:=f.I aQ;have E:=T.I (MI O (.cells #[Z k,Z l,Z m,Ow p] 156));have S:=OY O #[Z k,Z l,Z m,Ow p] 156 O.heap.size z;obtain⟨x0,x1,x2,x3⟩:=S.k4;have xl:=S.lt;obtain⟨v0,v1,v2,v3⟩:=E.ws.k4;have vl:=E.ws.lt
      go_wp2_with (first|(go_at_call 232;refine(bG.j _).J ?_;rintro e w7 ⟨rfl,aR⟩;have F:=E.I aR;have u:=S.I aR;clear aR x0 x1 x2 x3 xl v0 v1 v2 v3 vl E S;have o0:=F.ot.y 0;have b0:=F.rb.y 0;have bW:=F.rb.A 0;have x:=F.ot.y 1;have b1:=F.rb.y 1;have bY:=F.rb.A 1;have D:=F.ot.y 2;have b2:=F.rb.y 2;have bZ:=F.rb.A 2;have ol:=F.ot.lt;have bl:=F.rb.lt;have q:=LE F;have aT:¬(w.heap.size+1=B.heap.size+1):=(by have:=F.o2;have:=F.o3;omega);clear F))
     rotate_left
     focus
      rw[hgo]at bG;go_wp2_with fail;refine(C.j _).J ?_;rintro e O ⟨rfl,aQ⟩;have T:=f.I aQ;have E:=T.I (MI O (.cells #[Z k,Z l,Z m,Ow p] 156));have S:=OY O #[Z k,Z l,Z m,Ow p] 156 O.heap.size z;obtain⟨x0,x1,x2,x3⟩:=S.k4;have xl:=S.lt;obtain⟨v0,v1,v2,v3⟩:=E.ws.k4;have vl:=E.ws.lt
      go_upto_region 14 with (first|(go_at_call 232;refine(bG.j _).J ?_;rintro e w7 ⟨rfl,aR⟩;have F:=E.I aR;have u:=S.I aR;clear aR x0 x1 x2 x3 xl v0 v1 v2 v3 vl E S;have bP:¬(B.heap.size+1+1=O.heap.size):=(by have:=T.ws.lt;omega);have p0:=u.y 0;have p1:=u.y 1;have p2:=u.y 2;have p3:=u.y 3;have pl:=u.lt;have s0:=F.ws.y 0;have s1:=F.ws.y 1;have s2:=F.ws.y 2;have s3:=F.ws.y 3;have eU:=F.ws.A 0;have eV:=F.ws.A 1;have eX:=F.ws.A 2;have eY:=F.ws.A 3;have sl:=F.ws.lt))
      have R:=F.setWas k l m p;have aU:=(((u.other (Ki (B.heap.size+1+1) 0) bP (Z k)).other (Ki (B.heap.size+1+1) 1) bP (Z l)).other (Ki (B.heap.size+1+1) 2) bP (Z m)).other (Ki (B.heap.size+1+1) 3) bP (Ow p);obtain⟨w8,bB⟩:=nMz ((((w7.setCell (Ki (B.heap.size+1+1) 0) (Z k)).setCell (Ki (B.heap.size+1+1) 1) (Z l)).setCell (Ki (B.heap.size+1+1) 2) (Z m)).setCell (Ki (B.heap.size+1+1) 3) (Ow p));rw[<-bB]at R aU⊢;clear bB F u p0 p1 p2 p3 pl s0 s1 s2 s3 eU eV eX eY sl;have p0:=aU.y 0;have p1:=aU.y 1;have p3:=aU.y 3;have pl:=aU.lt;have z1:¬(9223372036854775807<M.size+p.size):=d
      by_cases cF:k=1
      .subst cF
       have aY:Hid (OV U L first n (N-(i+1)) (i+1) 1 l (M++p) t=G):=by
        show _=_;rw[<-A.j];have e1:N-i=(N-(i+1))+1:=d
        rw[e1];exact(uI hR (by rw[cL];exact aG) hgo).symm
       go_wp2;exact⟨⟨i+1,M++p,1,l,m,p,t,_,_,z,z,j,d,(by rw[AP];omega),d,aY.j,R⟩,by simp[intOf];omega⟩
      have fC:(k == 1)=false:=by simp[cF]
      have cV:=LE (λe1=>qQ (first:=first) (f:=N-(i+1)) (op:=M) (out:=t) hR (by rw[cL];exact aG) hgo e1);have e1:N-i=(N-(i+1))+1:=d
      have x:=R.ot.y 1;have D:=R.ot.y 2;have dQ:=R.ot.A 1;have dR:=R.ot.A 2;have ol:=R.ot.lt;have eQ:¬(B.heap.size+1=O.heap.size):=by have:=T.ot.lt;omega
      have eR:¬(O.heap.size=B.heap.size+1):=by have:=T.ot.lt;omega
      by_cases cH:k=2
      .subst cH
       have aY:Hid (OV U L first n (N-(i+1)) (i+1) 2 l empty (t.1++[M++p],(i:Int)+1,l)=G):=by
        show _=_;rw[<-A.j,e1];exact(cV.j d).symm
       have o0:=R.ot.y 0;have eT:=R.ot.A 0;have D9:=R.I (MI w8 (.cells #[Ow (M++p)] 9));have dU:=aU.alloc (.cells #[Ow (M++p)] 9);have cS:=LE D9.own;have fU:=R.be.size;have fF:(t.1.map Value.string).length=t.1.length:=BP _;have aV:=LE D9;have cT:=LE dU;clear D9 dU
       go_upto_region 18 with (first|(at_builtin;refine SX _ z _ _ 29 z w.heap.size underlying29 HI.j z d _ t.1.length _ z cS.j (Ki w8.heap.size 0) 1 1 [Ow (M++p)] z z (M1 _ _ _) (Gy _) τ (w8.heap.size+1) j ?_;intro gn V dV aC aA aN cX;have aD:dV.ownsRow w.heap.size 9 1 (Y (Hw gn 0) (t.1.length+1) V) (t.1++[M++p]).length ((t.1++[M++p]).map Value.string):=(by rw[AK,DC];exact aC);have cP:=LE (aV.j.push (ents':=t.1++[M++p]) aD aA (aN.elim (λe=>.inl e) (λe=>.inr (BD some e))) j);have c10:=aV.j.own_ne (k:=B.heap.size+1) d;have eF:=λi=>(DT (a:=(Ki (B.heap.size+1) i)) (aA.block (B.heap.size+1) τ (λe=>c10 e.symm)));have bF:=LE (cT.j.V aA (λe=>by have:=(T.own.lt _ e.symm).2;omega));have bJ:=aV.j.ot.V aA (λe=>c10 e.symm);have eG:=bJ.y 0;have cC:=bJ.A 0;have cI:=bJ.lt;clear aC aA aN aD))
       have H:=cP.j;have aH:=bF.j.other (Ki (B.heap.size+1) 0) eQ (Y (Hw gn 0) (t.1.length+1) V);obtain⟨fX,aM⟩:=nMz (dV.setCell (Ki (B.heap.size+1) 0) (Y (Hw gn 0) (t.1.length+1) V));rw[<-aM]at H aH⊢;clear aM cP bF aV cT cS eG cC cI bJ eF c10 o0 eT x D dQ dR ol p0 p1 p3 pl R aU;have x:=H.ot.y 1;have D:=H.ot.y 2;have dQ:=H.ot.A 1;have dR:=H.ot.A 2;have ol:=H.ot.lt;have p1:=aH.y 1;have pl:=aH.lt;have bT:=LE (H.setEnd ((i:Int)+1) l);clear H aH;go_wp2;exact⟨⟨i+1,⟨#[]⟩,2,l,m,p,(t.1++[M++p],(i:Int)+1,l),_,_,z,z,j,d,by show 0<=_;omega,by show(t.1++[M++p]).length<=_;simp;omega,aY.j,bT.j⟩,by simp[intOf];omega⟩
      have eO:(k == 2)=false:=by simp[cH]
      have aY:Hid (OV U L first n (N-(i+1)) (i+1) k l empty (t.1,(i:Int)+1,l)=G):=by
       show _=_;rw[<-A.j,e1];have:=(cV.j cF).symm;rw[AF cH]at this;exact this
      have D9:=R.setEnd ((i:Int)+1) l;have aV:=LE D9;clear D9;go_wp2;exact⟨⟨i+1,⟨#[]⟩,k,l,m,p,(t.1,(i:Int)+1,l),_,_,z,z,j,d,by show 0<=_;omega,by show t.1.length<=_;omega,aY.j,aV.j⟩,by simp[intOf];omega⟩
    rotate_left
    focus
     have HF:Hid (G=t):=by show _=_;rw[<-A.j];exact ze hR (by rw[cL];exactλh=>aG h.1)
     have fH:(m-(i:Int) == first)=false:=by simp[aG]
     go_wp2_with fail;refine(C.j _).J ?_;rintro e O ⟨rfl,aQ⟩;have T:=f.I aQ;have E:=T.I (MI O (.cells #[Z k,Z l,Z m,Ow p] 156));have S:=OY O #[Z k,Z l,Z m,Ow p] 156 O.heap.size z;have x2:=S.y 2;have xl:=S.lt;obtain⟨o0,x,D⟩:=E.ot.k3;obtain⟨b0,b1,b2⟩:=E.rb.k3;obtain⟨bW,bY,bZ⟩:=E.rb.z3;have ol:=E.ot.lt;have bl:=E.rb.lt;have q:=LE E;have aT:¬(w.heap.size+1=B.heap.size+1):=by have:=E.o2;have:=E.o3;omega
     go_wp2
    rotate_left
   rotate_left 2
  rotate_left 3
  focus
   have HF:Hid (G=t):=by
    show _=_;rw[<-A.j];have:N-i=0:=d
    rw[this];rfl
   have cJ:¬((i:Int)<(N:Int)):=d
   obtain⟨o0,x,D⟩:=f.ot.k3;obtain⟨b0,b1,b2⟩:=f.rb.k3;obtain⟨bW,bY,bZ⟩:=f.rb.z3;have ol:=f.ot.lt;have bl:=f.rb.lt;have q:=LE f;have aT:¬(w.heap.size+1=B.heap.size+1):=by have:=f.o2;have:=f.o3;omega
   go_wp2
  rotate_left
  all_goals
   refine AE (v:=.agg #[Y ya t.1.length yc,Z t.2.1,Z t.2.2]) (by simp[results,results161,go_sem,b0,b1,b2]) z ?_;rw[HF.j];have cM:=q.j.own_ne (k:=w.heap.size+1) (by have:=q.j.o2;have:=q.j.o3;omega);exact⟨_,z,BT (BT (BT q.j.own cM _) cM _) cM _,((q.j.be.setCell (by show w.heap.size<=w.heap.size+1;omega) _).setCell (by show w.heap.size<=w.heap.size+1;omega) _).setCell (by show w.heap.size<=w.heap.size+1;omega) _⟩
theorem Qo(a:Q5)(f:List Q4)(c:Nat)(j:Q5)(g:List (Int×Q4))(k:Nat)(d b first i n:Int)(w:Q9)(h:Strs w a f)(o:Wrs w j g)(p:f.length<=1048576)(l:g.length<=1048576)(q:∀s∈f,s.size<=1048576)(m:∀x∈g,x.2.size<=1048576):Calls prog 161 #[LR a f.length c j g.length k,Z d,Z b,Z first,Z i,Z n] w λe r=>ji w r e (VW f g d b first i n):=by
 by_cases e:dg f g d b n
 .exact Ks a f c j g k d b first i n w h o p l q m e
 rw[Qm f g d b first i n e]
 exact N5 a f c j g k d b first i n w h o p l q m e
