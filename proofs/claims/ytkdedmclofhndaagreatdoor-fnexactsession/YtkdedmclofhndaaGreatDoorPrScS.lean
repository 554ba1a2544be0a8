import Derived.Test.YtkdedmclofhndaaGreatDoorPrG41
set_option maxHeartbeats 32000000
namespace Go.Proofs.YtkdedmclofhndaaGreatDoor
open _root_.ByteArray(empty)
open Tryz
open Go.RowKit
set_option maxRecDepth 8000
set_option linter.all false
theorem jp(x:Int)(a:-9223372036854775808<=x)(b:x<=9223372036854775807):IntKind.i64.wrap x=x:=by
 simp[IntKind.wrap,IntKind.bits,IntKind.signed];omega
theorem J9:(prog.info? 9).map (λi=>(i.zero,i.size,i.bytes))=some (some (yQ empty),1,16):=κ
theorem Dn{P:Program}{e:TypeId}{z:qD}{a b:Nat}(h:(P.info? e).map (λi=>(i.zero,i.size,i.bytes))=some (some z,a,b)):∃i,P.info? e=some i/\i.zero=some z/\i.size=a/\i.bytes=b:=by
 obtain⟨i,d,c⟩:=DZ.1 h;simp only[EJ]at c;exact⟨i,d,c⟩
theorem K6(w:xV)(a:Array qD)(t:TypeId):∀j u,a.toList[j]?=some u->(w.alloc (.cells a t)).cell? (((yA w.heap.size 0):Addr).add j)=some u:=World.news_of_block (AU w (.cells a t))
theorem Et(k:yZ):∀u∈[yQ k],u.oneCell'=true:=by
 intro u a;simp only[DX,EW,IX]at a;subst a;rfl
theorem Oe(c:List yZ)(d:List (Int×yZ))(b a first e n:Int)(h:¬XR c d b a n):TG c d b a first e n=([],0,0):=by unfold TG;rw[AF h]
theorem L7(a:xA)(f:List yZ)(c:Nat)(j:xA)(g:List (Int×yZ))(l:Nat)(b d first y n:Int)(w:xV)(h:Strs w a f)(D:Wrs w j g)(E:f.length<=1048576)(z:g.length<=1048576)(F:∀s∈f,s.size<=1048576)(A:∀x∈g,x.2.size<=1048576)(k:¬XR f g b d n):Calls prog 124 #[LM a f.length c j g.length l,Z b,Z d,Z first,Z y,Z n] w λe i=>aw w i e ([],0,0):=by
 have r:∀i m,yX w ((w.alloc i).alloc m):=λi m=>((AB _ _).alloc (AA _) _).alloc σ _
 have x:=Y (λ(u:xV) (t:yX w u)=>WH a f c j g l u (h.I t) (D.I t) E z F A)
 cases hok:LO f g
 focus
  have o:decide (1<=n/\n<=8)=decide (1<=n/\n<=8):=rfl
 rotate_left
 focus
  obtain⟨⟨L,M,N⟩,K,S⟩:=OV hok
  by_cases p:1<=n/\n<=8
  focus
   have o:decide (1<=n/\n<=8)=true:=AM p
   by_cases P:b<0
   focus
    clear k
   rotate_left
   focus
    by_cases V:d<0
    focus
     clear k
    rotate_left
    focus
     by_cases Q:(f.length:Int)<b
     focus
      clear k
     rotate_left
     focus
      have R:IntKind.i64.wrap ((f.length:Int)-b)=(f.length:Int)-b:=jp _ ω ω
      by_cases W:(f.length:Int)-b<d
      focus
       clear k
      rotate_left
      exact absurd ⟨hok,p,ω,ω,ω,ω⟩ k
     rotate_left
    rotate_left 2
   rotate_left 3
  rotate_left 4
  focus
   have o:decide (1<=n/\n<=8)=false:=AH p;clear k
  rotate_left
 rotate_left 5
 all_goals
  go_enter func124,ntmps124
  go_wp2_with (first|(go_at_call 87;refine(x.j _ (r _ _)).J ?_;rw[hok];rintro e X ⟨rfl,m⟩;have q:=((NZ w #[yI a f.length c,yI j g.length l] 32 w.heap.size rfl).alloc (.cells #[yI none 0 0,Z 0,Z 0] 174)).I m;have i:=(NZ (w.alloc (.cells #[yI a f.length c,yI j g.length l] 32)) #[yI none 0 0,Z 0,Z 0] 174 (w.heap.size+1) σ).I m;have v:=Y ((r (.cells #[yI a f.length c,yI j g.length l] 32) (.cells #[yI none 0 0,Z 0,Z 0] 174)).E (m.J ξ));have T:=q.y 0;have U:=q.lt;have b0:=i.y 0;have B:=i.y 1;have C:=i.y 2;have H:=i.A 0;have I:=i.A 1;have J:=i.A 2;have O:=i.lt;clear m q i)|(go_at_call 24;refine(QH _ _).J ?_;rw[o];rintro e G ⟨rfl,s⟩;rw[s];clear s G))
  refine AE (v:=.agg #[yI none 0 0,Z 0,Z 0]) (by simp[results,results124,go_sem,b0,B,C]) rfl ?_;exact⟨yI none 0 0,rfl,BT _ _ _ _,((v.j.setCell (by show w.heap.size<=w.heap.size+1;omega) _).setCell (by show w.heap.size<=w.heap.size+1;omega) _).setCell (by show w.heap.size<=w.heap.size+1;omega) _⟩
theorem Ix(a:xA)(j:List yZ)(c:Nat)(T:xA)(u:List (Int×yZ))(c':Nat)(C t first E n:Int)(w:xV)(h:Strs w a j)(h':Wrs w T u)(hl:j.length<=1048576)(eP:u.length<=1048576)(hs:∀s∈j,s.size<=1048576)(cO:∀x∈u,x.2.size<=1048576)(bE:XR j u C t n):Calls prog 124 #[LM a j.length c T u.length c',Z C,Z t,Z first,Z E,Z n] w λe w'=>aw w w' e (TG j u C t first E n):=by
 have cA:∀M O,yX w ((w.alloc M).alloc O):=λM O=>((AB _ _).alloc (AA _) _).alloc σ _
 have bC:TG j u C t first E n=NW (λk=>(Oz u j).getD k empty) C.toNat first n t.toNat 0 0 E empty ([],0,E):=by unfold TG;rw[AI bE]
 rw[bC];clear bC;obtain⟨dF,hn,f0,s0,f1,s1⟩:=bE;obtain⟨v,rfl⟩:∃k:Nat,C=(k:Int):=⟨C.toNat,ω⟩;obtain⟨N,rfl⟩:∃k:Nat,t=(k:Int):=⟨t.toNat,ω⟩;simp only[DS];have hd:decide (1<=n/\n<=8)=true:=AM hn;obtain⟨⟨fG,cY,cZ⟩,eH,hw⟩:=OV dF;obtain⟨i0,cW,dM,dN,dP⟩:=Dn J9;have HI:=Y (AG cW (AG dM (AG dN dP)));clear cW dM dN dP;have g0:¬((v:Int)<0):=ω
 have g1:¬((N:Int)<0):=ω
 have g2:¬((j.length:Int)<(v:Int)):=ω
 have g3:IntKind.i64.wrap ((j.length:Int)-(v:Int))=(j.length:Int)-(v:Int):=jp _ ω ω;have g4:¬((j.length:Int)-(v:Int)<(N:Int)):=ω
 obtain⟨I,aF⟩:∃I:Nat->yZ,I=λk=>(Oz u j).getD k empty:=⟨_,rfl⟩
 have dZ:Hid (∀k,(I k).size<=1048576):=λk=>by rw[aF];exact uh u j hs cO k
 rw[<-aF]
 obtain⟨K,aX⟩:∃K,Hid (K=NW I v first n N 0 0 E empty ([],0,E)):=⟨_,Y rfl⟩
 rw[<-aX.j];go_enter func124,ntmps124;go_wp2_with fail;refine(WH a j c T u c' _ (h.I (cA _ _)) (h'.I (cA _ _)) hl eP hs cO).J ?_;rw[dF];rintro e w1 ⟨rfl,bH⟩;have r6:=(NZ w #[yI a j.length c,yI T u.length c'] 32 w.heap.size rfl).alloc (.cells #[yI none 0 0,Z 0,Z 0] 174);have L:=NZ (w.alloc (.cells #[yI a j.length c,yI T u.length c'] 32)) #[yI none 0 0,Z 0,Z 0] 174 (w.heap.size+1) σ;have r6:=r6.I bH;have L:=L.I bH;have aW:=(cA (.cells #[yI a j.length c,yI T u.length c'] 32) (.cells #[yI none 0 0,Z 0,Z 0] 174)).E (bH.J ξ);have q0:=r6.y 0;have q1:=r6.y 1;have fW:=L.lt;clear bH
 go_wp2_with (first|(go_at_call 24;refine(QH _ _).J ?_;rw[hd];rintro e wz ⟨rfl,dL⟩;rw[dL];clear dL wz))
 refine(So a j c T u c' _ (h.I aW) (h'.I aW) cY cZ).J ?_;rintro e w2 ⟨g,c1,g',eB,rfl,bQ,hg,eJ,bI⟩;have aS:j.length≠0:=ω
 have eZ:w1.heap.size<=g:=hg g (by unfold blk;rw[AF aS];rfl)
 have dH:Row w2 g (j.map Value.string):=by
  rcases bQ.s with e|⟨b,e,hr⟩
  ·exact absurd (BC List.length e) (by rw[BO,AT];omega)
  cases e;exact hr
 have dB:MH u≠[]->g'≠g:=λhc=>by
  have hl:u.length≠0:=λe=>hc (by rw[AD e];rfl)
  rcases bQ.ne with e|e|e
  ·unfold blk at e;rw[AF aS]at e;exact absurd e σ
  ·unfold blk at e;rw[AF hl]at e;exact absurd e σ
  unfold blk at e;rw[AF aS,AF hl]at e;exactλe2=>e (by rw[e2])
 have HY:=Y (Tp g g' j c1 u eB w2 dH bQ.p dB cY cZ (λx hx=>by have:=AW (hw x hx);omega));have bU:=aW.E (bI.J aW.size);have L:=L.I bI;have fV:=bI.size;clear q0 q1 bQ hg eJ bI dH dB r6;go_wp2_with fail;refine HY.j.J ?_;rintro e o ⟨x,rfl,fS,fT,bR,cE⟩;have bV:=bU.E (MF cE bU.size (λk hk=>by cases hk;have:=aW.size;omega));have L:=L.V cE (λe=>by injection e with e;omega);have eK:g<o.heap.size:=bR.lt;have cN:((Oz u j).map Value.string).length=j.length:=by rw[BO,Pa]
 have cQ:Hid (∀k,k<j.length->((Oz u j).map Value.string)[k]?=some (yQ (I k))):=λk hk=>by
  rw[aF];simp[List.getD,Pa,hk]
 obtain⟨SV,aZ⟩:∃SV,SV=(Oz u j).map Value.string:=⟨_,rfl⟩;rw[<-aZ]at bR cN cQ;clear aZ HY aF cE h h' hs cO eH hw
 have D0:ScB w (((o.alloc (.cells #[yI (zY g 0) j.length c1,yI (zY x 0) 0 0] 32)).alloc (.cells #[yI none 0 0,Z 0,Z E] 174)).alloc (.cells #[Z 0,Z E,Z 0,yQ ⟨#[]⟩] 127)) (w.heap.size+1) g o.heap.size (o.heap.size+1) (o.heap.size+1+1) SV c1 (yI (zY x 0) 0 0) (yI none 0 0) [] 0 E 0 E 0 ⟨#[]⟩:=by
  refine⟨((L.alloc _).alloc _).alloc _,((bR.alloc _).alloc _).alloc _,?_,?_,?_,BT _ _ _ _,ω,ω,ω,ω,ω,λk hk=>(by cases hk),?_⟩
  ·rw[cN]
   exact((LS _ _ _).alloc _).alloc _
  ·exact(NZ _ _ _ _ σ).alloc _
  ·exact NZ _ _ _ _ σ
  have b1:=bV.alloc bV.size (.cells #[yI (zY g 0) j.length c1,yI (zY x 0) 0 0] 32)
  have b2:=b1.alloc b1.size (.cells #[yI none 0 0,Z 0,Z E] 174);exact b2.alloc b2.size _
 clear L bR bV bU aW;go_wp2
 go_loopw [16,17] (λov iv wr=>∃(i:Nat) (A:yZ) (wk wl wm:Int) (wp:yZ) (f:Scd) (d:qD) (W:xV),W=wr/\ov=yQ A/\iv=Z (i:Int)/\i<=N/\A.size<=64*i/\f.1.length<=i/\Hid (NW I v first n (N-i) i wk wl A f=K)/\ScB w W (w.heap.size+1) g o.heap.size (o.heap.size+1) (o.heap.size+1+1) SV c1 (yI (zY x 0) 0 0) d f.1 f.2.1 f.2.2 wk wl wm wp) (λ_ iv _=>((N:Int)-intOf iv).toNat)
 case atStart =>
  exact⟨0,⟨#[]⟩,0,E,0,⟨#[]⟩,([],0,E),_,_,rfl,rfl,rfl,AL _,δ,AA _,by show _=_;rw[aX.j];rfl,D0⟩
 case round =>
  obtain⟨i,A,wk,wl,wm,wp,f,y,wr,rfl,rfl,rfl,fA,fJ,fI,U,D⟩:=hrel;clear D0
  obtain⟨ya,yc,rfl⟩:∃ya yc,y=yI ya f.1.length yc:=by
   rcases MC D.own with ⟨h1,h2⟩|⟨gg,J,h1,_⟩
   ·exact⟨none,0,by rw[h1,h2]⟩
   exact⟨_,J,h1⟩
  by_cases fE:i<N
  focus
   have cJ:(i:Int)<(N:Int):=ω
   have eI:IntKind.i64.wrap ((v:Int)+(i:Int))=((v+i:Nat):Int):=by rw[jp _ ω ω];omega
   have eL:v+i<j.length:=ω
   have eM:((v+i:Nat):Int)<(j.length:Int):=ω
   have eE:=D.xb.y 0;rw[cN]at eE;have cs:=D.sec.cell (v+i) _ (cQ.j (v+i) eL);have lx:=D.xb.lt;have ls:=D.sec.lt;have fQ:IntKind.i64.wrap ((i:Int)+1)=(i:Int)+1:=jp _ ω ω;have R:=Y (λwx=>ux (I (v+i)) n wx (dZ.j _))
   cases hR:NB (I (v+i)) n
   focus
    rw[hR]at R;simp only[TS]at R;have HF:Hid (K=f):=by show _=_;rw[<-U.j];exact tM hR
    go_wp2_with fail;refine(R.j _).J ?_;rintro e B ⟨rfl,V⟩;have H:=D.I V;have q:=H.I (Oq B (.cells #[Z 0,Z 0,Z 0,yQ ⟨#[]⟩] 127));obtain⟨o0,M,O⟩:=q.ot.k3;obtain⟨b0,b1,b2⟩:=q.rb.k3;obtain⟨bW,bY,bZ⟩:=q.rb.z3;have ol:=q.ot.lt;have bl:=q.rb.lt;have Q:=Y q;have aT:¬(w.heap.size+1=o.heap.size+1):=by have:=q.o2;have:=q.o3;omega
    go_wp2
   rotate_left
   focus
    rename_i xr;obtain⟨k,l,m,p⟩:=xr;obtain⟨_,_,m0,m1,l0,l1,fO⟩:=UJ hR;rw[hR]at R;simp only[TS]at R;have cL:IntKind.i64.wrap (m-(i:Int))=m-(i:Int):=jp _ ω ω;have bG:=Y (λwx=>Ko wk wl wm wp k l m p wx)
    by_cases aG:m-(i:Int)=first
    focus
     cases hgo:QE wk wl k l
     focus
      rw[hgo]at bG;have HF:Hid (K=f):=by show _=_;rw[<-U.j];exact tp hR (by rw[hgo];simp)
      go_wp2_with fail;refine(R.j _).J ?_;rintro e B ⟨rfl,V⟩;have H:=D.I V;have q:=H.I (Oq B (.cells #[Z k,Z l,Z m,yQ p] 127));have G:=NZ B #[Z k,Z l,Z m,yQ p] 127 B.heap.size rfl;obtain⟨x0,x1,x2,x3⟩:=G.k4;have xl:=G.lt;obtain⟨v0,v1,v2,v3⟩:=q.ws.k4;have vl:=q.ws.lt
      go_wp2_with (first|(go_at_call 179;refine(bG.j _).J ?_;rintro e w7 ⟨rfl,X⟩;have r:=q.I X;have S:=G.I X;clear X x0 x1 x2 x3 xl v0 v1 v2 v3 vl q G;have o0:=r.ot.y 0;have b0:=r.rb.y 0;have bW:=r.rb.A 0;have M:=r.ot.y 1;have b1:=r.rb.y 1;have bY:=r.rb.A 1;have O:=r.ot.y 2;have b2:=r.rb.y 2;have bZ:=r.rb.A 2;have ol:=r.ot.lt;have bl:=r.rb.lt;have Q:=Y r;have aT:¬(w.heap.size+1=o.heap.size+1):=(by have:=r.o2;have:=r.o3;omega);clear r))
     rotate_left
     focus
      rw[hgo]at bG;go_wp2_with fail;refine(R.j _).J ?_;rintro e B ⟨rfl,V⟩;have H:=D.I V;have q:=H.I (Oq B (.cells #[Z k,Z l,Z m,yQ p] 127));have G:=NZ B #[Z k,Z l,Z m,yQ p] 127 B.heap.size rfl;obtain⟨x0,x1,x2,x3⟩:=G.k4;have xl:=G.lt;obtain⟨v0,v1,v2,v3⟩:=q.ws.k4;have vl:=q.ws.lt
      go_upto_region 14 with (first|(go_at_call 179;refine(bG.j _).J ?_;rintro e w7 ⟨rfl,X⟩;have r:=q.I X;have S:=G.I X;clear X x0 x1 x2 x3 xl v0 v1 v2 v3 vl q G;have bP:¬(o.heap.size+1+1=B.heap.size):=(by have:=H.ws.lt;omega);have p0:=S.y 0;have p1:=S.y 1;have p2:=S.y 2;have p3:=S.y 3;have pl:=S.lt;have s0:=r.ws.y 0;have s1:=r.ws.y 1;have s2:=r.ws.y 2;have s3:=r.ws.y 3;have eU:=r.ws.A 0;have eV:=r.ws.A 1;have eX:=r.ws.A 2;have eY:=r.ws.A 3;have sl:=r.ws.lt))
      have F:=r.setWas k l m p;have aU:=(((S.other (yA (o.heap.size+1+1) 0) bP (Z k)).other (yA (o.heap.size+1+1) 1) bP (Z l)).other (yA (o.heap.size+1+1) 2) bP (Z m)).other (yA (o.heap.size+1+1) 3) bP (yQ p);obtain⟨w8,bB⟩:∃z,z=((((w7.setCell (yA (o.heap.size+1+1) 0) (Z k)).setCell (yA (o.heap.size+1+1) 1) (Z l)).setCell (yA (o.heap.size+1+1) 2) (Z m)).setCell (yA (o.heap.size+1+1) 3) (yQ p)):=⟨_,rfl⟩;rw[<-bB]at F aU⊢;clear bB r S p0 p1 p2 p3 pl s0 s1 s2 s3 eU eV eX eY sl;have p0:=aU.y 0;have p1:=aU.y 1;have p3:=aU.y 3;have pl:=aU.lt;have z1:¬(9223372036854775807<A.size+p.size):=ω
      by_cases cF:k=1
      ·subst cF
       have aY:Hid (NW I v first n (N-(i+1)) (i+1) 1 l (A++p) f=K):=by
        show _=_;rw[<-U.j];have e1:N-i=(N-(i+1))+1:=ω
        rw[e1];exact(qJ hR (by rw[cL];exact aG) hgo).symm
       go_wp2;exact⟨⟨i+1,A++p,1,l,m,p,f,_,_,rfl,rfl,σ,ω,(by rw[BW];omega),ω,aY.j,F⟩,by simp[intOf];omega⟩
      have fC:(k == 1)=false:=by simp[cF]
      have cV:=Y (λe1=>nN (first:=first) (f:=N-(i+1)) (op:=A) (out:=f) hR (by rw[cL];exact aG) hgo e1);have e1:N-i=(N-(i+1))+1:=ω
      have M:=F.ot.y 1;have O:=F.ot.y 2;have dQ:=F.ot.A 1;have dR:=F.ot.A 2;have ol:=F.ot.lt;have eQ:¬(o.heap.size+1=B.heap.size):=by have:=H.ot.lt;omega
      have eR:¬(B.heap.size=o.heap.size+1):=by have:=H.ot.lt;omega
      by_cases cH:k=2
      ·subst cH
       have aY:Hid (NW I v first n (N-(i+1)) (i+1) 2 l empty (f.1++[A++p],(i:Int)+1,l)=K):=by
        show _=_;rw[<-U.j,e1];exact(cV.j ω).symm
       have o0:=F.ot.y 0;have eT:=F.ot.A 0;have D9:=F.I (Oq w8 (.cells #[yQ (A++p)] 9));have dU:=aU.alloc (.cells #[yQ (A++p)] 9);have cS:=Y D9.own;have fU:=F.be.size;have fF:(f.1.map Value.string).length=f.1.length:=BO _;have aV:=Y D9;have cT:=Y dU;clear D9 dU
       go_upto_region 18 with (first|(at_builtin;refine QS _ rfl _ _ 27 rfl w.heap.size underlying27 HI.j rfl ω _ f.1.length _ rfl cS.j (yA w8.heap.size 0) 1 1 [yQ (A++p)] rfl rfl (K6 _ _ _) (Et _) τ (w8.heap.size+1) σ ?_;intro gn J dV aC aA aN cX;have aD:dV.ownsRow w.heap.size 9 1 (yI (zY gn 0) (f.1.length+1) J) (f.1++[A++p]).length ((f.1++[A++p]).map Value.string):=(by rw[AK,DA];exact aC);have cP:=Y (aV.j.push (ents':=f.1++[A++p]) aD aA (aN.elim (λe=>.inl e) (λe=>.inr (BC some e))) σ);have c10:=aV.j.own_ne (k:=o.heap.size+1) ω;have eF:=λi=>(DP (a:=(yA (o.heap.size+1) i)) (aA.block (o.heap.size+1) τ (λe=>c10 e.symm)));have bF:=Y (cT.j.V aA (λe=>by have:=(H.own.lt _ e.symm).2;omega));have bJ:=aV.j.ot.V aA (λe=>c10 e.symm);have eG:=bJ.y 0;have cC:=bJ.A 0;have cI:=bJ.lt;clear aC aA aN aD))
       have P:=cP.j;have aH:=bF.j.other (yA (o.heap.size+1) 0) eQ (yI (zY gn 0) (f.1.length+1) J);obtain⟨fX,aM⟩:∃z,z=dV.setCell (yA (o.heap.size+1) 0) (yI (zY gn 0) (f.1.length+1) J):=⟨_,rfl⟩;rw[<-aM]at P aH⊢;clear aM cP bF aV cT cS eG cC cI bJ eF c10 o0 eT M O dQ dR ol p0 p1 p3 pl F aU;have M:=P.ot.y 1;have O:=P.ot.y 2;have dQ:=P.ot.A 1;have dR:=P.ot.A 2;have ol:=P.ot.lt;have p1:=aH.y 1;have pl:=aH.lt;have bT:=Y (P.setEnd ((i:Int)+1) l);clear P aH;go_wp2;exact⟨⟨i+1,⟨#[]⟩,2,l,m,p,(f.1++[A++p],(i:Int)+1,l),_,_,rfl,rfl,σ,ω,by show 0<=_;omega,by show(f.1++[A++p]).length<=_;simp;omega,aY.j,bT.j⟩,by simp[intOf];omega⟩
      have eO:(k == 2)=false:=by simp[cH]
      have aY:Hid (NW I v first n (N-(i+1)) (i+1) k l empty (f.1,(i:Int)+1,l)=K):=by
       show _=_;rw[<-U.j,e1];have:=(cV.j cF).symm;rw[AF cH]at this;exact this
      have D9:=F.setEnd ((i:Int)+1) l;have aV:=Y D9;clear D9;go_wp2;exact⟨⟨i+1,⟨#[]⟩,k,l,m,p,(f.1,(i:Int)+1,l),_,_,rfl,rfl,σ,ω,by show 0<=_;omega,by show f.1.length<=_;omega,aY.j,aV.j⟩,by simp[intOf];omega⟩
    rotate_left
    focus
     have HF:Hid (K=f):=by show _=_;rw[<-U.j];exact tp hR (by rw[cL];exactλh=>aG h.1)
     have fH:(m-(i:Int) == first)=false:=by simp[aG]
     go_wp2_with fail;refine(R.j _).J ?_;rintro e B ⟨rfl,V⟩;have H:=D.I V;have q:=H.I (Oq B (.cells #[Z k,Z l,Z m,yQ p] 127));have G:=NZ B #[Z k,Z l,Z m,yQ p] 127 B.heap.size rfl;have x2:=G.y 2;have xl:=G.lt;obtain⟨o0,M,O⟩:=q.ot.k3;obtain⟨b0,b1,b2⟩:=q.rb.k3;obtain⟨bW,bY,bZ⟩:=q.rb.z3;have ol:=q.ot.lt;have bl:=q.rb.lt;have Q:=Y q;have aT:¬(w.heap.size+1=o.heap.size+1):=by have:=q.o2;have:=q.o3;omega
     go_wp2
    rotate_left
   rotate_left 2
  rotate_left 3
  focus
   have HF:Hid (K=f):=by
    show _=_;rw[<-U.j];have:N-i=0:=ω
    rw[this];rfl
   have cJ:¬((i:Int)<(N:Int)):=ω
   obtain⟨o0,M,O⟩:=D.ot.k3;obtain⟨b0,b1,b2⟩:=D.rb.k3;obtain⟨bW,bY,bZ⟩:=D.rb.z3;have ol:=D.ot.lt;have bl:=D.rb.lt;have Q:=Y D;have aT:¬(w.heap.size+1=o.heap.size+1):=by have:=D.o2;have:=D.o3;omega
   go_wp2
  rotate_left
  all_goals
   refine AE (v:=.agg #[yI ya f.1.length yc,Z f.2.1,Z f.2.2]) (by simp[results,results124,go_sem,b0,b1,b2]) rfl ?_;rw[HF.j];have cM:=Q.j.own_ne (k:=w.heap.size+1) (by have:=Q.j.o2;have:=Q.j.o3;omega);exact⟨_,rfl,BS (BS (BS Q.j.own cM _) cM _) cM _,((Q.j.be.setCell (by show w.heap.size<=w.heap.size+1;omega) _).setCell (by show w.heap.size<=w.heap.size+1;omega) _).setCell (by show w.heap.size<=w.heap.size+1;omega) _⟩
theorem Og(a:xA)(f:List yZ)(c:Nat)(j:xA)(g:List (Int×yZ))(k:Nat)(d b first i n:Int)(w:xV)(h:Strs w a f)(o:Wrs w j g)(p:f.length<=1048576)(l:g.length<=1048576)(q:∀s∈f,s.size<=1048576)(m:∀x∈g,x.2.size<=1048576):Calls prog 124 #[LM a f.length c j g.length k,Z d,Z b,Z first,Z i,Z n] w λe r=>aw w r e (TG f g d b first i n):=by
 by_cases e:XR f g d b n
 ·exact Ix a f c j g k d b first i n w h o p l q m e
 rw[Oe f g d b first i n e]
 exact L7 a f c j g k d b first i n w h o p l q m e
