import Derived.Test.YtmlejnbjclkdjaaGreatDoorPrG39
set_option maxHeartbeats 32000000
namespace Go.Proofs.YtmlejnbjclkdjaaGreatDoor
open _root_.ByteArray(empty)
open Tryz
open Go.RowKit
set_option maxRecDepth 8000
set_option linter.all false
theorem ji(x:Int)(a:-9223372036854775808<=x)(b:x<=9223372036854775807):IntKind.i64.wrap x=x:=by
 simp[IntKind.wrap,IntKind.bits,IntKind.signed];omega
theorem Hl:(prog.info? 9).map (λi=>(i.zero,i.size,i.bytes))=some (some (Mz empty),1,16):=κ
theorem Af{P:Program}{e:TypeId}{z:Nc}{a b:Nat}(h:(P.info? e).map (λi=>(i.zero,i.size,i.bytes))=some (some z,a,b)):∃i,P.info? e=some i/\i.zero=some z/\i.size=a/\i.bytes=b:=by
 obtain⟨i,d,c⟩:=EZ.1 h;simp only[BV]at c;exact⟨i,d,c⟩
theorem Im(w:Nb)(a:Array Nc)(t:TypeId):∀j u,a.toList[j]?=some u->(w.alloc (.cells a t)).cell? ((⟨w.heap.size,0,none⟩:Addr).add j)=some u:=World.news_of_block (AU w (.cells a t))
theorem Bg(k:Y):∀u∈[Mz k],u.oneCell'=true:=by
 intro u a;simp only[DY,EJ,GV]at a;subst a;rfl
theorem Mh(c:List Y)(d:List (Int×Y))(b a first e n:Int)(h:¬XS c d b a n):TQ c d b a first e n=([],0,0):=by unfold TQ;rw[AG h]
theorem Jo(a:M6)(f:List Y)(c:Nat)(j:M6)(g:List (Int×Y))(l:Nat)(b d first y n:Int)(w:Nb)(h:Strs w a f)(D:Wrs w j g)(E:f.length<=1048576)(z:g.length<=1048576)(F:∀s∈f,s.size<=1048576)(A:∀x∈g,x.2.size<=1048576)(k:¬XS f g b d n):Calls prog 182 #[LF a f.length c j g.length l,.int .i64 b,.int .i64 d,.int .i64 first,.int .i64 y,.int .i64 n] w λe i=>au w i e ([],0,0):=by
 have r:∀i m,Below w.heap.size w ((w.alloc i).alloc m):=λi m=>((AB _ _).alloc (AA _) _).alloc σ _
 have x:=Z (λ(u:Nb) (t:Below w.heap.size w u)=>NG a f c j g l u (h.I t) (D.I t) E z F A)
 cases hok:LE f g
 focus
  have o:decide (1<=n/\n<=8)=decide (1<=n/\n<=8):=rfl
 rotate_left
 focus
  obtain⟨⟨L,M,N⟩,K,S⟩:=LK hok
  by_cases p:1<=n/\n<=8
  focus
   have o:decide (1<=n/\n<=8)=true:=AL p
   by_cases P:b<0
   focus
    clear k
   rotate_left
   focus
    by_cases V:d<0
    focus
     clear k
    rotate_left
    focus
     by_cases Q:(f.length:Int)<b
     focus
      clear k
     rotate_left
     focus
      have R:IntKind.i64.wrap ((f.length:Int)-b)=(f.length:Int)-b:=ji _ ω ω
      by_cases W:(f.length:Int)-b<d
      focus
       clear k
      rotate_left
      exact absurd ⟨hok,p,ω,ω,ω,ω⟩ k
     rotate_left
    rotate_left 2
   rotate_left 3
  rotate_left 4
  focus
   have o:decide (1<=n/\n<=8)=false:=AI p;clear k
  rotate_left
 rotate_left 5
 all_goals
  go_enter func182,ntmps182
  go_wp2_with (first|(go_at_call 39;refine(x.l _ (r _ _)).z ?_;rw[hok];rintro e X ⟨rfl,m⟩;have q:=((LM w #[.slice a f.length c,.slice j g.length l] 26 w.heap.size rfl).alloc (.cells #[.slice none 0 0,.int .i64 0,.int .i64 0] 162)).I m;have i:=(LM (w.alloc (.cells #[.slice a f.length c,.slice j g.length l] 26)) #[.slice none 0 0,.int .i64 0,.int .i64 0] 162 (w.heap.size+1) σ).I m;have v:=Z ((r (.cells #[.slice a f.length c,.slice j g.length l] 26) (.cells #[.slice none 0 0,.int .i64 0,.int .i64 0] 162)).j (m.z ξ));have T:=q.y 0;have U:=q.lt;have b0:=i.y 0;have B:=i.y 1;have C:=i.y 2;have H:=i.A 0;have I:=i.A 1;have J:=i.A 2;have O:=i.lt;clear m q i)|(go_at_call 21;refine(RO _ _).z ?_;rw[o];rintro e G ⟨rfl,s⟩;rw[s];clear s G))
  refine AJ (v:=.agg #[.slice none 0 0,.int .i64 0,.int .i64 0]) (by simp[results,results182,go_sem,b0,B,C]) rfl ?_;exact⟨.slice none 0 0,rfl,DA _ _ _ _,((v.l.setCell (by show w.heap.size<=w.heap.size+1;omega) _).setCell (by show w.heap.size<=w.heap.size+1;omega) _).setCell (by show w.heap.size<=w.heap.size+1;omega) _⟩
theorem Fx(a:M6)(j:List Y)(c:Nat)(T:M6)(u:List (Int×Y))(c':Nat)(C t first E n:Int)(w:Nb)(h:Strs w a j)(h':Wrs w T u)(hl:j.length<=1048576)(eU:u.length<=1048576)(hs:∀s∈j,s.size<=1048576)(cP:∀x∈u,x.2.size<=1048576)(bG:XS j u C t n):Calls prog 182 #[LF a j.length c T u.length c',.int .i64 C,.int .i64 t,.int .i64 first,.int .i64 E,.int .i64 n] w λe w'=>au w w' e (TQ j u C t first E n):=by
 have cC:∀M O,Below w.heap.size w ((w.alloc M).alloc O):=λM O=>((AB _ _).alloc (AA _) _).alloc σ _
 have bE:TQ j u C t first E n=ML (λk=>(xhE u j).getD k empty) C.toNat first n t.toNat 0 0 E empty ([],0,E):=by unfold TQ;rw[AE bG]
 rw[bE];clear bE;obtain⟨dN,hn,f0,s0,f1,s1⟩:=bG;obtain⟨v,rfl⟩:∃k:Nat,C=(k:Int):=⟨C.toNat,ω⟩;obtain⟨N,rfl⟩:∃k:Nat,t=(k:Int):=⟨t.toNat,ω⟩;simp only[BM];have hd:decide (1<=n/\n<=8)=true:=AL hn;obtain⟨⟨fJ,dH,dL⟩,eL,hw⟩:=LK dN;obtain⟨i0,cW,dR,dU,dV⟩:=Af Hl;have HI:=Z (AH cW (AH dR (AH dU dV)));clear cW dR dU dV;have g0:¬((v:Int)<0):=ω
 have g1:¬((N:Int)<0):=ω
 have g2:¬((j.length:Int)<(v:Int)):=ω
 have g3:IntKind.i64.wrap ((j.length:Int)-(v:Int))=(j.length:Int)-(v:Int):=ji _ ω ω;have g4:¬((j.length:Int)-(v:Int)<(N:Int)):=ω
 obtain⟨I,aF⟩:∃I:Nat->Y,I=λk=>(xhE u j).getD k empty:=⟨_,rfl⟩
 have eG:Hid (∀k,(I k).size<=1048576):=λk=>by rw[aF];exact tj u j hs cP k
 rw[<-aF]
 obtain⟨K,aX⟩:∃K,Hid (K=ML I v first n N 0 0 E empty ([],0,E)):=⟨_,Z rfl⟩
 rw[<-aX.l];go_enter func182,ntmps182;go_wp2_with fail;refine(NG a j c T u c' _ (h.I (cC _ _)) (h'.I (cC _ _)) hl eU hs cP).z ?_;rw[dN];rintro e w1 ⟨rfl,bJ⟩;have r6:=(LM w #[.slice a j.length c,.slice T u.length c'] 26 w.heap.size rfl).alloc (.cells #[.slice none 0 0,.int .i64 0,.int .i64 0] 162);have L:=LM (w.alloc (.cells #[.slice a j.length c,.slice T u.length c'] 26)) #[.slice none 0 0,.int .i64 0,.int .i64 0] 162 (w.heap.size+1) σ;have r6:=r6.I bJ;have L:=L.I bJ;have aW:=(cC (.cells #[.slice a j.length c,.slice T u.length c'] 26) (.cells #[.slice none 0 0,.int .i64 0,.int .i64 0] 162)).j (bJ.z ξ);have q0:=r6.y 0;have q1:=r6.y 1;have fZ:=L.lt;clear bJ
 go_wp2_with (first|(go_at_call 21;refine(RO _ _).z ?_;rw[hd];rintro e wz ⟨rfl,dQ⟩;rw[dQ];clear dQ wz))
 refine(lc a j c T u c' _ (h.I aW) (h'.I aW) dH dL).z ?_;rintro e w2 ⟨g,c1,g',eH,rfl,bU,hg,eN,bQ⟩;have aS:j.length≠0:=ω
 have fE:w1.heap.size<=g:=hg g (by unfold blk;rw[AG aS];rfl)
 have dP:Row w2 g (j.map Value.string):=by
  rcases bU.s with e|⟨b,e,hr⟩
  ·exact absurd (CX List.length e) (by rw[BU,AR];omega)
  cases e;exact hr
 have dM:NP u≠[]->g'≠g:=λhc=>by
  have hl:u.length≠0:=λe=>hc (by rw[AC e];rfl)
  rcases bU.ne with e|e|e
  ·unfold blk at e;rw[AG aS]at e;exact absurd e σ
  ·unfold blk at e;rw[AG hl]at e;exact absurd e σ
  unfold blk at e;rw[AG aS,AG hl]at e;exactλe2=>e (by rw[e2])
 have HY:=Z (qx g g' j c1 u eH w2 dP bU.p dM dH dL (λx hx=>by have:=AV (hw x hx);omega));have bY:=aW.j (bQ.z aW.size);have L:=L.I bQ;have fY:=bQ.size;clear q0 q1 bU hg eN bQ dP dM r6;go_wp2_with fail;refine HY.l.z ?_;rintro e o ⟨x,rfl,fV,fW,bV,cF⟩;have bZ:=bY.j (NR cF bY.size (λk hk=>by cases hk;have:=aW.size;omega));have L:=L.J cF (λe=>by injection e with e;omega);have eO:g<o.heap.size:=bV.lt;have cO:((xhE u j).map Value.string).length=j.length:=by rw[BU,VT]
 have cS:Hid (∀k,k<j.length->((xhE u j).map Value.string)[k]?=some (Mz (I k))):=λk hk=>by
  rw[aF];simp[List.getD,VT,hk]
 obtain⟨SV,aZ⟩:∃SV,SV=(xhE u j).map Value.string:=⟨_,rfl⟩;rw[<-aZ]at bV cO cS;clear aZ HY aF cF h h' hs cP eL hw
 have D0:ScB w (((o.alloc (.cells #[.slice (Mw g 0) j.length c1,.slice (Mw x 0) 0 0] 26)).alloc (.cells #[.slice none 0 0,.int .i64 0,.int .i64 E] 162)).alloc (.cells #[.int .i64 0,.int .i64 E,.int .i64 0,Mz ⟨#[]⟩] 51)) (w.heap.size+1) g o.heap.size (o.heap.size+1) (o.heap.size+1+1) SV c1 (.slice (Mw x 0) 0 0) (.slice none 0 0) [] 0 E 0 E 0 ⟨#[]⟩:=by
  refine⟨((L.alloc _).alloc _).alloc _,((bV.alloc _).alloc _).alloc _,?_,?_,?_,DA _ _ _ _,ω,ω,ω,ω,ω,λk hk=>(by cases hk),?_⟩
  ·rw[cO]
   exact((MT _ _ _).alloc _).alloc _
  ·exact(LM _ _ _ _ σ).alloc _
  ·exact LM _ _ _ _ σ
  have b1:=bZ.alloc bZ.size (.cells #[.slice (Mw g 0) j.length c1,.slice (Mw x 0) 0 0] 26)
  have b2:=b1.alloc b1.size (.cells #[.slice none 0 0,.int .i64 0,.int .i64 E] 162);exact b2.alloc b2.size _
 clear L bV bZ bY aW;go_wp2
 go_loopw [16,17] (λov iv wr=>∃(i:Nat) (A:Y) (wk wl wm:Int) (wp:Y) (f:Scd) (d:Nc) (W:Nb),W=wr/\ov=Mz A/\iv=.int .i64 (i:Int)/\i<=N/\A.size<=64*i/\f.1.length<=i/\Hid (ML I v first n (N-i) i wk wl A f=K)/\ScB w W (w.heap.size+1) g o.heap.size (o.heap.size+1) (o.heap.size+1+1) SV c1 (.slice (Mw x 0) 0 0) d f.1 f.2.1 f.2.2 wk wl wm wp) (λ_ iv _=>((N:Int)-intOf iv).toNat)
 case atStart =>
  exact⟨0,⟨#[]⟩,0,E,0,⟨#[]⟩,([],0,E),_,_,rfl,rfl,rfl,AM _,δ,AA _,by show _=_;rw[aX.l];rfl,D0⟩
 case round =>
  obtain⟨i,A,wk,wl,wm,wp,f,y,wr,rfl,rfl,rfl,fF,fS,fQ,U,D⟩:=hrel;clear D0
  obtain⟨ya,yc,rfl⟩:∃ya yc,y=.slice ya f.1.length yc:=by
   rcases NU D.own with ⟨h1,h2⟩|⟨gg,J,h1,_⟩
   ·exact⟨none,0,by rw[h1,h2]⟩
   exact⟨_,J,h1⟩
  by_cases fH:i<N
  focus
   have cL:(i:Int)<(N:Int):=ω
   have eM:IntKind.i64.wrap ((v:Int)+(i:Int))=((v+i:Nat):Int):=by rw[ji _ ω ω];omega
   have eP:v+i<j.length:=ω
   have eQ:((v+i:Nat):Int)<(j.length:Int):=ω
   have eI:=D.xb.y 0;rw[cO]at eI;have cs:=D.sec.cell (v+i) _ (cS.l (v+i) eP);have lx:=D.xb.lt;have ls:=D.sec.lt;have fU:IntKind.i64.wrap ((i:Int)+1)=(i:Int)+1:=ji _ ω ω;have R:=Z (λwx=>ma (I (v+i)) n wx (eG.l _))
   cases hR:MA (I (v+i)) n
   focus
    rw[hR]at R;simp only[TP]at R;have HF:Hid (K=f):=by show _=_;rw[<-U.l];exact dy hR
    go_wp2_with fail;refine(R.l _).z ?_;rintro e B ⟨rfl,V⟩;have H:=D.I V;have q:=H.I (LD B (.cells #[.int .i64 0,.int .i64 0,.int .i64 0,Mz ⟨#[]⟩] 51));obtain⟨o0,M,O⟩:=q.ot.k3;obtain⟨b0,b1,b2⟩:=q.rb.k3;obtain⟨b7,cA,cB⟩:=q.rb.z3;have ol:=q.ot.lt;have bl:=q.rb.lt;have Q:=Z q;have aT:¬(w.heap.size+1=o.heap.size+1):=by have:=q.o2;have:=q.o3;omega
    go_wp2
   rotate_left
   focus
    rename_i xr;obtain⟨k,l,m,p⟩:=xr;obtain⟨_,_,m0,m1,l0,l1,fT⟩:=SA hR;rw[hR]at R;simp only[TP]at R;have cM:IntKind.i64.wrap (m-(i:Int))=m-(i:Int):=ji _ ω ω;have bI:=Z (λwx=>Ia wk wl wm wp k l m p wx)
    by_cases aG:m-(i:Int)=first
    focus
     cases hgo:PD wk wl k l
     focus
      rw[hgo]at bI;have HF:Hid (K=f):=by show _=_;rw[<-U.l];exact ZT hR (by rw[hgo];simp)
      go_wp2_with fail;refine(R.l _).z ?_;rintro e B ⟨rfl,V⟩;have H:=D.I V;have q:=H.I (LD B (.cells #[.int .i64 k,.int .i64 l,.int .i64 m,Mz p] 51));have G:=LM B #[.int .i64 k,.int .i64 l,.int .i64 m,Mz p] 51 B.heap.size rfl;obtain⟨x0,x1,x2,x3⟩:=G.k4;have xl:=G.lt;obtain⟨v0,v1,v2,v3⟩:=q.ws.k4;have vl:=q.ws.lt
      go_wp2_with (first|(go_at_call 214;refine(bI.l _).z ?_;rintro e w7 ⟨rfl,X⟩;have r:=q.I X;have S:=G.I X;clear X x0 x1 x2 x3 xl v0 v1 v2 v3 vl q G;have o0:=r.ot.y 0;have b0:=r.rb.y 0;have b7:=r.rb.A 0;have M:=r.ot.y 1;have b1:=r.rb.y 1;have cA:=r.rb.A 1;have O:=r.ot.y 2;have b2:=r.rb.y 2;have cB:=r.rb.A 2;have ol:=r.ot.lt;have bl:=r.rb.lt;have Q:=Z r;have aT:¬(w.heap.size+1=o.heap.size+1):=(by have:=r.o2;have:=r.o3;omega);clear r))
     rotate_left
     focus
      rw[hgo]at bI;go_wp2_with fail;refine(R.l _).z ?_;rintro e B ⟨rfl,V⟩;have H:=D.I V;have q:=H.I (LD B (.cells #[.int .i64 k,.int .i64 l,.int .i64 m,Mz p] 51));have G:=LM B #[.int .i64 k,.int .i64 l,.int .i64 m,Mz p] 51 B.heap.size rfl;obtain⟨x0,x1,x2,x3⟩:=G.k4;have xl:=G.lt;obtain⟨v0,v1,v2,v3⟩:=q.ws.k4;have vl:=q.ws.lt
      go_upto_region 14 with (first|(go_at_call 214;refine(bI.l _).z ?_;rintro e w7 ⟨rfl,X⟩;have r:=q.I X;have S:=G.I X;clear X x0 x1 x2 x3 xl v0 v1 v2 v3 vl q G;have bT:¬(o.heap.size+1+1=B.heap.size):=(by have:=H.ws.lt;omega);have p0:=S.y 0;have p1:=S.y 1;have p2:=S.y 2;have p3:=S.y 3;have pl:=S.lt;have s0:=r.ws.y 0;have s1:=r.ws.y 1;have s2:=r.ws.y 2;have s3:=r.ws.y 3;have eZ:=r.ws.A 0;have fA:=r.ws.A 1;have fB:=r.ws.A 2;have fC:=r.ws.A 3;have sl:=r.ws.lt))
      have F:=r.setWas k l m p;have aU:=(((S.other ⟨o.heap.size+1+1,0,none⟩ bT (.int .i64 k)).other ⟨o.heap.size+1+1,1,none⟩ bT (.int .i64 l)).other ⟨o.heap.size+1+1,2,none⟩ bT (.int .i64 m)).other ⟨o.heap.size+1+1,3,none⟩ bT (Mz p);obtain⟨w8,bC⟩:∃z,z=((((w7.setCell ⟨o.heap.size+1+1,0,none⟩ (.int .i64 k)).setCell ⟨o.heap.size+1+1,1,none⟩ (.int .i64 l)).setCell ⟨o.heap.size+1+1,2,none⟩ (.int .i64 m)).setCell ⟨o.heap.size+1+1,3,none⟩ (Mz p)):=⟨_,rfl⟩;rw[<-bC]at F aU⊢;clear bC r S p0 p1 p2 p3 pl s0 s1 s2 s3 eZ fA fB fC sl;have p0:=aU.y 0;have p1:=aU.y 1;have p3:=aU.y 3;have pl:=aU.lt;have z1:¬(9223372036854775807<A.size+p.size):=ω
      by_cases cH:k=1
      ·subst cH
       have aY:Hid (ML I v first n (N-(i+1)) (i+1) 1 l (A++p) f=K):=by
        show _=_;rw[<-U.l];have e1:N-i=(N-(i+1))+1:=ω
        rw[e1];exact(XL hR (by rw[cM];exact aG) hgo).symm
       go_wp2;exact⟨⟨i+1,A++p,1,l,m,p,f,_,_,rfl,rfl,σ,ω,(by rw[BN];omega),ω,aY.l,F⟩,by simp[intOf];omega⟩
      have fG:(k == 1)=false:=by simp[cH]
      have cV:=Z (λe1=>WC (first:=first) (f:=N-(i+1)) (op:=A) (out:=f) hR (by rw[cM];exact aG) hgo e1);have e1:N-i=(N-(i+1))+1:=ω
      have M:=F.ot.y 1;have O:=F.ot.y 2;have dZ:=F.ot.A 1;have eB:=F.ot.A 2;have ol:=F.ot.lt;have eV:¬(o.heap.size+1=B.heap.size):=by have:=H.ot.lt;omega
      have eX:¬(B.heap.size=o.heap.size+1):=by have:=H.ot.lt;omega
      by_cases cI:k=2
      ·subst cI
       have aY:Hid (ML I v first n (N-(i+1)) (i+1) 2 l empty (f.1++[A++p],(i:Int)+1,l)=K):=by
        show _=_;rw[<-U.l,e1];exact(cV.l ω).symm
       have o0:=F.ot.y 0;have eY:=F.ot.A 0;have D9:=F.I (LD w8 (.cells #[Mz (A++p)] 9));have eC:=aU.alloc (.cells #[Mz (A++p)] 9);have cT:=Z D9.own;have fX:=F.be.size;have fI:(f.1.map Value.string).length=f.1.length:=BU _;have aV:=Z D9;have cU:=Z eC;clear D9 eC
       go_upto_region 18 with (first|(at_builtin;refine QY _ rfl _ _ 23 rfl w.heap.size underlying23 HI.l rfl ω _ f.1.length _ rfl cT.l ⟨w8.heap.size,0,none⟩ 1 1 [Mz (A++p)] rfl rfl (Im _ _ _) (Bg _) τ (w8.heap.size+1) σ ?_;intro gn J eF aC aA aN cZ;have aD:eF.ownsRow w.heap.size 9 1 (.slice (Mw gn 0) (f.1.length+1) J) (f.1++[A++p]).length ((f.1++[A++p]).map Value.string):=(by rw[AF,DK];exact aC);have cQ:=Z (aV.l.push (ents':=f.1++[A++p]) aD aA (aN.elim (λe=>.inl e) (λe=>.inr (CX some e))) σ);have c10:=aV.l.own_ne (k:=o.heap.size+1) ω;have eJ:=λi=>(DH (a:=⟨o.heap.size+1,i,none⟩) (aA.block (o.heap.size+1) τ (λe=>c10 e.symm)));have bH:=Z (cU.l.J aA (λe=>by have:=(H.own.lt _ e.symm).2;omega));have bR:=aV.l.ot.J aA (λe=>c10 e.symm);have eK:=bR.y 0;have cE:=bR.A 0;have cJ:=bR.lt;clear aC aA aN aD))
       have P:=cQ.l;have aH:=bH.l.other ⟨o.heap.size+1,0,none⟩ eV (.slice (Mw gn 0) (f.1.length+1) J);obtain⟨gD,aM⟩:∃z,z=eF.setCell ⟨o.heap.size+1,0,none⟩ (.slice (Mw gn 0) (f.1.length+1) J):=⟨_,rfl⟩;rw[<-aM]at P aH⊢;clear aM cQ bH aV cU cT eK cE cJ bR eJ c10 o0 eY M O dZ eB ol p0 p1 p3 pl F aU;have M:=P.ot.y 1;have O:=P.ot.y 2;have dZ:=P.ot.A 1;have eB:=P.ot.A 2;have ol:=P.ot.lt;have p1:=aH.y 1;have pl:=aH.lt;have bW:=Z (P.setEnd ((i:Int)+1) l);clear P aH;go_wp2;exact⟨⟨i+1,⟨#[]⟩,2,l,m,p,(f.1++[A++p],(i:Int)+1,l),_,_,rfl,rfl,σ,ω,by show 0<=_;omega,by show(f.1++[A++p]).length<=_;simp;omega,aY.l,bW.l⟩,by simp[intOf];omega⟩
      have eT:(k == 2)=false:=by simp[cI]
      have aY:Hid (ML I v first n (N-(i+1)) (i+1) k l empty (f.1,(i:Int)+1,l)=K):=by
       show _=_;rw[<-U.l,e1];have:=(cV.l cH).symm;rw[AG cI]at this;exact this
      have D9:=F.setEnd ((i:Int)+1) l;have aV:=Z D9;clear D9;go_wp2;exact⟨⟨i+1,⟨#[]⟩,k,l,m,p,(f.1,(i:Int)+1,l),_,_,rfl,rfl,σ,ω,by show 0<=_;omega,by show f.1.length<=_;omega,aY.l,aV.l⟩,by simp[intOf];omega⟩
    rotate_left
    focus
     have HF:Hid (K=f):=by show _=_;rw[<-U.l];exact ZT hR (by rw[cM];exactλh=>aG h.1)
     have fO:(m-(i:Int) == first)=false:=by simp[aG]
     go_wp2_with fail;refine(R.l _).z ?_;rintro e B ⟨rfl,V⟩;have H:=D.I V;have q:=H.I (LD B (.cells #[.int .i64 k,.int .i64 l,.int .i64 m,Mz p] 51));have G:=LM B #[.int .i64 k,.int .i64 l,.int .i64 m,Mz p] 51 B.heap.size rfl;have x2:=G.y 2;have xl:=G.lt;obtain⟨o0,M,O⟩:=q.ot.k3;obtain⟨b0,b1,b2⟩:=q.rb.k3;obtain⟨b7,cA,cB⟩:=q.rb.z3;have ol:=q.ot.lt;have bl:=q.rb.lt;have Q:=Z q;have aT:¬(w.heap.size+1=o.heap.size+1):=by have:=q.o2;have:=q.o3;omega
     go_wp2
    rotate_left
   rotate_left 2
  rotate_left 3
  focus
   have HF:Hid (K=f):=by
    show _=_;rw[<-U.l];have:N-i=0:=ω
    rw[this];rfl
   have cL:¬((i:Int)<(N:Int)):=ω
   obtain⟨o0,M,O⟩:=D.ot.k3;obtain⟨b0,b1,b2⟩:=D.rb.k3;obtain⟨b7,cA,cB⟩:=D.rb.z3;have ol:=D.ot.lt;have bl:=D.rb.lt;have Q:=Z D;have aT:¬(w.heap.size+1=o.heap.size+1):=by have:=D.o2;have:=D.o3;omega
   go_wp2
  rotate_left
  all_goals
   refine AJ (v:=.agg #[.slice ya f.1.length yc,.int .i64 f.2.1,.int .i64 f.2.2]) (by simp[results,results182,go_sem,b0,b1,b2]) rfl ?_;rw[HF.l];have cN:=Q.l.own_ne (k:=w.heap.size+1) (by have:=Q.l.o2;have:=Q.l.o3;omega);exact⟨_,rfl,BW (BW (BW Q.l.own cN _) cN _) cN _,((Q.l.be.setCell (by show w.heap.size<=w.heap.size+1;omega) _).setCell (by show w.heap.size<=w.heap.size+1;omega) _).setCell (by show w.heap.size<=w.heap.size+1;omega) _⟩
theorem Mj(a:M6)(f:List Y)(c:Nat)(j:M6)(g:List (Int×Y))(k:Nat)(d b first i n:Int)(w:Nb)(h:Strs w a f)(o:Wrs w j g)(p:f.length<=1048576)(l:g.length<=1048576)(q:∀s∈f,s.size<=1048576)(m:∀x∈g,x.2.size<=1048576):Calls prog 182 #[LF a f.length c j g.length k,.int .i64 d,.int .i64 b,.int .i64 first,.int .i64 i,.int .i64 n] w λe r=>au w r e (TQ f g d b first i n):=by
 by_cases e:XS f g d b n
 ·exact Fx a f c j g k d b first i n w h o p l q m e
 rw[Mh f g d b first i n e]
 exact Jo a f c j g k d b first i n w h o p l q m e
