import Derived.Test.YtjdmogljfdffeaaGreatDoorPrG39
set_option maxHeartbeats 32000000
namespace Go.Proofs.YtjdmogljfdffeaaGreatDoor
open _root_.ByteArray(empty)
open Tryz
open Go.RowKit
set_option maxRecDepth 8000
set_option linter.all false
theorem jo(x:Int)(a:-9223372036854775808<=x)(b:x<=9223372036854775807):IntKind.i64.wrap x=x:=by
 simp[IntKind.wrap,IntKind.bits,IntKind.signed];omega
theorem Fg:(prog.info? 9).map (λi=>(i.zero,i.size,i.bytes))=some (some (.string empty),1,16):=κ
theorem yX{P:Program}{e:TypeId}{z:Value}{a b:Nat}(h:(P.info? e).map (λi=>(i.zero,i.size,i.bytes))=some (some z,a,b)):∃i,P.info? e=some i/\i.zero=some z/\i.size=a/\i.bytes=b:=by
 obtain⟨i,d,c⟩:=EM.1 h;simp only[EG]at c;exact⟨i,d,c⟩
theorem Gk(w:World)(a:Array Value)(t:TypeId):∀j u,a.toList[j]?=some u->(w.alloc (.cells a t)).cell? ((⟨w.heap.size,0,none⟩:Addr).add j)=some u:=World.news_of_block (AW w (.cells a t))
theorem Ac(k:ByteArray):∀u∈[Value.string k],u.oneCell'=true:=by
 intro u a;simp only[DX,EE,GR]at a;subst a;rfl
theorem Jj(c:List ByteArray)(d:List (Int×ByteArray))(b a first e n:Int)(h:¬XU c d b a n):SY c d b a first e n=([],0,0):=by unfold SY;rw[AG h]
theorem Hi(a:Option Addr)(f:List ByteArray)(c:Nat)(j:Option Addr)(g:List (Int×ByteArray))(l:Nat)(b d first y n:Int)(w:World)(h:Strs w a f)(D:Wrs w j g)(E:f.length<=1048576)(z:g.length<=1048576)(F:∀s∈f,s.size<=1048576)(A:∀x∈g,x.2.size<=1048576)(k:¬XU f g b d n):Calls prog 182 #[LE a f.length c j g.length l,.int .i64 b,.int .i64 d,.int .i64 first,.int .i64 y,.int .i64 n] w λe i=>ca w i e ([],0,0):=by
 have r:∀i m,Below w.heap.size w ((w.alloc i).alloc m):=λi m=>((AC _ _).alloc (Y _) _).alloc σ _
 have x:=Z (λ(u:World) (t:Below w.heap.size w u)=>WW a f c j g l u (h.z t) (D.z t) E z F A)
 cases hok:LG f g
 focus
  have o:decide (1<=n/\n<=8)=decide (1<=n/\n<=8):=rfl
 rotate_left
 focus
  obtain⟨⟨M,N,O⟩,L,T⟩:=PA hok
  by_cases p:1<=n/\n<=8
  focus
   have o:decide (1<=n/\n<=8)=true:=AM p
   by_cases Q:b<0
   focus
    clear k
   rotate_left
   focus
    by_cases X:d<0
    focus
     clear k
    rotate_left
    focus
     by_cases R:(f.length:Int)<b
     focus
      clear k
     rotate_left
     focus
      have S:IntKind.i64.wrap ((f.length:Int)-b)=(f.length:Int)-b:=jo _ ω ω
      by_cases s1:(f.length:Int)-b<d
      focus
       clear k
      rotate_left
      exact absurd ⟨hok,p,ω,ω,ω,ω⟩ k
     rotate_left
    rotate_left 2
   rotate_left 3
  rotate_left 4
  focus
   have o:decide (1<=n/\n<=8)=false:=AJ p;clear k
  rotate_left
 rotate_left 5
 all_goals
  go_enter func182,ntmps182
  go_wp2_with (first|(go_at_call 38;refine(x.l _ (r _ _)).A ?_;rw[hok];rintro e w1 ⟨rfl,m⟩;have q:=((OI w #[.slice a f.length c,.slice j g.length l] 26 w.heap.size rfl).alloc (.cells #[.slice none 0 0,.int .i64 0,.int .i64 0] 148)).z m;have i:=(OI (w.alloc (.cells #[.slice a f.length c,.slice j g.length l] 26)) #[.slice none 0 0,.int .i64 0,.int .i64 0] 148 (w.heap.size+1) σ).z m;have v:=Z ((r (.cells #[.slice a f.length c,.slice j g.length l] 26) (.cells #[.slice none 0 0,.int .i64 0,.int .i64 0] 148)).j (m.A ξ));have U:=q.y 0;have W:=q.lt;have b0:=i.y 0;have B:=i.y 1;have C:=i.y 2;have H:=i.E 0;have I:=i.E 1;have K:=i.E 2;have P:=i.lt;clear m q i)|(go_at_call 37;refine(QO _ _).A ?_;rw[o];rintro e G ⟨rfl,s⟩;rw[s];clear s G))
  refine AI (v:=.agg #[.slice none 0 0,.int .i64 0,.int .i64 0]) (by simp[results,results182,go_sem,b0,B,C]) rfl ?_;exact⟨.slice none 0 0,rfl,CE _ _ _ _,((v.l.setCell (by show w.heap.size<=w.heap.size+1;omega) _).setCell (by show w.heap.size<=w.heap.size+1;omega) _).setCell (by show w.heap.size<=w.heap.size+1;omega) _⟩
theorem Dw(a:Option Addr)(j:List ByteArray)(c:Nat)(U:Option Addr)(u:List (Int×ByteArray))(c':Nat)(C t first E n:Int)(w:World)(h:Strs w a j)(h':Wrs w U u)(hl:j.length<=1048576)(fB:u.length<=1048576)(hs:∀s∈j,s.size<=1048576)(cW:∀x∈u,x.2.size<=1048576)(bH:XU j u C t n):Calls prog 182 #[LE a j.length c U u.length c',.int .i64 C,.int .i64 t,.int .i64 first,.int .i64 E,.int .i64 n] w λe w'=>ca w w' e (SY j u C t first E n):=by
 have cI:∀O P,Below w.heap.size w ((w.alloc O).alloc P):=λO P=>((AC _ _).alloc (Y _) _).alloc σ _
 have bG:SY j u C t first E n=MD (λk=>(xhE u j).getD k empty) C.toNat first n t.toNat 0 0 E empty ([],0,E):=by unfold SY;rw[AF bH]
 rw[bG];clear bG;obtain⟨dZ,hn,f0,s0,f1,s1⟩:=bH;obtain⟨v,rfl⟩:∃k:Nat,C=(k:Int):=⟨C.toNat,ω⟩;obtain⟨N,rfl⟩:∃k:Nat,t=(k:Int):=⟨t.toNat,ω⟩;simp only[BM];have hd:decide (1<=n/\n<=8)=true:=AM hn;obtain⟨⟨fV,dR,dU⟩,eT,hw⟩:=PA dZ;obtain⟨i0,dN,eF,eG,eH⟩:=yX Fg;have HI:=Z (AH dN (AH eF (AH eG eH)));clear dN eF eG eH;have g0:¬((v:Int)<0):=ω
 have g1:¬((N:Int)<0):=ω
 have g2:¬((j.length:Int)<(v:Int)):=ω
 have g3:IntKind.i64.wrap ((j.length:Int)-(v:Int))=(j.length:Int)-(v:Int):=jo _ ω ω;have g4:¬((j.length:Int)-(v:Int)<(N:Int)):=ω
 obtain⟨I,aF⟩:∃I:Nat->ByteArray,I=λk=>(xhE u j).getD k empty:=⟨_,rfl⟩
 have eM:Hid (∀k,(I k).size<=1048576):=λk=>by rw[aF];exact tq u j hs cW k
 rw[<-aF]
 obtain⟨L,aX⟩:∃L,Hid (L=MD I v first n N 0 0 E empty ([],0,E)):=⟨_,Z rfl⟩
 rw[<-aX.l];go_enter func182,ntmps182;go_wp2_with fail;refine(WW a j c U u c' _ (h.z (cI _ _)) (h'.z (cI _ _)) hl fB hs cW).A ?_;rw[dZ];rintro e w1 ⟨rfl,bQ⟩;have r6:=(OI w #[.slice a j.length c,.slice U u.length c'] 26 w.heap.size rfl).alloc (.cells #[.slice none 0 0,.int .i64 0,.int .i64 0] 148);have M:=OI (w.alloc (.cells #[.slice a j.length c,.slice U u.length c'] 26)) #[.slice none 0 0,.int .i64 0,.int .i64 0] 148 (w.heap.size+1) σ;have r6:=r6.z bQ;have M:=M.z bQ;have aW:=(cI (.cells #[.slice a j.length c,.slice U u.length c'] 26) (.cells #[.slice none 0 0,.int .i64 0,.int .i64 0] 148)).j (bQ.A ξ);have q0:=r6.y 0;have q1:=r6.y 1;have gI:=M.lt;clear bQ
 go_wp2_with (first|(go_at_call 37;refine(QO _ _).A ?_;rw[hd];rintro e wz ⟨rfl,eC⟩;rw[eC];clear eC wz))
 refine(ub a j c U u c' _ (h.z aW) (h'.z aW) dR dU).A ?_;rintro e w2 ⟨g,c1,g',eN,rfl,bW,hg,eV,bT⟩;have aS:j.length≠0:=ω
 have fO:w1.heap.size<=g:=hg g (by unfold blk;rw[AG aS];rfl)
 have eB:Row w2 g (j.map Value.string):=by
  rcases bW.s with e|⟨b,e,hr⟩
  ·exact absurd (BY List.length e) (by rw[BP,AR];omega)
  cases e;exact hr
 have dV:MH u≠[]->g'≠g:=λhc=>by
  have hl:u.length≠0:=λe=>hc (by rw[AB e];rfl)
  rcases bW.ne with e|e|e
  ·unfold blk at e;rw[AG aS]at e;exact absurd e σ
  ·unfold blk at e;rw[AG hl]at e;exact absurd e σ
  unfold blk at e;rw[AG aS,AG hl]at e;exactλe2=>e (by rw[e2])
 have HY:=Z (rn g g' j c1 u eN w2 eB bW.p dV dR dU (λx hx=>by have:=AU (hw x hx);omega));have cA:=aW.j (bT.A aW.size);have M:=M.z bT;have gH:=bT.size;clear q0 q1 bW hg eV bT eB dV r6;go_wp2_with fail;refine HY.l.A ?_;rintro e o ⟨x,rfl,gE,gF,bY,cL⟩;have cC:=cA.j (MR cL cA.size (λk hk=>by cases hk;have:=aW.size;omega));have M:=M.I cL (λe=>by injection e with e;omega);have eX:g<o.heap.size:=bY.lt;have cV:((xhE u j).map Value.string).length=j.length:=by rw[BP,WY]
 have cZ:Hid (∀k,k<j.length->((xhE u j).map Value.string)[k]?=some (.string (I k))):=λk hk=>by
  rw[aF];simp[List.getD,WY,hk]
 obtain⟨SV,aZ⟩:∃SV,SV=(xhE u j).map Value.string:=⟨_,rfl⟩;rw[<-aZ]at bY cV cZ;clear aZ HY aF cL h h' hs cW eT hw
 have D0:ScB w (((o.alloc (.cells #[.slice (some ⟨g,0,none⟩) j.length c1,.slice (some ⟨x,0,none⟩) 0 0] 26)).alloc (.cells #[.slice none 0 0,.int .i64 0,.int .i64 E] 148)).alloc (.cells #[.int .i64 0,.int .i64 E,.int .i64 0,.string ⟨#[]⟩] 119)) (w.heap.size+1) g o.heap.size (o.heap.size+1) (o.heap.size+1+1) SV c1 (.slice (some ⟨x,0,none⟩) 0 0) (.slice none 0 0) [] 0 E 0 E 0 ⟨#[]⟩:=by
  refine⟨((M.alloc _).alloc _).alloc _,((bY.alloc _).alloc _).alloc _,?_,?_,?_,CE _ _ _ _,ω,ω,ω,ω,ω,λk hk=>(by cases hk),?_⟩
  ·rw[cV]
   exact((LU _ _ _).alloc _).alloc _
  ·exact(OI _ _ _ _ σ).alloc _
  ·exact OI _ _ _ _ σ
  have b1:=cC.alloc cC.size (.cells #[.slice (some ⟨g,0,none⟩) j.length c1,.slice (some ⟨x,0,none⟩) 0 0] 26)
  have b2:=b1.alloc b1.size (.cells #[.slice none 0 0,.int .i64 0,.int .i64 E] 148);exact b2.alloc b2.size _
 clear M bY cC cA aW;go_wp2
 go_loopw [16,17] (λov iv wr=>∃(i:Nat) (A:ByteArray) (wk wl wm:Int) (wp:ByteArray) (f:Scd) (d:Value) (W:World),W=wr/\ov=.string A/\iv=.int .i64 (i:Int)/\i<=N/\A.size<=64*i/\f.1.length<=i/\Hid (MD I v first n (N-i) i wk wl A f=L)/\ScB w W (w.heap.size+1) g o.heap.size (o.heap.size+1) (o.heap.size+1+1) SV c1 (.slice (some ⟨x,0,none⟩) 0 0) d f.1 f.2.1 f.2.2 wk wl wm wp) (λ_ iv _=>((N:Int)-intOf iv).toNat)
 case atStart =>
  exact⟨0,⟨#[]⟩,0,E,0,⟨#[]⟩,([],0,E),_,_,rfl,rfl,rfl,AO _,δ,Y _,by show _=_;rw[aX.l];rfl,D0⟩
 case round =>
  obtain⟨i,A,wk,wl,wm,wp,f,y,wr,rfl,rfl,rfl,fQ,fY,fX,X,D⟩:=hrel;clear D0
  obtain⟨ya,yc,rfl⟩:∃ya yc,y=.slice ya f.1.length yc:=by
   rcases MO D.own with ⟨h1,h2⟩|⟨gg,K,h1,_⟩
   ·exact⟨none,0,by rw[h1,h2]⟩
   exact⟨_,K,h1⟩
  by_cases fT:i<N
  focus
   have cS:(i:Int)<(N:Int):=ω
   have eU:IntKind.i64.wrap ((v:Int)+(i:Int))=((v+i:Nat):Int):=by rw[jo _ ω ω];omega
   have eY:v+i<j.length:=ω
   have eZ:((v+i:Nat):Int)<(j.length:Int):=ω
   have eO:=D.xb.y 0;rw[cV]at eO;have cs:=D.sec.cell (v+i) _ (cZ.l (v+i) eY);have lx:=D.xb.lt;have ls:=D.sec.lt;have gD:IntKind.i64.wrap ((i:Int)+1)=(i:Int)+1:=jo _ ω ω;have S:=Z (λwx=>uh (I (v+i)) n wx (eM.l _))
   cases hR:MI (I (v+i)) n
   focus
    rw[hR]at S;simp only[VC]at S;have HF:Hid (L=f):=by show _=_;rw[<-X.l];exact ms hR
    go_wp2_with fail;refine(S.l _).A ?_;rintro e B ⟨rfl,aQ⟩;have H:=D.z aQ;have q:=H.z (MF B (.cells #[.int .i64 0,.int .i64 0,.int .i64 0,.string ⟨#[]⟩] 119));obtain⟨o0,O,P⟩:=q.ot.k3;obtain⟨b0,b1,b2⟩:=q.rb.k3;obtain⟨cE,cF,cH⟩:=q.rb.z3;have ol:=q.ot.lt;have bl:=q.rb.lt;have R:=Z q;have aT:¬(w.heap.size+1=o.heap.size+1):=by have:=q.o2;have:=q.o3;omega
    go_wp2
   rotate_left
   focus
    rename_i xr;obtain⟨k,l,m,p⟩:=xr;obtain⟨_,_,m0,m1,l0,l1,fZ⟩:=SI hR;rw[hR]at S;simp only[VC]at S;have cT:IntKind.i64.wrap (m-(i:Int))=m-(i:Int):=jo _ ω ω;have bJ:=Z (λwx=>Fx wk wl wm wp k l m p wx)
    by_cases aG:m-(i:Int)=first
    focus
     cases hgo:OV wk wl k l
     focus
      rw[hgo]at bJ;have HF:Hid (L=f):=by show _=_;rw[<-X.l];exact lj hR (by rw[hgo];simp)
      go_wp2_with fail;refine(S.l _).A ?_;rintro e B ⟨rfl,aQ⟩;have H:=D.z aQ;have q:=H.z (MF B (.cells #[.int .i64 k,.int .i64 l,.int .i64 m,.string p] 119));have G:=OI B #[.int .i64 k,.int .i64 l,.int .i64 m,.string p] 119 B.heap.size rfl;obtain⟨x0,x1,x2,x3⟩:=G.k4;have xl:=G.lt;obtain⟨v0,v1,v2,v3⟩:=q.ws.k4;have vl:=q.ws.lt
      go_wp2_with (first|(go_at_call 189;refine(bJ.l _).A ?_;rintro e w7 ⟨rfl,aR⟩;have r:=q.z aR;have T:=G.z aR;clear aR x0 x1 x2 x3 xl v0 v1 v2 v3 vl q G;have o0:=r.ot.y 0;have b0:=r.rb.y 0;have cE:=r.rb.E 0;have O:=r.ot.y 1;have b1:=r.rb.y 1;have cF:=r.rb.E 1;have P:=r.ot.y 2;have b2:=r.rb.y 2;have cH:=r.rb.E 2;have ol:=r.ot.lt;have bl:=r.rb.lt;have R:=Z r;have aT:¬(w.heap.size+1=o.heap.size+1):=(by have:=r.o2;have:=r.o3;omega);clear r))
     rotate_left
     focus
      rw[hgo]at bJ;go_wp2_with fail;refine(S.l _).A ?_;rintro e B ⟨rfl,aQ⟩;have H:=D.z aQ;have q:=H.z (MF B (.cells #[.int .i64 k,.int .i64 l,.int .i64 m,.string p] 119));have G:=OI B #[.int .i64 k,.int .i64 l,.int .i64 m,.string p] 119 B.heap.size rfl;obtain⟨x0,x1,x2,x3⟩:=G.k4;have xl:=G.lt;obtain⟨v0,v1,v2,v3⟩:=q.ws.k4;have vl:=q.ws.lt
      go_upto_region 14 with (first|(go_at_call 189;refine(bJ.l _).A ?_;rintro e w7 ⟨rfl,aR⟩;have r:=q.z aR;have T:=G.z aR;clear aR x0 x1 x2 x3 xl v0 v1 v2 v3 vl q G;have bV:¬(o.heap.size+1+1=B.heap.size):=(by have:=H.ws.lt;omega);have p0:=T.y 0;have p1:=T.y 1;have p2:=T.y 2;have p3:=T.y 3;have pl:=T.lt;have s0:=r.ws.y 0;have s1:=r.ws.y 1;have s2:=r.ws.y 2;have s3:=r.ws.y 3;have fG:=r.ws.E 0;have fH:=r.ws.E 1;have fI:=r.ws.E 2;have fJ:=r.ws.E 3;have sl:=r.ws.lt))
      have F:=r.setWas k l m p;have aU:=(((T.other ⟨o.heap.size+1+1,0,none⟩ bV (.int .i64 k)).other ⟨o.heap.size+1+1,1,none⟩ bV (.int .i64 l)).other ⟨o.heap.size+1+1,2,none⟩ bV (.int .i64 m)).other ⟨o.heap.size+1+1,3,none⟩ bV (.string p);obtain⟨w8,bE⟩:∃z,z=((((w7.setCell ⟨o.heap.size+1+1,0,none⟩ (.int .i64 k)).setCell ⟨o.heap.size+1+1,1,none⟩ (.int .i64 l)).setCell ⟨o.heap.size+1+1,2,none⟩ (.int .i64 m)).setCell ⟨o.heap.size+1+1,3,none⟩ (.string p)):=⟨_,rfl⟩;rw[<-bE]at F aU⊢;clear bE r T p0 p1 p2 p3 pl s0 s1 s2 s3 fG fH fI fJ sl;have p0:=aU.y 0;have p1:=aU.y 1;have p3:=aU.y 3;have pl:=aU.lt;have z1:¬(9223372036854775807<A.size+p.size):=ω
      by_cases cO:k=1
      ·subst cO
       have aY:Hid (MD I v first n (N-(i+1)) (i+1) 1 l (A++p) f=L):=by
        show _=_;rw[<-X.l];have e1:N-i=(N-(i+1))+1:=ω
        rw[e1];exact(kt hR (by rw[cT];exact aG) hgo).symm
       go_wp2;exact⟨⟨i+1,A++p,1,l,m,p,f,_,_,rfl,rfl,σ,ω,(by rw[BK];omega),ω,aY.l,F⟩,by simp[intOf];omega⟩
      have fS:(k == 1)=false:=by simp[cO]
      have dM:=Z (λe1=>df (first:=first) (f:=N-(i+1)) (op:=A) (out:=f) hR (by rw[cT];exact aG) hgo e1);have e1:N-i=(N-(i+1))+1:=ω
      have O:=F.ot.y 1;have P:=F.ot.y 2;have eI:=F.ot.E 1;have eJ:=F.ot.E 2;have ol:=F.ot.lt;have fC:¬(o.heap.size+1=B.heap.size):=by have:=H.ot.lt;omega
      have fE:¬(B.heap.size=o.heap.size+1):=by have:=H.ot.lt;omega
      by_cases cP:k=2
      ·subst cP
       have aY:Hid (MD I v first n (N-(i+1)) (i+1) 2 l empty (f.1++[A++p],(i:Int)+1,l)=L):=by
        show _=_;rw[<-X.l,e1];exact(dM.l ω).symm
       have o0:=F.ot.y 0;have fF:=F.ot.E 0;have D9:=F.z (MF w8 (.cells #[.string (A++p)] 9));have eK:=aU.alloc (.cells #[.string (A++p)] 9);have dH:=Z D9.own;have gG:=F.be.size;have fU:(f.1.map Value.string).length=f.1.length:=BP _;have aV:=Z D9;have dL:=Z eK;clear D9 eK
       go_upto_region 18 with (first|(at_builtin;refine QN _ rfl _ _ 23 rfl w.heap.size underlying23 HI.l rfl ω _ f.1.length _ rfl dH.l ⟨w8.heap.size,0,none⟩ 1 1 [.string (A++p)] rfl rfl (Gk _ _ _) (Ac _) τ (w8.heap.size+1) σ ?_;intro gn K eL aC aA aN dQ;have aD:eL.ownsRow w.heap.size 9 1 (.slice (some ⟨gn,0,none⟩) (f.1.length+1) K) (f.1++[A++p]).length ((f.1++[A++p]).map Value.string):=(by rw[AE,CY];exact aC);have cY:=Z (aV.l.push (ents':=f.1++[A++p]) aD aA (aN.elim (λe=>.inl e) (λe=>.inr (BY some e))) σ);have c10:=aV.l.own_ne (k:=o.heap.size+1) ω;have eP:=λi=>(CT (a:=⟨o.heap.size+1,i,none⟩) (aA.block (o.heap.size+1) τ (λe=>c10 e.symm)));have bI:=Z (dL.l.I aA (λe=>by have:=(H.own.lt _ e.symm).2;omega));have bU:=aV.l.ot.I aA (λe=>c10 e.symm);have eQ:=bU.y 0;have cJ:=bU.E 0;have cQ:=bU.lt;clear aC aA aN aD))
       have Q:=cY.l;have aH:=bI.l.other ⟨o.heap.size+1,0,none⟩ fC (.slice (some ⟨gn,0,none⟩) (f.1.length+1) K);obtain⟨gJ,aM⟩:∃z,z=eL.setCell ⟨o.heap.size+1,0,none⟩ (.slice (some ⟨gn,0,none⟩) (f.1.length+1) K):=⟨_,rfl⟩;rw[<-aM]at Q aH⊢;clear aM cY bI aV dL dH eQ cJ cQ bU eP c10 o0 fF O P eI eJ ol p0 p1 p3 pl F aU;have O:=Q.ot.y 1;have P:=Q.ot.y 2;have eI:=Q.ot.E 1;have eJ:=Q.ot.E 2;have ol:=Q.ot.lt;have p1:=aH.y 1;have pl:=aH.lt;have bZ:=Z (Q.setEnd ((i:Int)+1) l);clear Q aH;go_wp2;exact⟨⟨i+1,⟨#[]⟩,2,l,m,p,(f.1++[A++p],(i:Int)+1,l),_,_,rfl,rfl,σ,ω,by show 0<=_;omega,by show(f.1++[A++p]).length<=_;simp;omega,aY.l,bZ.l⟩,by simp[intOf];omega⟩
      have fA:(k == 2)=false:=by simp[cP]
      have aY:Hid (MD I v first n (N-(i+1)) (i+1) k l empty (f.1,(i:Int)+1,l)=L):=by
       show _=_;rw[<-X.l,e1];have:=(dM.l cO).symm;rw[AG cP]at this;exact this
      have D9:=F.setEnd ((i:Int)+1) l;have aV:=Z D9;clear D9;go_wp2;exact⟨⟨i+1,⟨#[]⟩,k,l,m,p,(f.1,(i:Int)+1,l),_,_,rfl,rfl,σ,ω,by show 0<=_;omega,by show f.1.length<=_;omega,aY.l,aV.l⟩,by simp[intOf];omega⟩
    rotate_left
    focus
     have HF:Hid (L=f):=by show _=_;rw[<-X.l];exact lj hR (by rw[cT];exactλh=>aG h.1)
     have fW:(m-(i:Int) == first)=false:=by simp[aG]
     go_wp2_with fail;refine(S.l _).A ?_;rintro e B ⟨rfl,aQ⟩;have H:=D.z aQ;have q:=H.z (MF B (.cells #[.int .i64 k,.int .i64 l,.int .i64 m,.string p] 119));have G:=OI B #[.int .i64 k,.int .i64 l,.int .i64 m,.string p] 119 B.heap.size rfl;have x2:=G.y 2;have xl:=G.lt;obtain⟨o0,O,P⟩:=q.ot.k3;obtain⟨b0,b1,b2⟩:=q.rb.k3;obtain⟨cE,cF,cH⟩:=q.rb.z3;have ol:=q.ot.lt;have bl:=q.rb.lt;have R:=Z q;have aT:¬(w.heap.size+1=o.heap.size+1):=by have:=q.o2;have:=q.o3;omega
     go_wp2
    rotate_left
   rotate_left 2
  rotate_left 3
  focus
   have HF:Hid (L=f):=by
    show _=_;rw[<-X.l];have:N-i=0:=ω
    rw[this];rfl
   have cS:¬((i:Int)<(N:Int)):=ω
   obtain⟨o0,O,P⟩:=D.ot.k3;obtain⟨b0,b1,b2⟩:=D.rb.k3;obtain⟨cE,cF,cH⟩:=D.rb.z3;have ol:=D.ot.lt;have bl:=D.rb.lt;have R:=Z D;have aT:¬(w.heap.size+1=o.heap.size+1):=by have:=D.o2;have:=D.o3;omega
   go_wp2
  rotate_left
  all_goals
   refine AI (v:=.agg #[.slice ya f.1.length yc,.int .i64 f.2.1,.int .i64 f.2.2]) (by simp[results,results182,go_sem,b0,b1,b2]) rfl ?_;rw[HF.l];have cU:=R.l.own_ne (k:=w.heap.size+1) (by have:=R.l.o2;have:=R.l.o3;omega);exact⟨_,rfl,AQ (AQ (AQ R.l.own cU _) cU _) cU _,((R.l.be.setCell (by show w.heap.size<=w.heap.size+1;omega) _).setCell (by show w.heap.size<=w.heap.size+1;omega) _).setCell (by show w.heap.size<=w.heap.size+1;omega) _⟩
theorem Jl(a:Option Addr)(f:List ByteArray)(c:Nat)(j:Option Addr)(g:List (Int×ByteArray))(k:Nat)(d b first i n:Int)(w:World)(h:Strs w a f)(o:Wrs w j g)(p:f.length<=1048576)(l:g.length<=1048576)(q:∀s∈f,s.size<=1048576)(m:∀x∈g,x.2.size<=1048576):Calls prog 182 #[LE a f.length c j g.length k,.int .i64 d,.int .i64 b,.int .i64 first,.int .i64 i,.int .i64 n] w λe r=>ca w r e (SY f g d b first i n):=by
 by_cases e:XU f g d b n
 ·exact Dw a f c j g k d b first i n w h o p l q m e
 rw[Jj f g d b first i n e]
 exact Hi a f c j g k d b first i n w h o p l q m e
