import Derived.Test.YtmlejnbjclkdjaaGreatDoorPrPfK
import Derived.Test.YtmlejnbjclkdjaaGreatDoorPrG39
set_option maxHeartbeats 16000000
set_option maxRecDepth 8000
set_option linter.all false
namespace Go.Proofs.YtmlejnbjclkdjaaGreatDoor
open _root_.ByteArray(empty)
section
open Tryz
open Go.RowKit
theorem Ops.take{w:Nb}{a:M6}{c:List (Bool×Int×Y)}(h:Ops w a c)(m:Nat):Ops w a (c.take m):=by
 rcases h with h|⟨b,o,f,g,j⟩
 ·exact .inl (by rw[h];simp)
 refine .inr ⟨b,o,f,g,λi k=>?_⟩
 have d:i<c.length/\i<m:=by simp at k;omega
 have e:(c.take m).getD i (false,0,empty)=c.getD i (false,0,empty):=by simp[List.getD,FY,d.2]
 rw[e];exact j i d.1
theorem Row.lowB{w e:Nb}{R a:Nat}{c:List Nc}(h:Row w R c)(b:Below a w e)(d:R<a):Row e R c :=⟨AD h.lt b.size,λi v hv=>(b.cell (p:=⟨R,i,none⟩) d).j (h.cell i v hv),λi f=>(b.frozen (p:=⟨R,i,none⟩) d).j (h.froz i f)⟩
theorem OwnS.setp{w:Nb}{a:M6}{b:List Nc}(h:OwnS w a b)(p:Addr)(f:∀g,a=Mw g 0->b≠[]->p.block≠g)(v:Nc):OwnS (w.setCell p v) a b:=by
 rcases h with h|⟨g,c,e⟩
 ·exact .inl h
 by_cases d:b=[]
 ·exact .inl d
 exact .inr ⟨g,c,e.other p (f g c d) v⟩
theorem mY(a:List Y):OI (a.map LI)=a:=by
 unfold OI;rw[IE];exact JR (λs=>TM s) a
theorem pA(a:List (Int×Y)):XbJ (ME a)=a:=by
 unfold XbJ ME;rw[IE];exact JR (λx=>by show(x.1,strOfNums (LI x.2))=x;rw[TM]) a
theorem DV.form{w:Nb}{b X g n:Nat}{v:Nc}{j:List (List Int)}{d:List (Int×List Int)}(h:DV w b X g n v j d)(f:∀p∈d,p.2.length=64):∃a c,v=.slice a d.length c/\Hld w a d:=by
 rcases NU h.own with ⟨e,a⟩|⟨g,c,e,_,_,i⟩
 ·exact⟨_,_,by rw[e,a],.inl (AC a)⟩
 exact⟨_,_,e,i.hld f⟩
theorem qF:∀(l:List (Bool×Int×Y)) (d:List Y×List (Int×Y)),(LP l d).1.length=d.1.length
 | [],_=>rfl
 | o::r,d=>by rw[LP,qF r,SQ]
theorem ZO:∀(l:List (Bool×Int×Y)) (d:List Y×List (Int×Y)),LE d.1 d.2=true->LE (LP l d).1 (LP l d).2=true
 | [],_,h=>h
 | o::r,d,h=>ZO r _ (UM d o h)
theorem Cl(a X g n:Nat)(v:Nc)(b:List Y)(c:List (Int×Y))(s:Bool)(f:Int)(d:Y)(w:Nb)(h:DV w a X g n v (b.map LI) (ME c))(q:b.length=n)(o:LE b c=true)(r:d.size<=1048576)(m:a<=w.heap.size):Calls prog 170 #[Mv X 0,.agg #[M0 s,.int .i64 f,Mz d]] w λe l=>(∃x,e=M3 x)/\(∃i,DV l a X g n i ((SP (b,c) (s,f,d)).1.map LI) (ME (SP (b,c) (s,f,d)).2))/\Below a w l:=by
 cases s with
 | true =>
  rw[MX];refine(VI a X g n v b c f d w h q o m).z ?_;rintro e l ⟨i,j,k⟩;exact⟨i,⟨_,j⟩,k⟩
 | false =>
  cases hc:PL b.length (f,d) with
  | false =>
   rw[SR (b,c) (f,d) (.inl hc)];refine(UW a X g n v b c f d w h q o r (.inl hc) m).z ?_;rintro e l ⟨i,j,k⟩;exact⟨i,⟨_,j⟩,k⟩
  | true =>
   by_cases p:c.length<300
   ·rw[OX (b,c) (f,d) hc p]
    exact Mp a X g n v b c f d w h q o hc p m
   rw[SR (b,c) (f,d) (.inr p)]
   refine(UW a X g n v b c f d w h q o r (.inr p) m).z ?_;rintro e l ⟨i,j,k⟩;exact⟨i,⟨_,j⟩,k⟩
def RC(z:Int)(n:Nat):Nat:=min z.toNat n
theorem qB(z:Int)(n:Nat):RC z n<=n:=Nat.min_le_right _ _
set_option maxRecDepth 100000 in
theorem Dl(a:M6)(j:List Y)(c:Nat)(C:M6)(n:List (Int×Y))(N:Nat)(f:M6)(l:List (Bool×Int×Y))(P:Nat)(z:Int)(m:Nat)(w:Nb)(h:Strs w a j)(h':Wrs w C n)(hz:Ops w f l)(eF:l.length<=P)(eK:l.length<=1048576)(cO:RC z l.length=m)(dP:∀x∈l,x.2.2.size<=1048576)(bQ:LE j n=true):Calls prog 122 #[LF a j.length c C n.length N,.slice f l.length P,.int .i64 z] w λe b=>∃q O r L,e=M3 (LF q (LP (l.take (m)) (j,n)).1.length O r (LP (l.take (m)) (j,n)).2.length L)/\OwnD b q (LP (l.take (m)) (j,n)).1 r (LP (l.take (m)) (j,n)).2/\(∀g,blk q (LP (l.take (m)) (j,n)).1.length=some g->w.heap.size<=g)/\(∀g,blk r (LP (l.take (m)) (j,n)).2.length=some g->w.heap.size<=g)/\Below w.heap.size w b:=by
 obtain⟨⟨eO,cI,dL⟩,b7,hw⟩:=LK bQ
 have W:∀b d,Below w.heap.size w ((w.alloc b).alloc d):=λb d=>(LO _ _).alloc σ _
 have eN:m<=l.length:=by rw[<-cO];exact qB _ _
 obtain⟨p,J⟩:∃p,Hid (p=l.take (m)):=⟨_,Z rfl⟩;have F:p.length=m:=by rw[J.l];simp;omega
 have cP:Ops w f p:=by rw[J.l];exact hz.take (m)
 have cZ:Hid (∀x∈p,x.2.2.size<=1048576):=λx u=>dP x (by rw[J.l]at u;exact DE u)
 rw[<-J.l];obtain⟨D,T⟩:∃D,Hid (D=LP p (j,n)):=⟨_,Z rfl⟩;rw[<-T.l];go_enter func122,ntmps122;go_wp2_with fail;refine(NF a j c C n N _ (h.I (W _ _)) (h'.I (W _ _)) ω ω (λs k=>by have:=b7 s k;omega) (λx u=>by have:=AV (hw x u);omega)).z ?_;rw[bQ];rintro e w1 ⟨rfl,i⟩;have t:=(W _ _).j (i.z τ);obtain⟨o,B⟩:=UT i;have b:=(LM (w.alloc (.cells #[.slice a j.length c,.slice C n.length N] 26)) #[.slice none 0 0,.slice none 0 0] 26 (w.heap.size+1) σ).I i;have A:=Z b;have d:=Z t;clear b i t;go_wp2_with fail;refine(fy a j c C n N _ (h.I d.l) (h'.I d.l) cI dL (λs k=>by have:=b7 s k;omega) (λx u=>by have:=AV (hw x u);omega)).z ?_;rintro e s ⟨g,v,rfl,y,b,t,i⟩;clear o B;have B:=Z (A.l.I i);have aU:Hid (w.heap.size+1+1<=g):=by have:=A.l.lt;show _<=_;omega
 have E:=Z (Below.then d.l (AA _) i);have eH:g<s.heap.size:=y.lt;have eI:=aU.l;rw[<-RL]at b
 have o:∀k,v.ownBlock=some k->g+1<=k/\k<s.heap.size:=λk hk=>b.lt k hk
 have G:DV (s.alloc (.cells #[.slice (Mw g 0) j.length j.length,v] 116)) (w.heap.size+1+1) s.heap.size g j.length v (j.map LI) (ME n) :=⟨MT _ _ _,y.I (LD _ _),(NC b (LD _ _)).z ω,λe=>by have:=o _ e;omega,λe=>by have:=o _ e;omega,ω,ω,ω⟩
 have U:w.heap.size+1+1<=(s.alloc (.cells #[.slice (Mw g 0) j.length j.length,v] 116)).heap.size:=τ
 have K:=Z G;have I:=Z (B.l.alloc (.cells #[.slice (Mw g 0) j.length j.length,v] 116));have H:=Z (Below.then E.l (AA _) (LD s (.cells #[.slice (Mw g 0) j.length j.length,v] 116)))
 obtain⟨av,cv,hv⟩:∃a c,v=.slice a n.length c:=by
  rw[<-RL];rcases NU b with ⟨e,M⟩|⟨g,c,e,_⟩
  ·exact⟨_,_,by rw[e,M]⟩
  exact⟨_,_,e⟩
 subst hv;have cW:=Z bQ;clear G y b i d A E B o;go_upto_region 4 with fail;obtain⟨wq,b⟩:∃wq,wq=s.alloc (.cells #[.slice (Mw g 0) j.length j.length,.slice av n.length cv] 116):=⟨_,rfl⟩;rw[<-b]at K I H U⊢;go_cut [22,23,24] from 16 to 24 (λo i d y=>o=.slice f m P/\i=.int .i64 (m:Int)/\d=.int .i64 0/\y=wq)
 case first =>
  clear K I H U cP b;unfold RC at cO;have o:¬((P:Int)<(m:Int)):=ω
  by_cases M:z<0
  focus
   obtain rfl:m=0:=ω
  rotate_left
  focus
   have y:0<=z:=ω
   by_cases S:z<(l.length:Int)
   focus
    obtain⟨d,rfl⟩:∃d:Nat,z=(d:Int):=⟨z.toNat,ω⟩;obtain rfl:m=d:=ω
   rotate_left
   focus
    obtain rfl:m=l.length:=ω
    by_cases i:z=(l.length:Int)
    focus
     subst i
    rotate_left
    focus
     have A:(l.length:Int)<z:=ω
    rotate_left
   rotate_left 2
  rotate_left 3
  all_goals
   go_wp2_with fail;go_meet
   exact⟨by first|rfl|(congr 1;omega),by first|rfl|(congr 1;omega),rfl,rfl⟩
 case rest =>
  obtain⟨rfl,rfl,rfl,dQ⟩:=hcut;clear b;subst dQ;go_wp2;go_loopw [9,24] (λ_ i wr=>∃(k:Nat) (d:List Y×List (Int×Y)) (v:Nc),k<=m/\i=.int .i64 k/\d.1.length=j.length/\Hid (LE d.1 d.2=true)/\Hid (LP (p.drop k) d=D)/\Hid (DV wr (w.heap.size+1+1) s.heap.size g j.length v (d.1.map LI) (ME d.2))/\Hid (Row wr (w.heap.size+1) [.slice none 0 0,.slice none 0 0])/\Hid (Below w.heap.size w wr)/\w.heap.size+1+1<=wr.heap.size) (λ_ i _=>m-(intOf i).toNat)
  case atStart =>
   exact⟨0,(j,n),_,AM _,rfl,rfl,cW,by show _=_;rw[FD,T.l],K,I,H,U⟩
  case round =>
   obtain⟨k,d,v,hk,rfl,M,V,S,y,A,G,cN⟩:=hrel
   by_cases bE:k<m
   ·obtain⟨b,o,R,Q,E,rfl,dZ,eB,eC,HS⟩:=(cP.I G.l).at (k:=k) (by rw[F];exact bE)
    have bH:(R,Q,E)∈p:=by rw[HS.l];simp[List.getD,F,bE]
    have dM:E.size<=1048576:=cZ.l _ bH
    have X:∀B,Below wr.heap.size wr (wr.alloc B):=λB=>LD _ _
    have cS:=Z (λB=>Cl (w.heap.size+1+1) s.heap.size g j.length v d.1 d.2 R Q E (wr.alloc B) (y.l.I (X B)) M V.l dM (AK cN (X B).size));go_wp2_with (go_at_call 170;refine(cS.l _).z ?_;rintro e w4 ⟨⟨x,rfl⟩,⟨v',cB⟩,B⟩);have aT:=Z cB;have bW:=Z (((X (.cells #[M0 R,.int .i64 Q,Mz E] 130)).z cN).j B)
    have cT:Hid (LP (p.drop (k+1)) (SP d (R,Q,E))=D):=by
     show _=_;rw[<-S.l,YI p k (false,0,empty) (by rw[F];exact bE),<-HS.l,LP]
    have dN:=B.size;clear cB B;go_wp2;go_roundw
    case rel =>
     exact⟨k+1,_,v',ω,ν,by rw[SQ];exact M,UM d _ V.l,cT,aT,A.l.lowB bW.l ω,G.l.j (bW.l.z ω),by simp at dN;omega⟩
    case measure =>
     simp[intOf];omega
   have X:Hid (d=D):=by
    have:=S.l;rw[ED (by rw[F];omega)]at this;exact this
   clear S T K I H;obtain rfl:=X.l;obtain⟨⟨I,eL,eM⟩,E,B⟩:=LK V.l;have H:=Z (RA (ws:=d.2) λx u=>by have:=AV (B x u);omega);obtain⟨T,c2,hv,b⟩:=y.l.form H.l;rw[RL]at hv;have R:=y.l.rx.y 0;have o:=y.l.rx.y 1;rw[hv]at o;have cU:=Z b;clear I E B b;go_wp2_with fail;refine(mp (Mw g 0) (d.1.map LI) j.length j.length T (ME d.2) d.2.length c2 (by simp[M]) (RL _) _ y.l.pr.plt cU.l cI ω y.l.pr.len H.l).z ?_;rintro e w5 ⟨q,O,r,L,rfl,B,E,Q,u⟩;rw[mY,pA]at B;have b:=A.l.I u;have r0:=b.y 0;have r1:=b.y 1;obtain⟨dR,dU⟩:=b.z2;have cQ:=Z (Below.then G.l (AA _) u);have cV:=Z B;have dV:=G.l.size
   have I:Hid (∀g,blk q j.length=some g->w.heap.size+1<g):=λg t=>by have S:=E g t;omega
   have K:Hid (∀g,blk r d.2.length=some g->w.heap.size+1<g):=λg t=>by have S:=Q g t;omega
   clear B E Q u b R o;go_wp2;rw[M];have eG:d.1.length≠0:=ω
   have R:∀(E:Nb) (u:Nc) (i:Nat),OwnD E q d.1 r d.2->OwnD (E.setCell ⟨w.heap.size+1,i,none⟩ u) q d.1 r d.2:=λE u i B=>by
    refine⟨B.s.setp _ (λb o Q e=>?_) _,B.p.setp _ (λb o Q e=>?_) _,B.ne⟩
    ·have:=I.l b (by rw[o];exact NT b 0 _ ω)
     have B:w.heap.size+1=b:=e;omega
    have:=K.l b (by rw[o];exact NT b 0 _ (λB=>Q (by rw[AC B];rfl)))
    have B:w.heap.size+1=b:=e;omega
   refine AJ (v:=LF q j.length O r d.2.length L) (by simp[results,results122,go_sem,r0,r1]) rfl ⟨q,O,r,L,rfl,R _ _ _ (R _ _ _ cV.l),λg t=>by have:=I.l g t;omega,λg t=>by have:=K.l g t;omega,?_⟩;exact(cQ.l.setCell (by show w.heap.size<=w.heap.size+1;omega) _).setCell (by show w.heap.size<=w.heap.size+1;omega) _
theorem Et(a:M6)(d:List Y)(c:Nat)(j:M6)(i:List (Int×Y))(n:Nat)(f:M6)(b:List (Bool×Int×Y))(m:Nat)(z:Int)(w:Nb)(h:Strs w a d)(v:Wrs w j i)(y:Ops w f b)(q:b.length<=m)(r:b.length<=1048576)(t:∀x∈b,x.2.2.size<=1048576)(s:LE d i=true):Calls prog 122 #[LF a d.length c j i.length n,.slice f b.length m,.int .i64 z] w λe o=>∃k u l p,e=M3 (LF k (LP (b.take (RC z b.length)) (d,i)).1.length u l (LP (b.take (RC z b.length)) (d,i)).2.length p)/\OwnD o k (LP (b.take (RC z b.length)) (d,i)).1 l (LP (b.take (RC z b.length)) (d,i)).2/\(∀g,blk k (LP (b.take (RC z b.length)) (d,i)).1.length=some g->w.heap.size<=g)/\(∀g,blk l (LP (b.take (RC z b.length)) (d,i)).2.length=some g->w.heap.size<=g)/\Below w.heap.size w o:=by
 exact Dl a d c j i n f b m z _ w h v y q r rfl t s
theorem Jf(a:M6)(b:List Y)(c:Nat)(f:M6)(d:List (Int×Y))(k:Nat)(v z:Nc)(w:Nb)(h:Strs w a b)(p:Wrs w f d)(q:b.length<=1048576)(m:d.length<=1048576)(r:∀s∈b,s.size<=1048576)(o:∀x∈d,x.2.size<=1048576)(n:LE b d=false):Calls prog 122 #[LF a b.length c f d.length k,v,z] w λe g=>e=M3 (LF none 0 0 none 0 0)/\Below w.heap.size w g:=by
 have i:∀g j,Below w.heap.size w ((w.alloc g).alloc j):=λg j=>(LO _ _).alloc σ _
 go_enter func122,ntmps122;go_wp2_with fail;refine(NF a b c f d k _ (h.I (i _ _)) (p.I (i _ _)) q m r o).z ?_;rw[n];rintro e y ⟨rfl,j⟩;have l:=Z ((i _ _).j (j.z τ));have g:=(LM (w.alloc (.cells #[.slice a b.length c,.slice f d.length k] 26)) #[.slice none 0 0,.slice none 0 0] 26 (w.heap.size+1) σ).I j;have s:=g.y 0;have t:=g.y 1;obtain⟨u,x⟩:=g.z2;clear g j;go_wp2;exact AJ (v:=LF none 0 0 none 0 0) (by simp[results,results122,go_sem,s,t]) rfl ⟨rfl,(l.l.setCell (by show w.heap.size<=w.heap.size+1;omega) _).setCell (by show w.heap.size<=w.heap.size+1;omega) _⟩
def OQ(b:List Y)(c:List (Int×Y))(a:List (Bool×Int×Y))(z:Int):List Y×List (Int×Y):=if LE b c=true then LP (a.take (RC z a.length)) (b,c) else ([],[])
theorem Gx(a:M6)(d:List Y)(c:Nat)(j:M6)(i:List (Int×Y))(m:Nat)(f:M6)(b:List (Bool×Int×Y))(n:Nat)(z:Int)(w:Nb)(h:Strs w a d)(q:Wrs w j i)(D:Ops w f b)(r:b.length<=n)(u:b.length<=1048576)(y:∀x∈b,x.2.2.size<=1048576)(B:d.length<=1048576)(t:i.length<=1048576)(C:∀s∈d,s.size<=1048576)(v:∀x∈i,x.2.size<=1048576):Calls prog 122 #[LF a d.length c j i.length m,.slice f b.length n,.int .i64 z] w λe p=>∃k A l o,e=M3 (LF k (OQ d i b z).1.length A l (OQ d i b z).2.length o)/\OwnD p k (OQ d i b z).1 l (OQ d i b z).2/\(∀g,blk k (OQ d i b z).1.length=some g->w.heap.size<=g)/\(∀g,blk l (OQ d i b z).2.length=some g->w.heap.size<=g)/\Below w.heap.size w p:=by
 by_cases k:LE d i=true
 ·have l:OQ d i b z=LP (b.take (RC z b.length)) (d,i):=by simp[OQ,k]
  rw[l];exact Et a d c j i m f b n z w h q D r u y k
 have l:OQ d i b z=([],[]):=by simp[OQ,k]
 rw[l];refine(Jf a d c j i m _ _ w h q B t C v (by simpa using k)).z ?_;rintro e p ⟨rfl,s⟩;exact⟨none,0,none,0,rfl,⟨.inl rfl,.inl rfl,.inl rfl⟩,(λg o=>by cases o),(λg o=>by cases o),s⟩
structure Ev where
 K:Int
 b:List Ch
 cut:Int
 fs:List Int
def Wo.call(x:Wo)(e:Ev):Dd×Bool :=if e.K=1 then (OP x.ss x.ws x.w,!x.up)
 else if e.K=2 then (QE x.W x.S x.L x.T x.H x.F x.R x.U x.O x.rs e.b,x.up)
 else if e.K=3 then (RQ x.W x.S x.L x.T x.H x.F x.R x.U x.O x.rs,x.up)
 else if e.K=4 then (QX x.W x.S x.L x.T x.H x.F x.R x.U x.O x.rs,x.up)
 else (LX 0,false)
def Wo.pow(x:Wo)(a:List Int):Wo:={ x with ss:=MN a x.ss x.ws,ws:=[],up:=false,W:=0,S:=0,L:=0,T:=0,H:=0,F:=0,R:=0,U:=0,O:=0,rs:=[] }
def RF(e:Ev)(d:Dd):Bool:=decide (0<=e.cut/\e.cut<=d.ops.length)
def evN(e:Ev)(d:Dd):Nat:=if 0<=e.cut/\e.cut<=d.ops.length then e.cut.toNat else d.ops.length
theorem rh(e:Ev)(d:Dd):evN e d<=d.ops.length:=by unfold evN;split<;>omega
def ND(a:List OpT):List Y:=a.filterMap λo=>if o.1=true then none else some o.2.2
theorem Cc(l:List OpT)(o:OpT):ND (l++[o])=ND l++(if o.1=true then [] else [o.2.2]):=by
 unfold ND;rw[List.filterMap_append]
 by_cases h:o.1=true<;>simp[h]
theorem bj(l:List OpT):(ND l).length<=l.length:=List.length_filterMap_le _ _
def PW(x:Wo)(e:Ev)(d:Dd):List Y:=x.ts++ND (d.ops.take (evN e d))
def NW(x:Wo)(e:Ev)(d:Dd):List (List Pr):=if e.K=2 then x.P++[d.rs] else x.P
def Wo.ran(x:Wo)(e:Ev)(d:Dd):Wo:={ x with ss:=(OQ x.ss x.ws d.ops (evN e d)).1,ws:=(OQ x.ss x.ws d.ops (evN e d)).2,P:=NW x e d,ts:=PW x e d }
def Wo.upS(x:Wo)(d:Dd):Wo:={ x with up:=true,W:=d.W,S:=d.S,L:=d.L,T:=d.T,H:=d.H,F:=d.F,R:=d.R,U:=d.U,O:=d.O,rs:=d.rs }
def Wo.doE(x:Wo)(e:Ev):Wo :=if e.K=5 then x.pow e.fs
 else if (x.call e).2=false\/(x.call e).1.C≠0 then x
 else if 2000<(PW x e (x.call e).1).length\/200<(NW x e (x.call e).1).length then x
 else if RF e (x.call e).1=true then (x.ran e (x.call e).1).pow e.fs
 else if e.K=2 then (x.ran e (x.call e).1).upS (x.call e).1
 else { (x.ran e (x.call e).1).upS (x.call e).1 with P:=[(x.call e).1.rs] }
structure Wo.ok(x:Wo):Prop where
 d:LE x.ss x.ws=true\/(x.ss=[]/\x.ws=[])
 s:MU x.rs=true
 p:x.P.length<=200/\∀r∈x.P,MU r=true
 t:x.ts.length<=2000/\∀s∈x.ts,s.size<=64
theorem Wo.ok.le{x:Wo}(h:x.ok):x.le 1048576:=by
 have a:=VC h.s
 have b:(x.ss.length<=1048576/\∀s∈x.ss,s.size<=1048576)/\(x.ws.length<=1048576/\∀s∈x.ws,s.2.size<=1048576):=by
  rcases h.d with h|⟨c,d⟩
  ·obtain⟨⟨c,d,g⟩,e,f⟩:=LK h
   refine⟨⟨ω,λs a=>by have:=e s a;omega⟩,ω,λs a=>?_⟩;have:=AV (f s a);omega
  rw[c,d];simp
 exact⟨b.1.1,b.1.2,b.2.1,b.2.2,ω,a.2,by have:=h.p.1;omega,λr c=>by have:=VC (h.p.2 r c);exact⟨ω,this.2⟩,by have:=h.t.1;omega,λs a=>by have:=h.t.2 s a;omega⟩
theorem kp(k l m:Int)(p:Y)(n:Int):(MM k l m p n).size<=64:=by
 unfold MM
 split
 ·rename_i h
  have a:=AV (by unfold NQ at h;exact h);rw[ZN _ _ _ _ _ ω];exact AA _
 simp
theorem oK(s:Y)(l f:Int)(n m:Nat):∀p∈PG s l f n m,p.size<=64:=by
 unfold PG
 split
 ·intro p a
  obtain⟨i,_,rfl⟩:=DS.1 a;exact kp _ _ _ _ _
 simp
theorem vV(q:Int)(l:List Y)(h:∀p∈l,p.size<=64):∀o∈MP q l,o.2.2.size<=64:=by
 intro o a;obtain⟨i,b,rfl⟩:=List.mem_mapIdx.1 a;exact h _ (GL _)
theorem Kf(L F:Int)(n m:Nat)(a:List (List Ch)):∀p∈NM L F n m a,p.size<=64:=by
 have e:∀(a:List (List Ch)) (d:List Y),(∀p∈d,p.size<=64)->∀p∈a.foldl (yr L F n m) d,p.size<=64:=by
  intro a
  induction a with
  | nil=>intro d h;exact h
  | cons b a f =>
   intro d h;refine f _ ?_;unfold yr;intro p c;rcases BJ.1 c with c|c
   ·exact h p c
   exact oK _ _ _ _ _ p c
 refine e a _ ?_;intro p c;rw[BL.1 c];exact kp _ _ _ _ _
def Dd.ok(d:Dd):Prop:=MU d.rs=true/\d.ops.length<=1000/\∀o∈d.ops,o.2.2.size<=64
theorem bi(C:Int):(LX C).ok:=⟨UG,by simp[LX],by simp[LX]⟩
theorem uM(W S L T H F:Int)(b:List Pr)(h:MU b=true)(c:(PM W S L T H F b).ops.length<=1000):(PM W S L T H F b).ok:=by
 refine⟨?_,c,?_⟩<;>unfold PM<;>split
 ·exact h
 ·exact UG
 ·intro o a
  unfold XD at a;simp only[BJ,DY,EJ,GV]at a;rcases a with a|rfl|rfl|rfl
  ·exact vV _ _ (Kf _ _ _ _ _) o a
  ·simp
  ·show(MZ _ _ _ _ _).size<=64
   unfold MZ
   split
   ·exact kp _ _ _ _ _
   simp
  simp
 simp[LX]
theorem Bv(W S L T H F R U O:Int)(a:List Pr)(b:List Ch):(QE W S L T H F R U O a b).ok:=by
 have c:=(Bw W S L T H F R U O a b).2
 refine⟨?_,c,?_⟩<;>unfold QE<;>(repeat' split)<;>first|exact UG|(simp[LX];done)|skip
 ·rename_i h _ _
  show MU (PQ a b)=true;unfold PQ;rw[AE h];exact ZW h
 exact vV _ _ (oK _ _ _ _ _)
theorem Cm(W S L T H F R U O:Int)(b:List Pr):(RQ W S L T H F R U O b).ok:=by
 unfold RQ
 split
 ·rename_i h
  obtain⟨_,_,_,_,_,_,_,_,a⟩:=UD h
  exact⟨by first|exact a|exact a.1,σ,σ⟩
 exact bi 1
theorem L0(W S L T H F R U O:Int)(b:List Pr)(d:b.length<=1048576):(QX W S L T H F R U O b).ok:=by
 have a:=(Ko W S L T H F R U O b d).2;unfold QX at a⊢
 split
 ·rename_i h
  rw[AE h]at a;obtain⟨_,_,_,_,_,_,_,_,c⟩:=UD h;exact uM _ _ _ _ _ _ _ (by first|exact c|exact c.1) a
 exact bi 1
theorem Eq(b:List Y)(c:List (Int×Y))(n:Int):(OP b c n).ok:=by
 have a:=(yi b c n).2;unfold OP at a⊢
 split
 ·rename_i h
  rw[AE h]at a
  cases hf:NX (PB b c n).1 [] with
  | none=>exact bi 2
  | some j =>
   rw[hf]at a;have e:=dx _ _ UG _ hf;simp only at a⊢
   split
   ·exact bi 3
   rename_i f
   rw[AG f]at a
   split
   ·exact bi 4
   rename_i g
   rw[AG g]at a
   split
   ·rename_i i
    rw[AE i]at a;exact uM _ _ _ _ _ _ _ e a
   refine⟨e,σ,?_⟩
   intro o d;simp only[DY,EJ,GV]at d;rcases d with rfl|rfl
   ·exact kp _ _ _ _ _
   simp
 exact bi 1
theorem Wo.ok.call{x:Wo}(h:x.ok)(e:Ev):(x.call e).1.ok:=by
 have:=(VC h.s).1;unfold Wo.call
 split
 ·exact Eq _ _ _
 split
 ·exact Bv _ _ _ _ _ _ _ _ _ _ _
 split
 ·exact Cm _ _ _ _ _ _ _ _ _ _
 split
 ·exact L0 _ _ _ _ _ _ _ _ _ _ ω
 exact bi 0
theorem vi(zs:List Int):∀(hs:List (Int×List Int)) (i:Nat) (ps:List (List Int)),(∀p∈hs,p.2.length=64)->(∀p∈ps,p.length=64)->∀p∈OH zs i hs ps,p.length=64
 | [],_,_,_,h2=>h2
 | x::r,i,ps,h1,h2=>by
  rw[OH]
  by_cases hk:x.1.toNat<ps.length
  ·refine vi zs r (i+1) _ (λp hp=>h1 p (DO _ hp)) (λp hp=>?_)
   rcases FG hp with hp|rfl
   ·exact h2 p hp
   have e1:=h1 x EE
   have e2:=h2 (ps.getD x.1.toNat []) (by simp[List.getD,hk]);unfold TV;simp only[AF,AP,CU];omega
  rw[List.set_eq_of_length_le ω]
  exact vi zs r (i+1) _ (λp hp=>h1 p (DO _ hp)) h2
theorem Jb(e:List Int)(c:List Y)(d:List (Int×Y))(h:LE c d=true):∀s∈OI (OH e 0 (ME d) (c.map LI)),(s.size:Int)=64:=by
 obtain⟨_,f,g⟩:=LK h;intro s j;obtain⟨l,i,rfl⟩:=DS.1 j
 have:=vi e (ME d) 0 (c.map LI) (λp a=>by
  obtain⟨x,b,rfl⟩:=DS.1 a;have:=(QK (g x b)).2
  simp only[NH];omega) (λp a=>by
  obtain⟨x,b,rfl⟩:=DS.1 a;have:=f x b
  simp only[NH];omega) l i
 rw[CJ,this];rfl
theorem nK(a:List Int)(b:List Y)(c:List (Int×Y)):LE (MN a b c) []=true\/(MN a b c=[]/\([]:List (Int×Y))=[]):=by
 unfold MN
 split
 ·rename_i h
  refine .inl ?_;obtain⟨⟨e,f,g⟩,i,j⟩:=LK h;refine MQ ⟨by simp[OI,MR];omega,by simp[OI,MR];omega,σ⟩ (λs d=>?_) σ;exact Jb a b c h s d
 exact .inr ⟨rfl,rfl⟩
theorem Wo.ok.pow{x:Wo}(h:x.ok)(a:List Int):(x.pow a).ok:=⟨nK a x.ss x.ws,UG,h.p,h.t⟩
theorem mM(a:List Y)(b:List (Int×Y))(c:List OpT)(z:Int):LE (OQ a b c z).1 (OQ a b c z).2=true\/((OQ a b c z).1=[]/\(OQ a b c z).2=[]):=by
 unfold OQ
 split
 ·rename_i h;exact .inl (ZO _ (a,b) h)
 exact .inr ⟨rfl,rfl⟩
theorem Wo.ok.ran{x:Wo}(h:x.ok)(e:Ev){d:Dd}(j:d.ok)(c:(PW x e d).length<=2000/\(NW x e d).length<=200):(x.ran e d).ok:=by
 obtain⟨g,l,i⟩:=j
 have f:∀s∈PW x e d,s.size<=64:=by
  intro s b;rcases BJ.1 b with b|b
  ·exact h.t.2 s b
  obtain⟨o,k,a⟩:=List.mem_filterMap.1 b
  split at a
  ·cases a
  injection a with a
  rw[<-a];exact i o (DE k)
 have b:∀r∈NW x e d,MU r=true:=by
  unfold NW
  split
  ·intro r a
   rcases BJ.1 a with a|a
   ·exact h.p.2 r a
   rw[BL.1 a];exact g
  exact h.p.2
 exact⟨mM _ _ _ _,h.s,⟨c.2,b⟩,⟨c.1,f⟩⟩
theorem Wo.ok.doE{x:Wo}(h:x.ok)(e:Ev):(x.doE e).ok:=by
 have i:=h.call e;unfold Wo.doE;generalize (x.call e)=c at i⊢;obtain⟨d,l⟩:=c;obtain⟨b,f,g⟩:=i
 split
 ·exact h.pow _
 split
 ·exact h
 split
 ·exact h
 rename_i j
 simp only at j b f g⊢;have a:=h.ran e (d:=d) ⟨b,f,g⟩ ω
 split
 ·exact a.pow _
 split
 ·exact⟨a.d,b,a.p,a.t⟩
 exact⟨a.d,b,⟨σ,λr k=>by rw[BL.1 k];exact b⟩,a.t⟩
section
structure Only(o:Nat->Nat)(K:Nat->Prop)(w w':Nb):Prop where
 os:w'.os=w.os
 tape:w'.tape=w.tape
 output:w'.output=w.output
 size:w.heap.size<=w'.heap.size
 block:∀b,b<w.heap.size->¬K (o b)->w'.heap[b]?=w.heap[b]?
def OwL(w:Nb)(o:Nat->Nat)(k:Nat)(a:M6)(b:List Nc):Prop:=b=[]\/∃g,a=Mw g 0/\Row w g b/\o g=k
def PsR(w:Nb)(o:Nat->Nat)(p:M6)(n:Nat)(R:Nat->List Pr):Prop :=n=0\/∃b,p=Mw b 0/\b<w.heap.size/\o b=5/\∀i,i<n->∃a c,w.cell? ⟨b,i,none⟩=some (.slice a (R i).length c)/\OwL w o (7+i) a (MC (R i))
section
variable {w w' v:Nb} {o o':Nat->Nat} {k:Nat} {a p:M6} {cs:List Nc} {r:Option Nat} {K K':Nat->Prop} {n:Nat} {R R':Nat->List Pr} {rs:List Pr}
theorem Only.j(h:Only o K w w')(c:Only o K w' v):Only o K w v :=⟨c.os.j h.os,c.tape.j h.tape,c.output.j h.output,AK h.size c.size,λb d e=>(c.block b (AD d h.size) e).j (h.block b d e)⟩
theorem Only.z(h:Only o K w w')(d:∀k,K k->K' k):Only o K' w w':=⟨h.os,h.tape,h.output,h.size,λb c k=>h.block b c (λe=>k (d _ e))⟩
theorem sm(h:Below w.heap.size w w'):Only o K w w':=⟨h.os,h.tape,h.output,h.size,λb c _=>h.block b c⟩
theorem io(h:w.grownBy w' r)(d:∀g,r=some g->K (o g)):Only o K w w':=⟨h.os,h.tape,h.output,h.size,λb c k=>h.block b c (λe=>k (d b e.symm))⟩
theorem OwL.own(h:OwL w o k a cs):OwnS w a cs:=h.imp_right λ⟨g,e,h,_⟩=>⟨g,e,h⟩
theorem ud(h:OwnS w a cs)(e:∀g,a=Mw g 0->cs≠[]->o g=k):OwL w o k a cs:=by
 by_cases b:cs=[]
 ·exact .inl b
 obtain⟨g,c,d⟩:=h.resolve_left b
 exact .inr ⟨g,c,d,e g c b⟩
theorem OwL.only(h:OwL w o k a cs)(b:Only o K w w')(c:¬K k):OwL w' o k a cs :=h.imp_right λ⟨g,e,h,n⟩=>⟨g,e,MG h (b.block g h.lt (by rw[n];exact c)) (AD h.lt b.size),n⟩
theorem OwL.lab(h:OwL w o k a cs)(c:∀b,b<w.heap.size->o' b=o b):OwL w o' k a cs:=h.imp_right λ⟨g,e,h,n⟩=>⟨g,e,h,(c g h.lt).j n⟩
theorem OwL.gb{g m:Nat}(h:OwL w o k a cs)(c:cs=[]->m=0)(e:blk a m=some g):o g=k:=by
 rcases h with h|⟨b,rfl,h,n⟩
 ·rw[c h]at e;simp[blk]at e
 rw[QJ e];exact n
theorem OwL.prb{g:Nat}(h:OwL w o k a (MC rs))(e:blk a rs.length=some g):o g=k:=h.gb (λe=>by have:=CX List.length e;rw[XG,AR]at this;omega) e
theorem PsR.only(h:PsR w o p n R)(d:Only o K w w')(m:¬K 5)(q:∀i,¬K (7+i)):PsR w' o p n R :=h.imp_right λ⟨b,e,f,c,t⟩=>⟨b,e,AD f d.size,c,λi s=>by
  obtain⟨u,g,j,l⟩:=t i s
  exact⟨u,g,(DH (a:=⟨b,i,none⟩) (d.block b f (by rw[c];exact m))).j j,l.only d (q i)⟩⟩
theorem PsR.lab(h:PsR w o p n R)(f:∀b,b<w.heap.size->o' b=o b):PsR w o' p n R :=h.imp_right λ⟨b,e,d,c,q⟩=>⟨b,e,d,(f b d).j c,λi m=>by
  obtain⟨s,g,j,l⟩:=q i m
  exact⟨s,g,j,l.lab f⟩⟩
theorem PsR.congr(h:PsR w o p n R)(f:∀i,i<n->R i=R' i):PsR w o p n R' :=h.imp_right λ⟨b,e,g,c,j⟩=>⟨b,e,g,c,λi d=>by rw[<-f i d];exact j i d⟩
theorem PsR.put(h:PsR w o p n R){j:Nat}(H:j<n):∃b c f,p=Mw b 0/\b<w.heap.size/\w.cell? ⟨b,j,none⟩=some (.slice c (R j).length f)/\OwL w o (7+j) c (MC (R j))/\∀w' S,w.grownBy w' (blk c (R j).length)->OwnS w' c (MC S)->S.length=(R j).length->PsR w' o p n (λi=>if i=j then S else R i):=by
 obtain⟨b,e,s,z,C⟩:=h.resolve_left ω;obtain⟨c,f,y,q⟩:=C j H;refine⟨b,c,f,e,s,y,q,λw' S B I F=>.inr ⟨b,e,AD s B.size,z,λi G=>?_⟩⟩;have A:Only o (λk=>k=7+j) w w':=io B (λg k=>q.prb k);obtain⟨t,m,d,E⟩:=C i G;have u:=(DH (a:=⟨b,i,none⟩) (A.block b s (by rw[z];omega))).j d
 by_cases l:i=j
 ·subst l
  obtain⟨rfl,_,rfl⟩:t=c/\True/\m=f:=by rw[y]at d;injection d with d;injection d with i x D;exact⟨i.symm,trivial,D.symm⟩
  refine⟨t,m,?_,?_⟩
  ·simp only[IH];rw[F];exact u
  simp only[IH]
  exact ud I (λg i x=>q.gb (m:=1) (λe=>absurd (AC (by have:=CX List.length e;rw[XG,AR]at this;omega:S.length=0)) (λe=>x (by rw[e];rfl))) (by rw[i];rfl))
 refine⟨t,m,?_,?_⟩
 ·simp only[AG l];exact u
 simp only[AG l];exact E.only A ω
end
abbrev XJ(w:Nb)(o:Nat->Nat)(p:M6)(P:List (List Pr)):Prop:=PsR w o p P.length (λi=>P.getD i [])
theorem PsR.pst{w:Nb}{o:Nat->Nat}{p:M6}{P:List (List Pr)}(h:XJ w o p P):Pst w p P:=by
 rcases h with h|⟨b,e,g,l,j⟩
 ·exact .inl (AC h)
 refine .inr ⟨b,0,e,g,λi f=>?_⟩
 obtain⟨k,a,c,d⟩:=j i f;exact⟨k,a,by rw[BG];exact c,d.own.prs⟩
structure WoG(c1 c2 c3:List Nc)(n:Nat)(R:Nat->List Pr)(c5:List Nc)(w:Nb)(q:Wp)(o:Nat->Nat):Prop where
 h1:OwL w o 1 q.a c1
 h2:OwL w o 2 q.a' c2
 h3:OwL w o 3 q.s c3
 h4:PsR w o q.p n R
 h5:OwL w o 4 q.t c5
section
variable {c1 c2 c3:List Nc} {n:Nat} {R:Nat->List Pr} {c5:List Nc} {w w':Nb} {q:Wp} {o o':Nat->Nat} {K:Nat->Prop}
theorem WoG.only(h:WoG c1 c2 c3 n R c5 w q o)(b:Only o K w w')(a:∀k,K k->k=0):WoG c1 c2 c3 n R c5 w' q o :=⟨h.h1.only b (λk=>nomatch a _ k),h.h2.only b (λk=>nomatch a _ k),h.h3.only b (λk=>nomatch a _ k),h.h4.only b (λk=>nomatch a _ k) (λi k=>by have:=a _ k;omega),h.h5.only b (λk=>nomatch a _ k)⟩
theorem WoG.I(h:WoG c1 c2 c3 n R c5 w q o)(a:Below w.heap.size w w'):WoG c1 c2 c3 n R c5 w' q o:=h.only (sm (K:=λ_=>False) a) (λ_ k=>k.elim)
theorem WoG.J{g:Nat}(h:WoG c1 c2 c3 n R c5 w q o)(b:w.grownBy w' (some g))(a:o g=0):WoG c1 c2 c3 n R c5 w' q o:=h.only (io (K:=λk=>k=0) b (λ_ e=>by cases e;exact a)) (λ_ k=>k)
theorem WoG.lab(h:WoG c1 c2 c3 n R c5 w q o)(a:∀b,b<w.heap.size->o' b=o b):WoG c1 c2 c3 n R c5 w q o':=⟨h.h1.lab a,h.h2.lab a,h.h3.lab a,h.h4.lab a,h.h5.lab a⟩
end
abbrev RE(x:Wo)(w:Nb)(q:Wp)(o:Nat->Nat):Prop:=WoG (x.ss.map Value.string) (NP x.ws) (MC x.rs) x.P.length (λi=>x.P.getD i []) (x.ts.map Value.string) w q o
theorem WoG.at{x:Wo}{w:Nb}{q:Wp}{o:Nat->Nat}(h:RE x w q o):x.at w q:=⟨h.h1.own.strs,h.h2.own.wrs,h.h3.own.prs,PsR.pst h.h4,h.h5.own.strs⟩
end
section
def PstF(w:Nb)(F:Nat->Prop)(p:M6)(P:List (List Pr)):Prop :=P=[]\/∃b o,p=Mw b o/\b<w.heap.size/\F b/\∀i,i<P.length->∃a c,w.cell? ⟨b,o+i,none⟩=some (.slice a (P.getD i []).length c)/\DepF w F (λW=>Prs W a (P.getD i []))
section
variable {w w':Nb} {F G:Nat->Prop} {p:M6} {P:List (List Pr)}
theorem PstF.step(h:PstF w F p P)(a:Below 0 w w')(e:∀b,F b->b<w.heap.size->w'.heap[b]?=w.heap[b]?):PstF w' F p P:=by
 rcases h with h|⟨b,o,g,c,d,j⟩
 ·exact .inl h
 refine .inr ⟨b,o,g,AD c a.size,d,λi m=>?_⟩
 obtain⟨n,f,k,l⟩:=j i m;exact⟨n,f,(DH (a:=⟨b,o+i,none⟩) (e b d c)).j k,l.step a e⟩
theorem PstF.z(h:PstF w F p P)(hF:∀b,b<w.heap.size->F b->G b):PstF w G p P:=by
 rcases h with h|⟨b,o,d,a,e,f⟩
 ·exact .inl h
 refine .inr ⟨b,o,d,a,hF b a e,λi k=>?_⟩
 obtain⟨l,c,g,j⟩:=f i k;exact⟨l,c,g,j.z hF⟩
theorem PstF.pst(h:PstF w F p P):Pst w p P:=by
 rcases h with h|⟨b,o,c,d,l,e⟩
 ·exact .inl h
 refine .inr ⟨b,o,c,d,λi j=>?_⟩
 obtain⟨k,a,f,g⟩:=e i j;exact⟨k,a,f,g.q⟩
theorem PstF.I(h:PstF w F p P)(a:Below w.heap.size w w'):PstF w' F p P:=h.step (a.z (AM _)) (λb _ c=>a.block b c)
end
structure WoF(x:Wo)(w:Nb)(F:Nat->Prop)(q:Wp):Prop where
 h1:DepF w F (λW=>Strs W q.a x.ss)
 h2:DepF w F (λW=>Wrs W q.a' x.ws)
 h3:DepF w F (λW=>Prs W q.s x.rs)
 h4:PstF w F q.p x.P
 h5:DepF w F (λW=>Strs W q.t x.ts)
section
variable {x:Wo} {w w':Nb} {F G:Nat->Prop} {q:Wp}
theorem WoF.step(h:WoF x w F q)(a:Below 0 w w')(c:∀b,F b->b<w.heap.size->w'.heap[b]?=w.heap[b]?):WoF x w' F q:=⟨h.h1.step a c,h.h2.step a c,h.h3.step a c,h.h4.step a c,h.h5.step a c⟩
theorem WoF.I(h:WoF x w F q)(a:Below w.heap.size w w'):WoF x w' F q:=h.step (a.z (AM _)) (λb _ c=>a.block b c)
theorem WoF.J{r:Option Nat}(h:WoF x w F q)(a:w.grownBy w' r)(f:∀g,r=some g->¬F g):WoF x w' F q :=h.step (NR a (AM _) (λ_ _=>AM _)) (λb c d=>a.block b d (λe=>f b e.symm c))
theorem WoF.z(h:WoF x w F q)(hF:∀b,b<w.heap.size->F b->G b):WoF x w G q:=⟨h.h1.z hF,h.h2.z hF,h.h3.z hF,h.h4.z hF,h.h5.z hF⟩
theorem WoF.at(h:WoF x w F q):x.at w q:=⟨h.h1.q,h.h2.q,h.h3.q,h.h4.pst,h.h5.q⟩
end
def ju(w a:Nb)(F:Nat->Prop)(e:Ending)(x:Wo):Prop:=∃q,e=M3 (MB x q)/\WoF x a (λb=>F b\/w.heap.size<=b) q/\Below w.heap.size w a
theorem Gc{w:Nb}{F:Nat->Prop}{p:M6}{P:List (List Pr)}(h:PstF w F p P):∃a:List Nc,a.length=P.length/\(∀u∈a,u.oneCell'=true)/\(∀i,i<P.length->∃d f,a[i]?=some (.slice d (P.getD i []).length f)/\DepF w F (λW=>Prs W d (P.getD i [])))/\(P=[]\/∃b o,p=Mw b o/\b<w.heap.size/\∀i u,a[i]?=some u->w.cell? ⟨b,o+i,none⟩=some u):=by
 rcases h with h|⟨b,o,k,l,m,g⟩
 ·exact⟨[],by simp[h],σ,by simp[h],.inl h⟩
 have n:∀i,i<P.length->∃u,w.cell? ⟨b,o+i,none⟩=some u:=λi a=>by obtain⟨d,f,c,_⟩:=g i a;exact⟨_,c⟩
 refine⟨(List.range P.length).map λi=>(w.cell? ⟨b,o+i,none⟩).getD undef,σ,λu j=>?_,λi a=>?_,.inr ⟨b,o,k,l,λi u j=>?_⟩⟩
 ·obtain⟨i,a,rfl⟩:=DS.1 j
  obtain⟨d,f,c,_⟩:=g i (GP.1 a);rw[c];rfl
 ·obtain⟨d,f,c,e⟩:=g i a
  exact⟨d,f,by simp[a,c],e⟩
 obtain⟨a,e⟩:=DJ.1 j
 simp only[BU,KJ]at a;obtain⟨d,f,c,_⟩:=g i a;rw[<-e];simp[c]
theorem WA(w:Nb)(o:Obj):Below w.heap.size w (w.alloc o):=LO _ _
theorem fg(b j:Nat):(⟨b,0,none⟩:Addr).add j=⟨b,j,none⟩:=by unfold Addr.add;split<;>simp_all
theorem jn(x:Int)(a:-9223372036854775808<=x)(b:x<=9223372036854775807):IntKind.i64.wrap x=x:=by
 simp[IntKind.wrap,IntKind.bits,IntKind.signed];omega
theorem oY{w:Nb}{g i:Nat}{v:Nc}(h:w.cell? ⟨g,i,none⟩=some v):g<w.heap.size:=by
 by_cases a:g<w.heap.size
 ·exact a
 simp[World.cell?,DU (by omega:w.heap.size<=g)]at h
theorem iq{w:Nb}{a:Nat}{e:TypeId}{c:Nat}{g n d:Nat}{i:List Nc}(h:w.ownsRow a e c (.slice (Mw g 0) n d) n i):a<=g:=by
 rcases h.2 with h|⟨k,j,f,b,l,_⟩
 ·cases h.1
 injection b with b
 injection b with b;injection b with b;omega
theorem K0{P:Program}{w:Nb}{F:Nat->Prop}{p:M6}{Q:List (List Pr)}(h:PstF w F p Q)(t e:TypeId)(g:P.underlying t=some (.slice e))(c:Nat):∃a,(∀d,Below w.heap.size w d->Src P 1 t (.slice p Q.length c) Q.length a d)/\a.length=Q.length/\(∀i,i<Q.length->∃b f,a[i]?=some (.slice b (Q.getD i []).length f)/\DepF w F (λW=>Prs W b (Q.getD i []))):=by
 obtain⟨a,i,k,l,f⟩:=Gc h;refine⟨a,λd n=>?_,i,l⟩;rcases f with f|⟨b,o,rfl,q,m⟩
 ·subst f
  have:a=[]:=AC i;subst this
  cases p with
  | none=>exact Src.ofNil d g c
  | some x=>exact Src.ofSlice d g x 0 c [] σ σ σ
 refine Src.ofSlice d g ⟨b,o,none⟩ Q.length c a ω (λj u r=>?_) k
 have d:(⟨b,o,none⟩:Addr).add j=⟨b,o+j,none⟩:=by unfold Addr.add;split<;>simp_all
 rw[d];exact(n.cell (p:=⟨b,o+j,none⟩) q).j (m j u r)
theorem ki{w:Nb}{F G:Nat->Prop}{g:Nat}{P:List (List Pr)}{a:List Pr}{news:List Nc}{f:M6}{k:Nat}(q:news.length=P.length)(h:∀i,i<P.length->∃b c,news[i]?=some (.slice b (P.getD i []).length c)/\DepF w F (λW=>Prs W b (P.getD i [])))(d:Row w g (news++[.slice f a.length k]))(o:F g)(n:DepF w F (λW=>Prs W f a)):PstF w F (Mw g 0) (P++[a]):=by
 refine .inr ⟨g,0,rfl,d.lt,o,λi p=>?_⟩;rw[AF,EU]at p
 by_cases j:i<P.length
 ·obtain⟨b,c,l,m⟩:=h i j
  have e:(P++[a]).getD i []=P.getD i []:=by simp[List.getD,BC j]
  rw[e,BG];exact⟨b,c,d.cell i _ (by rw[BC ω];exact l),m⟩
 obtain rfl:i=P.length:=ω
 have e:(P++[a]).getD P.length []=a:=by simp[List.getD]
 rw[e,BG];exact⟨f,k,d.cell _ _ (by rw[<-q];simp),n⟩
theorem qJ{w:Nb}{F:Nat->Prop}{g:Nat}{a:List Pr}{oa:M6}{oc:Nat}(e:Row w g [.slice oa a.length oc])(c:F g)(b:DepF w F (λW=>Prs W oa a)):PstF w F (Mw g 0) [a] :=ki (G:=F) (P:=[]) (news:=[]) rfl (λi d=>absurd d σ) e c b
theorem nH{P:Program}{w:Nb}(t h e:TypeId)(i:TypeInfo)(z:Nc)(a k:Nat)(m:P.underlying t=some (.slice e))(l:P.info? e=some i)(A:i.zero=some z)(o:i.size=a)(r:i.bytes=k)(u:z.cells.size=a)
  (b B:Nat)(x:w.ownsRow B e a (.slice (Mw b 0) 0 0) 0 [])(v:Nc)(n:Nat)(c:List Nc)(d:Src P a t v n c w)(C:n<=1048576)(q:n*k<=281474976710656)(y:B<=w.heap.size):∃g f j,(Builtin.append_ #[t,t] h #[.slice (Mw b 0) 0 0,v]).run P w=.ok (.slice (Mw g 0) n f) j/\j.ownsRow B e a (.slice (Mw g 0) n f) n c/\(g=b\/g=w.heap.size)/\Below w.heap.size w j:=by
 subst o r
 by_cases s:n=0
 ·subst s
  have g:c=[]:=AC (by have:=d.newsLen;omega);subst g;have f:=run_append_room_src (P:=P) w t t h e i m l b 0 0 0 v 0 [] d ω σ σ;exact⟨_,_,_,f,x,.inl rfl,AB _ _⟩
 have p:(Builtin.firstCells i.size 0 (.slice (Mw b 0) 0 0)).run P w.drew=.ok ([]:List Nc).toArray w.drew:=GI w.drew i.size 0 _ 0 0 [] σ σ
 have f:=run_append_grow_src (P:=P) w t t h e i z m l A (Mw b 0) 0 0 [] p v n c d ω ω (by rw[BG,mQ n ω];exact q);refine⟨_,_,_,by rw[f,BG],?_,.inr rfl,(AB _ _).drew.alloc (AA _) _⟩;have g:=JG w (0+n) 0 e;have j:=IG w (0+n) 0 e (by unfold maxLen;omega);rw[BG]at g j;refine⟨d.newsLen,.inr ⟨w.heap.size,_,_,rfl,y,AU w.drew _,g,j,?_,?_⟩⟩
 ·simp[KF,d.newsLen,u]
  rw[<-GJ]
  congr 1
  omega
 simp[d.newsLen]
theorem oI{P:Program}{w:Nb}{m:Array Oper}{l:List Oper}{o:Oper}{a:Act}{Q:Exit->Act->Nb->Prop}(A:o.guard=none)(s x:Operand)(t:TypeId)
  (M:o.op=.call { callee:=.builtin .append,args:=#[s,x],argTypes:=#[t,t] })(e:TypeId)(i:TypeInfo)(z:Nc)(c k:Nat)(O:P.underlying t=some (.slice e))(J:P.info? e=some i)(S:i.zero=some z)(p:i.size=c)(y:i.bytes=k)(C:z.cells.size=c)
  (b B:Nat)(N:a.eval s=.slice (Mw b 0) 0 0)(D:w.ownsRow B e c (.slice (Mw b 0) 0 0) 0 [])(v:Nc)(R:a.eval x=v)(n:Nat)(d:List Nc)(r:Src P c t v n d w)(L:n<=1048576)(u:n*k<=281474976710656)(H:B<=w.heap.size)
  (h:∀g f j,j.ownsRow B e c (.slice (Mw g 0) n f) n d->(g=b\/g=w.heap.size)->Below w.heap.size w j->wpList P m Q l (a.put o.dst (.slice (Mw g 0) n f)) j):wpList P m Q (o::l) a w:=by
 refine IW A λK I=>?_
 obtain⟨g,f,j,q,E,F,G⟩:=nH (P:=P) (w:=w) t o.type e i z c k O J S p y C b B D v n d r L u H;unfold Oper.wp;simp[execOp,M,resolve,invoke,builtin,N,R,q,Result.andThen];exact I _ _ (h g f j E F G)
theorem yk{P:Program}{w:Nb}{l:Array Oper}{o:Oper}{a:Act}{K:Act->Nb->Prop}{Q:Exit->Act->Nb->Prop}{E:Prop}(y:o.guard=none)(s x:Operand)(t:TypeId)
  (L:o.op=.call { callee:=.builtin .append,args:=#[s,x],argTypes:=#[t,t] })(e:TypeId)(i:TypeInfo)(z:Nc)(c k:Nat)(N:P.underlying t=some (.slice e))(I:P.info? e=some i)(S:i.zero=some z)(m:i.size=c)(u:i.bytes=k)(A:z.cells.size=c)
  (b B:Nat)(M:a.eval s=.slice (Mw b 0) 0 0)(C:w.ownsRow B e c (.slice (Mw b 0) 0 0) 0 [])(v:Nc)(R:a.eval x=v)(n:Nat)(d:List Nc)(q:Src P c t v n d w)(J:n<=1048576)(r:n*k<=281474976710656)(H:B<=w.heap.size)
  (h:∀g f j,j.ownsRow B e c (.slice (Mw g 0) n f) n d->(g=b\/g=w.heap.size)->Below w.heap.size w j->K (a.put o.dst (.slice (Mw g 0) n f)) j):if Region.wanted o (yielded l a.tmps)=true then Oper.wp P o a w K Q else E:=by
 have O:Region.wanted o (yielded l a.tmps)=true:=by simp[Region.wanted,y]
 rw[AE O];obtain⟨g,f,j,p,D,F,G⟩:=nH (P:=P) (w:=w) t o.type e i z c k N I S m u A b B C v n d q J r H;unfold Oper.wp;simp[execOp,L,resolve,invoke,builtin,M,R,p,Result.andThen];exact h g f j D F G
end
theorem MO:(prog.info? 36).map (·.size)=some 16:=κ
theorem PstF.J{w c:Nb}{F:Nat->Prop}{p:M6}{P:List (List Pr)}{r:Option Nat}(h:PstF w F p P)(a:w.grownBy c r)(i:∀g,r=some g->¬F g):PstF c F p P :=h.step (NR a (AM _) (λ_ _=>AM _)) (λb d f=>a.block b f (λe=>i b e.symm d))
theorem aw:(prog.info? 33).map (·.size)=some 10:=κ
section
theorem uE{a:List Y}(h:a.map Value.string=[]):a.length=0:=by have:=CX List.length h;simpa using this
theorem zj{b:List (Int×Y)}(h:NP b=[]):b.length=0:=by
 cases b with
 | nil=>rfl
 | cons a l=>simp[NP]at h
theorem OwL.other{w d:Nb}{o:Nat->Nat}{k:Nat}{a:M6}{c b:List Nc}(h:OwL w o k a c)(l:OwnS d a b)(e:b≠[]->c≠[]):OwL d o k a b :=ud l (λg f i=>h.gb (m:=1) (λj=>absurd j (e i)) (by rw[f];rfl))
theorem OwL.apart{w:Nb}{o:Nat->Nat}{k i m c:Nat}{a b:M6}{f d:List Nc}(h:OwL w o k a f)(n:OwL w o i b d)(p:k≠i)(q:f=[]->m=0)(j:d=[]->c=0):blk a m=none\/blk b c=none\/blk a m≠blk b c:=by
 cases e:blk a m with
 | none=>exact .inl rfl
 | some g=>exact .inr (.inr λl=>p ((h.gb q e).symm.j (n.gb j l.symm)))
theorem Row.only{w c:Nb}{o:Nat->Nat}{K:Nat->Prop}{g:Nat}{a:List Nc}(r:Row w g a)(b:Only o K w c)(d:¬K (o g)):Row c g a:=MG r (b.block g r.lt d) (AD r.lt b.size)
section
variable (x:Wo) (q:Wp) (o:Nat->Nat) (w:Nb)
end
end
theorem xi{s:Y}{l f:Int}{n m N k:Nat}(d:1<=n/\n<=8)(c:n+m=56)(h:1<=l/\l<=60000/\1<=f/\f+(N:Int)<=1000000001)(b:k<N):(RY s l f n m N k).size=64:=by
 unfold RY MM;have e:(s.extract (k*m) (k*m+m)).size<=m:=by rw[AO];omega
 have a:NQ (if k+1=N then 2 else 1) l (f+(k:Int)) (s.extract (k*m) (k*m+m)) (n:Int)=true:=by
  unfold NQ;refine AL ?_
  split<;>omega
 rw[AE a,ZN _ _ _ _ _ τ]
theorem Al{W S L T H F R U O:Int}{rs:List Pr}{b:List Ch}(h:(QE W S L T H F R U O rs b).C=0):∃a d c,(QE W S L T H F R U O rs b).ops=(false,a,d)::c/\0<=a/\a<S/\d.size=64:=by
 unfold QE at h⊢
 split at h
 ·rename_i e
  rw[AE e];rw[AX]at e;obtain⟨⟨o,p⟩,k,v,y,r,u,u1,w,x⟩:=UD e.1
  split at h
  ·rename_i m
   rw[AE m]
   split at h
   ·rename_i n
    rw[AE n]
    split at h
    ·rename_i i
     rw[AE i];have t:=QM k;have s:2*hv S+2<=S:=by unfold hv;rw[AE k];omega
     obtain⟨N,f⟩:∃N,N=OG (LT b).size (56-W.toNat):=⟨_,rfl⟩
     have l:OR (LT b).size W=(N:Int):=by
      unfold OR;rw[AE ⟨o,p⟩,f,show(56-W).toNat=56-W.toNat by omega]
     have q:1<=N:=by
      rw[f];unfold OG;split
      ·exact AA 1
      exact Nat.le_add_left 1 _
     rw[l]at i;have g:1<=L/\L<=60000/\1<=F+U/\F+U+(N:Int)<=1000000001:=ω
     show ∃a d c,MP (2+H*hv S+U) (PG (LT b) L (F+U) W.toNat (56-W.toNat))=(false,a,d)::c/\0<=a/\a<S/\d.size=64;rw[XZ f g];obtain⟨M,rfl⟩:∃M,N=M+1:=⟨N-1,ω⟩;have j:H=0\/H=1:=ω
     refine⟨_,_,_,by unfold MP QH;rw[List.range_succ_eq_map,IK,List.mapIdx_cons],?_,?_,xi ω ω g ω⟩
     ·rcases j with rfl|rfl<;>simp<;>omega
     rcases j with rfl|rfl<;>simp<;>omega
    exact absurd h (by simp[LX])
   exact absurd h (by simp[LX])
  exact absurd h (by simp[LX])
 exact absurd h (by simp[LX])
theorem Ms{a:List Y}{b:List (Int×Y)}{n:Int}(h:(OP a b n).C=0):(OP a b n).S=a.length:=by
 unfold OP at h⊢
 split at h
 ·rename_i f
  rw[AE f]
  split at h
  ·exact absurd h (by simp[LX])
  rename_i i g
  by_cases c:60000<(PB a b n).2.2+1
  ·rw[AE c]at h;exact absurd h (by simp[LX])
  rw[AG c]at h⊢
  by_cases d:hv a.length-1<MJ (MD i) n
  ·rw[AE d]at h;exact absurd h (by simp[LX])
  rw[AG d]at h⊢
  by_cases k3:hv a.length<=(PB a b n).2.1
  ·rw[AE k3]at h⊢
   unfold PM at h⊢
   by_cases e:WG (a.length:Int) (NJ a b n).1 (NJ a b n).2.2.1=true
   ·rw[AE e];rfl
   rw[AG e]at h;exact absurd h (by simp[LX])
  rw[AG k3]
 exact absurd h (by simp[LX])
theorem tH{a:List Y}{b:List (Int×Y)}(h:LE a b=true)(c:List OpT)(z:Int):LE (OQ a b c z).1 (OQ a b c z).2=true/\(OQ a b c z).1.length=a.length:=by
 have d:(OQ a b c z).1.length=a.length:=by unfold OQ;rw[AE h,qF]
 have e:=(LK h).1.1;refine⟨(mM a b c z).resolve_right (λk=>?_),d⟩;rw[k.1]at d;simp at d;omega
theorem Lb{x:Wo}{e:Ev}(h:(x.call e).1.C=0)(a:(x.call e).2=true)(d:x.up=true->x.S=x.ss.length):(x.call e).1.S=x.ss.length:=by
 unfold Wo.call at h a⊢
 by_cases f:e.K=1
 ·rw[AE f]at h⊢;exact Ms h
 rw[AG f]at h a⊢
 by_cases g:e.K=2
 ·rw[AE g]at h a⊢
  rw[<-d a];show(QE x.W x.S x.L x.T x.H x.F x.R x.U x.O x.rs e.b).S=x.S;replace h:(QE x.W x.S x.L x.T x.H x.F x.R x.U x.O x.rs e.b).C=0:=h;unfold QE at h⊢
  split at h
  ·rename_i b;rw[AE b]
   split at h
   ·rename_i c;rw[AE c]
    split at h
    ·rename_i j;rw[AE j]
     split at h
     ·rename_i k;rw[AE k]
     exact absurd h (by simp[LX])
    exact absurd h (by simp[LX])
   exact absurd h (by simp[LX])
  exact absurd h (by simp[LX])
 rw[AG g]at h a⊢
 by_cases k3:e.K=3
 ·rw[AE k3]at h a⊢
  rw[<-d a];show(RQ x.W x.S x.L x.T x.H x.F x.R x.U x.O x.rs).S=x.S;replace h:(RQ x.W x.S x.L x.T x.H x.F x.R x.U x.O x.rs).C=0:=h;unfold RQ at h⊢
  split at h
  ·rename_i b;rw[AE b]
  exact absurd h (by simp[LX])
 rw[AG k3]at h a⊢
 by_cases i:e.K=4
 ·rw[AE i]at h a⊢
  rw[<-d a];show(QX x.W x.S x.L x.T x.H x.F x.R x.U x.O x.rs).S=x.S;replace h:(QX x.W x.S x.L x.T x.H x.F x.R x.U x.O x.rs).C=0:=h;unfold QX at h⊢
  split at h
  ·rename_i b;rw[AE b]
   unfold PM at h⊢
   split at h
   ·rename_i c;rw[AE c];rfl
   exact absurd h (by simp[LX])
  exact absurd h (by simp[LX])
 rw[AG i]at a
 exact absurd a σ
theorem gk{a:List Y}{b:List (Int×Y)}(h:LE a b=true)(c:List Int):LE (MN c a b) []=true/\(MN c a b).length=a.length:=by
 have d:(MN c a b).length=a.length:=by unfold MN OI;rw[AE h];simp[MR]
 have e:=(LK h).1.1;refine⟨(nK c a b).resolve_right (λk=>?_),d⟩;rw[k.1]at d;simp at d;omega
structure Wo.good(x:Wo)(N:Nat):Prop where
 ok:x.ok
 d:LE x.ss x.ws=true
 n:x.ss.length=N
 u:x.up=true->x.S=x.ss.length
theorem Wo.good.pow{x:Wo}{N:Nat}(h:x.good N)(a:List Int):(x.pow a).good N :=⟨h.ok.pow a,(gk h.d a).1,(gk h.d a).2.j h.n,λk=>by cases k⟩
theorem Wo.good.doE{x:Wo}{N:Nat}(h:x.good N)(e:Ev):(x.doE e).good N:=by
 refine⟨h.ok.doE e,?_,?_,?_⟩
 all_goals
  obtain⟨D,l⟩:∃D,D=x.call e:=⟨_,rfl⟩;have d:=Lb (x:=x) (e:=e);unfold Wo.doE;rw[<-l]at d⊢;have a:=tH h.d D.1.ops (evN e D.1)
  by_cases i:e.K=5
  ·rw[AE i]
   first|exact(h.pow e.fs).d|exact(h.pow e.fs).n|exact(h.pow e.fs).u
  rw[AG i]
  by_cases b:D.2=false\/D.1.C≠0
  ·rw[AE b]
   first|exact h.d|exact h.n|exact h.u
  rw[AG b]
  have m:D.2=true:=by
   cases hd2:D.2 with
   | true=>rfl
   | false=>exact absurd (.inl hd2) b
  have j:D.1.C=0:=Decidable.not_not.1 (λk=>b (.inr k));have c:=d j m h.u
  by_cases f:2000<(PW x e D.1).length\/200<(NW x e D.1).length
  ·rw[AE f]
   first|exact h.d|exact h.n|exact h.u
  rw[AG f]
  by_cases k3:RF e D.1=true
  ·rw[AE k3]
   first|exact(gk a.1 e.fs).1|exact((gk a.1 e.fs).2.j a.2).j h.n|(intro k;cases k)
  rw[AG k3]
  by_cases g:e.K=2
  ·rw[AE g]
   first|exact a.1|exact a.2.j h.n|(intro _;exact c.j (by rw[show((x.ran e D.1).upS D.1).ss.length=x.ss.length from a.2]))
  ·rw[AG g]
   first|exact a.1|exact a.2.j h.n|(intro _;exact c.j (CX Nat.cast (show x.ss.length=((x.ran e D.1).upS D.1).ss.length from a.2.symm)))
section
theorem XK(w:Nb)(X i:Nat)(v:Nc):w.grownBy (w.setCell ⟨X,i,none⟩ v) (some X) :=⟨rfl,rfl,rfl,by rw[BH];exact AA _,λj b a=>BF _ _ _ _ (λe=>a (CX some e))⟩
theorem Dep.setc{w:Nb}{b a:Nat}{F:Nb->Prop}(h:Dep w b a F)(X i:Nat)(v:Nc)(c:X<b\/a<=X):Dep (w.setCell ⟨X,i,none⟩ v) b a F :=h.J (XK w X i v) (λg e=>by cases e;exact c)
theorem zt{w:Nb}{B:Nat}{e:TypeId}{k:Nat}{a:M6}{m c:Nat}{i:List Nc}(h:w.ownsRow B e k (.slice a m c) m i):Dep w B w.heap.size (λW=>W.ownsRow B e k (.slice a m c) m i):=by
 refine⟨h,AA _,λs l r=>?_⟩;rcases h.2 with n|⟨g,b,d,p,j,k3,q⟩
 ·exact⟨h.1,.inl n⟩
 have o:g<w.heap.size:=by
  rcases GF g w.heap.size with f|f
  ·exact f
  rw[DU f]at k3;cases k3
 exact⟨h.1,.inr ⟨g,b,d,p,j,(l g j o).j k3,q⟩⟩
theorem pU{w:Nb}{b a:Nat}{F G:Nb->Prop}(h:Dep w b a F)(f:∀W,F W->G W):Dep w b a G:=⟨f _ h.q,h.top,λe c d=>f _ (h.keep e c d)⟩
theorem Ax{w:Nb}{B:Nat}{e:TypeId}{a:M6}{m c:Nat}{o:List Ch}(h:w.ownsRow B e 3 (.slice a m c) o.length (NL o)):Chs w a o:=by
 rcases NU h with ⟨b,d⟩|⟨g,f,b,d⟩
 ·exact .inl (AC d)
 cases b
 exact(TE h).chs
theorem xR{w:Nb}{B:Nat}{e:TypeId}{a:M6}{m c:Nat}{b:List Int}(h:w.ownsRow B e 1 (.slice a m c) b.length (b.map (Value.int .i64))):Ints w a b:=by
 rcases NU h with ⟨d,f⟩|⟨g,k,d,f⟩
 ·exact .inl (AC f)
 cases d
 have j:=TE h;exact .inr ⟨g,0,rfl,j.lt,λi l=>by rw[BG];exact j.cell i _ (by simp[List.getD,l])⟩
structure EvD(w0 w:Nb)(R:Nat)(a:M6)(n c:Nat)(q:Int)(K:Int)(ba:M6)(bc:Nat)(b:List Ch)(cut:Int)(hi:Nat)(y:Nc)(fs:List Int):Prop where
 x:BdX w0 w 3 1 R a n c q y fs.length (fs.map (Value.int .i64)) (w0.heap.size+1) [.int .i64 K,.slice ba b.length bc,.int .i64 cut,y]
 bt:Dep w (w0.heap.size+2) hi (λW=>Chs W ba b)
 rb:Row w w0.heap.size [.int .i64 0,.slice none 0 0,.int .i64 0,.slice none 0 0]
 yo:∀g,y.ownBlock=some g->hi<=g
 eh:w0.heap.size+2<=hi
section
variable {w0 w w':Nb} {R:Nat} {a:M6} {n c:Nat} {q q':Int} {K K':Int} {ba:M6} {bc:Nat} {b:List Ch} {cut:Int} {hi:Nat} {y:Nc} {fs:List Int}
theorem EvD.rd(h:EvD w0 w R a n c q K ba bc b cut hi y fs):Rdr w R a n c q:=h.x.s.rd
theorem EvD.pick(h:EvD w0 w R a n c q K ba bc b cut hi y fs)(f:Rdr w' R a n c q')(d:w.grownBy w' (some R)):EvD w0 w' R a n c q' K ba bc b cut hi y fs :=⟨h.x.pick f d,h.bt.J d (λg e=>by cases e;have:=h.x.s.lR;omega),h.rb.J d (λe=>by have:=h.x.s.lR;injection e with e;omega),h.yo,h.eh⟩
theorem EvD.I(h:EvD w0 w R a n c q K ba bc b cut hi y fs)(d:Below w.heap.size w w'):EvD w0 w' R a n c q K ba bc b cut hi y fs :=⟨h.x.I d,h.bt.I d,h.rb.I d,h.yo,h.eh⟩
theorem EvD.drew(h:EvD w0 w R a n c q K ba bc b cut hi y fs):EvD w0 w.drew R a n c q K ba bc b cut hi y fs:=h.I (AB _ _).drew
theorem EvD.lt(h:EvD w0 w R a n c q K ba bc b cut hi y fs):w0.heap.size+2<=w.heap.size:=by have:=h.x.row.lt;omega
theorem EvD.kind(h:EvD w0 w R a n c q K ba bc b cut hi y fs)(k:Int):EvD w0 (w.setCell ⟨w0.heap.size+1,0,none⟩ (.int .i64 k)) R a n c q k ba bc b cut hi y fs :=⟨h.x.set 0 σ _,h.bt.setc _ _ _ (.inl ω),h.rb.J (XK _ _ _ _) (λe=>by injection e with e;omega),h.yo,h.eh⟩
theorem EvD.cutTo(h:EvD w0 w R a n c q K ba bc b cut hi y fs)(k:Int):EvD w0 (w.setCell ⟨w0.heap.size+1,2,none⟩ (.int .i64 k)) R a n c q K ba bc b k hi y fs :=⟨h.x.set 2 σ _,h.bt.setc _ _ _ (.inl ω),h.rb.J (XK _ _ _ _) (λe=>by injection e with e;omega),h.yo,h.eh⟩
theorem EvD.batch{bs:List Ch}{d:M6}{f:Nat}(h:EvD w0 w R a n c q K none 0 [] cut hi (.slice none 0 0) [])(m:Rdr w' R a n c q')(j:w.grownBy w' (some R))(l:w'.ownsRow w.heap.size 171 3 (.slice d bs.length f) bs.length (NL bs)):EvD w0 (w'.setCell ⟨w0.heap.size+1,1,none⟩ (.slice d bs.length f)) R a n c q' K d f bs cut w'.heap.size (.slice none 0 0) []:=by
 have i:=h.pick m j;have o:=h.lt;have p:=j.size;refine⟨i.x.set 1 σ _,?_,i.rb.J (XK _ _ _ _) (λe=>by injection e with e;omega),λg e=>(by cases e),ω⟩;exact((pU (zt l) λW k=>Ax k).wide ω (AA _) (AA _)).setc _ _ _ (.inl ω)
theorem EvD.fate{z:Int}{g d H:Nat}(h:EvD w0 w R a n c q K ba bc b cut hi y fs)(o:w'.ownsRow w0.heap.size 3 1 (.slice (Mw g 0) (fs.length+1) d) (fs.length+1) (fs.map (Value.int .i64)++[.int .i64 z]))(f:w.grownBy w' y.ownBlock)(p:y.ownBlock=some g\/g=H)(x:w.heap.size<=H):EvD w0 (w'.setCell ⟨w0.heap.size+1,3,none⟩ (.slice (Mw g 0) (fs.length+1) d)) R a n c q K ba bc b cut hi (.slice (Mw g 0) (fs.length+1) d) (fs++[z]):=by
 have A:=h.lt;have B:=h.bt.top;have v:hi<=g:=by rcases p with e|e;exact h.yo g e;omega
 have t:=h.eh;have i:(Value.slice (Mw g 0) (fs.length+1) d).ownBlock=some g:=rfl
 have u:(Value.slice (Mw g 0) (fs.length+1) d).ownBlock≠some (w0.heap.size+1):=λe=>by rw[i]at e;injection e with e;omega
 have r:(fs++[z]).map (Value.int .i64)=fs.map (Value.int .i64)++[.int .i64 z]:=σ
 have s:(fs++[z]).length=fs.length+1:=σ
 have P:=h.x.s.push o f;have j:=h.x.row.J f (λe=>h.x.xo e.symm);have l:BdX w0 w' 3 1 R a n c q (.slice (Mw g 0) (fs.length+1) d) (fs.length+1) (fs.map (Value.int .i64)++[.int .i64 z]) (w0.heap.size+1) [.int .i64 K,.slice ba b.length bc,.int .i64 cut,y]:=⟨P,j,u,h.x.xb⟩;have m:=l.set 3 σ (.slice (Mw g 0) (fs.length+1) d);refine⟨by rw[r,s];exact m,(h.bt.J f (λk e=>.inr (h.yo k e))).setc _ _ _ (.inl ω),(h.rb.J f (λe=>by have:=h.yo _ e.symm;omega)).J (XK _ _ _ _) (λe=>by injection e with e;omega),λk e=>by rw[i]at e;injection e with e;omega,t⟩
theorem EvD.fin{j:M6}{m l:Nat}(h:EvD w0 w R a n c q K ba bc b cut hi (.slice j m l) fs)(p:m=fs.length)(d:Nb)(e:d=(((w.setCell ⟨w0.heap.size,0,none⟩ (.int .i64 K)).setCell ⟨w0.heap.size,1,none⟩ (.slice ba b.length bc)).setCell ⟨w0.heap.size,2,none⟩ (.int .i64 cut)).setCell ⟨w0.heap.size,3,none⟩ (.slice j m l)):Row d w0.heap.size [.int .i64 K,.slice ba b.length bc,.int .i64 cut,.slice j m l]/\Dep d w0.heap.size d.heap.size (λW=>Chs W ba b)/\Dep d w0.heap.size d.heap.size (λW=>Ints W j fs)/\Rdr d R a n c q/\w0.grownBy d (some R):=by
 subst p;have o:=(((h.rb.set 0 σ (.int .i64 K)).set 1 σ (.slice ba b.length bc)).set 2 σ (.int .i64 cut)).set 3 σ (.slice j fs.length l);have G:=QG (QG (QG (XK w w0.heap.size 0 (.int .i64 K)) (XK _ w0.heap.size 1 (.slice ba b.length bc))) (XK _ w0.heap.size 2 (.int .i64 cut))) (XK _ w0.heap.size 3 (.slice j fs.length l));rw[<-e]at o G;have s:=h.lt;have t:=G.size;have f:Below w0.heap.size w d:=NR G ω (λg e=>by cases e;exact AA _);have r:=h.x.s.own.kept G (.inr (λe=>by have:=h.yo _ e;have:=h.eh;omega))
 refine⟨o,(h.bt.J G (λg e=>by cases e;exact .inl ω)).wide ω (by have:=h.bt.top;omega) (AA _),pU (zt r) λW k=>xR k,h.rd.keep (N:=w0.heap.size) h.x.s.lR h.x.s.ga f,?_⟩
 have g:=h.x.s.gr;exact⟨f.os.j g.os,f.tape.j g.tape,f.output.j g.output,AK g.size f.size,λi hi o=>(f.block i hi).j (g.block i hi o)⟩
end
end
section
theorem ox(a n:Int):MV MI a n=none:=by
 have h:MA MI n=none:=by
  apply YM
  rintro⟨e,f,c,g,b⟩
  have d:TO (MI.extract n.toNat 64)=0:=by
   obtain⟨k,rfl⟩:∃k:Nat,n=(k:Int):=⟨n.toNat,ω⟩;have:k=1\/k=2\/k=3\/k=4\/k=5\/k=6\/k=7\/k=8:=ω
   rcases this with rfl|rfl|rfl|rfl|rfl|rfl|rfl|rfl<;>decide
  rw[d]at b;unfold MM at b;rw[AG (by unfold NQ;simp)]at b;rw[<-b]at c;exact absurd c δ
 unfold MV;rw[h]
theorem nE(h f:Int):(SU h f).size=5:=by
 unfold SU;rw[BN];rfl
structure RoOk(t h f l n:Int):Prop where
 t0:1<=t
 t1:t<=1000000000
 hf:UL h f
 l0:1<=l
 l1:l<=60000
 n0:1<=n
 n1:n<=8
section
variable {t h f l n:Int}
theorem RoOk.page(x:RoOk t h f l n):NQ 4 l t (SU h f) n=true:=by
 have:=x.t0;have:=x.t1;have:=x.l0;have:=x.l1;have:=x.n0;have:=x.n1;unfold NQ;rw[nE];refine AL ⟨x.n0,x.n1,ω,ω,x.l0,x.l1,x.t0,x.t1,ω,ω⟩
theorem RoOk.form(x:RoOk t h f l n):MZ t h f l n=SL 4 l t (SU h f) n.toNat:=by
 unfold MZ MM;rw[AE x.hf,AE x.page]
theorem Fh(a:(MZ t h f l n).size≠0):RoOk t h f l n:=by
 unfold MZ at a
 split at a
 ·rename_i b
  unfold MM at a
  split at a
  ·rename_i c
   have:=AV c;exact⟨this.2.2.2.2.2.2.1,this.2.2.2.2.2.2.2.1,b,this.2.2.2.2.1,this.2.2.2.2.2.1,this.1,this.2.1⟩
  exact absurd rfl a
 exact absurd rfl a
theorem RoOk.res(x:RoOk t h f l n):MA (MZ t h f l n) n=some (4,l,t,SU h f):=by
 have:=x.n0;obtain⟨k,rfl⟩:∃k:Nat,n=(k:Int):=⟨n.toNat,ω⟩;rw[x.form];exact te 4 l t _ k x.page
theorem RoOk.size(x:RoOk t h f l n):(MZ t h f l n).size=64:=(SA x.res).1
theorem yP(a b:Y):LI (a++b)=LI a++LI b:=by
 unfold LI;simp
theorem RoOk.parts(x:RoOk t h f l n):RU (SU h f)=h/\RK (SU h f)=f:=by
 obtain⟨b,g,i,j⟩:=x.hf;have c:LI (strOfNums (be 1 h))=be 1 h:=kh _ (dm 1 h);have d:LI (strOfNums (be 4 f))=be 4 f:=kh _ (dm 4 f);have a:(be 1 h).length=1:=rfl;have e:(be 4 f).length=4:=rfl;unfold RU RK SU;rw[yP,c,d]
 constructor
 ·rw[EQ a]
  exact qi h b ω
 rw[FJ a,AQ (by rw[e];omega)]
 exact nV f ω ω
theorem RoOk.root(x:RoOk t h f l n)(a:Int):MV (MZ t h f l n) a n=if t % 2=a then some (t,h,f,l) else none:=by
 unfold MV;rw[x.res];show(if _ then _ else _)=_;rw[x.parts.1,x.parts.2]
 by_cases b:t % 2=a
 ·rw[AE b,AE ⟨nE h f,rfl,b⟩]
 rw[AG b,AG (λk=>b k.2.2)]
end
def z20:List Y:=List.replicate 20 MI
theorem zw:z20.length=20:=by simp[z20]
theorem Bq{s:Y}(h:s∈z20):s=MI:=by
 unfold z20 at h;exact List.eq_of_mem_replicate h
theorem Fd(a:List (Int×Y))(e:a.length<=300)(c:∀x∈a,(x.1=0\/x.1=1)/\x.2.size=64):LE z20 a=true:=by
 refine MQ (by rw[zw];omega) (λs b=>by rw[Bq b];decide) (λx d=>?_);have:=c x d;rw[zw];refine AL ?_;omega
section
variable {t h f l n:Int}
theorem mb(a:List (Int×Y))(d:a.length<=300)(e:∀x∈a,(x.1=0\/x.1=1)/\x.2.size=64)(b:1<=n)(c:n<=8):NJ z20 a n=OC ((xhE a z20).getD 0 empty) ((xhE a z20).getD 1 empty) n:=by
 unfold NJ;rw[AE ⟨Fd a d e,b,c⟩]
theorem VQ(t:Int):t % 2=0\/t % 2=1:=ω
theorem RoOk.e(x:RoOk t h f l n):NJ z20 [(t % 2,MZ t h f l n)] n=(t,h,f,l):=by
 have b:=x.t0;rw[mb _ σ (λy a=>by rw[BL.1 a];exact⟨VQ t,x.size⟩) x.n0 x.n1];rcases VQ t with e|e<;>rw[e]
 ·show OC (MZ t h f l n) MI n=_
  unfold OC;rw[ox,x.root,AE e];show(if (0:Int)<t then _ else _)=_;rw[AE ω]
 show OC MI (MZ t h f l n) n=_
 unfold OC;rw[ox,x.root,AE e];show(if (0:Int)<t then _ else _)=_;rw[AE ω]
theorem RoOk.up{a c b d:Int}(x:RoOk t h f l n)(y:RoOk a c b d n)(j:a=t+1):NJ z20 [(t % 2,MZ t h f l n),(a % 2,MZ a c b d n)] n=(a,c,b,d):=by
 have i:=x.t0;rw[mb _ σ (λz e=>by simp only[DY,EJ,GV]at e;rcases e with rfl|rfl;exact⟨VQ t,x.size⟩;exact⟨VQ a,y.size⟩) x.n0 x.n1];rcases VQ t with e|e
 ·have g:a % 2=1:=ω
  rw[e,g];show OC (MZ t h f l n) (MZ a c b d n) n=_;unfold OC;rw[y.root,x.root,AE e,AE g];show(if (if (0:Int)<t then (t,h,f,l) else (0,0,1,0)).1<a then _ else _)=_;rw[AE (by omega:(0:Int)<t),AE (by show t<a;omega)]
 have g:a % 2=0:=ω
 rw[e,g];show OC (MZ a c b d n) (MZ t h f l n) n=_;unfold OC;rw[y.root,x.root,AE e,AE g];show(if (if (0:Int)<a then (a,c,b,d) else (0,0,1,0)).1<t then _ else (if (0:Int)<a then (a,c,b,d) else (0,0,1,0)))=_;rw[AE (by omega:(0:Int)<a),AG (by show ¬a<t;omega)]
theorem RoOk.down{a d c g:Int}(x:RoOk t h f l n)(y:RoOk a d c g n)(k:a=t-1):NJ z20 [(t % 2,MZ t h f l n),(a % 2,MZ a d c g n)] n=(t,h,f,l):=by
 have i:=x.t0;have j:=y.t0;rw[mb _ σ (λz b=>by simp only[DY,EJ,GV]at b;rcases b with rfl|rfl;exact⟨VQ t,x.size⟩;exact⟨VQ a,y.size⟩) x.n0 x.n1];rcases VQ t with e|e
 ·have b:a % 2=1:=ω
  rw[e,b];show OC (MZ t h f l n) (MZ a d c g n) n=_;unfold OC;rw[y.root,x.root,AE e,AE b];show(if (if (0:Int)<t then (t,h,f,l) else (0,0,1,0)).1<a then _ else (if (0:Int)<t then (t,h,f,l) else (0,0,1,0)))=_;rw[AE (by omega:(0:Int)<t),AG (by show ¬t<a;omega)]
 have b:a % 2=0:=ω
 rw[e,b];show OC (MZ a d c g n) (MZ t h f l n) n=_;unfold OC;rw[y.root,x.root,AE e,AE b];show(if (if (0:Int)<a then (a,d,c,g) else (0,0,1,0)).1<t then _ else _)=_;rw[AE (by omega:(0:Int)<a),AE (by show a<t;omega)]
theorem RoOk.wrong{a c b d:Int}(x:RoOk t h f l n)(y:RoOk a c b d n)(g:a=t+1):NJ z20 [(t % 2,MZ t h f l n),(t % 2,MZ a c b d n)] n=(0,0,1,0):=by
 rw[mb _ σ (λz e=>by simp only[DY,EJ,GV]at e;rcases e with rfl|rfl;exact⟨VQ t,x.size⟩;exact⟨VQ t,y.size⟩) x.n0 x.n1];rcases VQ t with e|e<;>rw[e]
 ·show OC (MZ a c b d n) MI n=_
  unfold OC;rw[ox,y.root,AG ω];rfl
 show OC MI (MZ a c b d n) n=_
 unfold OC;rw[ox,y.root,AG ω];rfl
end
end
theorem lz:∀(a b:List OpT) (d:List Y×List (Int×Y)),LP (a++b) d=LP b (LP a d)
 | [],_,_=>rfl
 | o::r,b,d=>by rw[EI,LP,LP,lz r b]
theorem Ay(a:List Y):(a.map LI).map strOfNums=a:=by
 rw[IE];exact JR (λs=>TM s) a
theorem nz{a:List Y}(h:LE a []=true)(b:List Int):MN b a []=a:=by
 unfold MN;rw[AE h];show OI (a.map LI)=a;exact Ay a
def whole(n:Nat):List Int:=(List.range n).map λi=>64+((i % 2:Nat):Int)
def sec(D:List Y)(k:Nat):Y:=D.getD k empty
theorem ky{S S':Nat->Y}{frm:Nat}{F n:Int}:∀(U i:Nat) (wk wl:Int) (op:Y) (out:Scd),(∀j,i<=j->j<i+U->S (frm+j)=S' (frm+j))->ML S frm F n U i wk wl op out=ML S' frm F n U i wk wl op out
 | 0,_,_,_,_,_,_=>rfl
 | U+1,i,wk,wl,op,out,h=>by
  have ih:=λwk wl op out=>ky (F:=F) (n:=n) U (i+1) wk wl op out (λj h1 h2=>h j ω ω)
  rw[ML,ML,h i ω ω];simp only[ih]
def Log(S:Nat->Y)(a:Nat)(F n:Int)(U:Nat)(R L:Int)(b:List Y):Prop:=ML S a F n U 0 0 R empty ([],0,R)=(b,(U:Int),L)
theorem ye{S:Nat->Y}{b:Nat}{F n:Int}{q:List Y}{L:Int}:∀(U i:Nat) (j o:Int) (g:Y) (a:Scd),a.2.1<=(i:Int)->ML S b F n U i j o g a=(q,((i+U:Nat):Int),L)->U=0\/∃k,k≠1/\∀f,ML S b F n (U+f) i j o g a=ML S b F n f (i+U) k L empty (q,((i+U:Nat):Int),L)
 | 0,_,_,_,_,_,_,_=>.inl rfl
 | U+1,i,j,o,g,a,ho,h=>by
  right
  have d:a≠(q,((i+(U+1):Nat):Int),L):=λe=>by rw[e]at ho;simp at ho;omega
  rw[ML]at h
  cases hr:MA (S (b+i)) n with
  | none=>rw[hr]at h;exact absurd h d
  | some x =>
   obtain⟨k,l,m,p⟩:=x;rw[hr]at h;simp only at h
   by_cases c:IntKind.i64.wrap (m-(i:Int))=F/\PD j o k l=true
   ·rw[AE c]at h
    by_cases e:k=1
    ·subst e
     rw[AE rfl]at h;have:=ye U (i+1) 1 l (g++p) a ω (by rw[h,show i+1+U=i+(U+1) by omega]);rcases this with r|⟨u,s,t⟩
     ·subst r
      rw[ML]at h;exact absurd h d
     refine⟨u,s,λf=>?_⟩
     rw[show U+1+f=(U+f)+1 by omega,XL hr c.1 c.2,t f,show i+1+U=i+(U+1) by omega]
    rw[AG e]at h
    have:=ye U (i+1) k l empty (if k=2 then a.1++[g++p] else a.1,(i:Int)+1,l) (by show(i:Int)+1<=_;omega) (by rw[h,show i+1+U=i+(U+1) by omega]);rcases this with r|⟨u,s,t⟩
    ·subst r
     rw[ML]at h;refine⟨k,e,λf=>?_⟩;rw[show 0+1+f=f+1 by omega,WC hr c.1 c.2 e,h];have v:l=L:=by have:=CX (λx=>x.2.2) h;exact this
     rw[v]
    refine⟨u,s,λf=>?_⟩
    rw[show U+1+f=(U+f)+1 by omega,WC hr c.1 c.2 e,t f,show i+1+U=i+(U+1) by omega]
   rw[AG c]at h;exact absurd h d
theorem Log.reach{S:Nat->Y}{a:Nat}{F n:Int}{U:Nat}{R L:Int}{d:List Y}(h:Log S a F n U R L d):∃k,k≠1/\∀f,ML S a F n (U+f) 0 0 R empty ([],0,R)=ML S a F n f U k L empty (d,(U:Int),L):=by
 have:=ye U 0 0 R empty ([],0,R) σ (by rw[BG];exact h);rcases this with e|⟨k,b,c⟩
 ·subst e
  unfold Log at h;rw[ML]at h;obtain⟨b,c⟩:=IR h;have g:R=L:=(IR c).2;subst b g;exact⟨0,δ,λf=>by rw[BG];rfl⟩
 exact⟨k,b,λf=>by rw[c f,BG]⟩
theorem Log.congr{S S':Nat->Y}{a:Nat}{F n:Int}{U:Nat}{R L:Int}{b:List Y}(h:Log S a F n U R L b)(c:∀j,j<U->S (a+j)=S' (a+j)):Log S' a F n U R L b:=by
 unfold Log at h⊢;rw[<-ky (S:=S) U 0 0 R empty ([],0,R) (λj _ d=>c j ω)];exact h
theorem Log.stop{S:Nat->Y}{a:Nat}{F n:Int}{U:Nat}{R L:Int}{b:List Y}(h:Log S a F n U R L b)(q:Nat)(o:U<=q)(g:U<q->∀k l m p,MA (S (a+U)) n=some (k,l,m,p)->l<L\/IntKind.i64.wrap (m-(U:Int))≠F):ML S a F n q 0 0 R empty ([],0,R)=(b,(U:Int),L):=by
 obtain⟨k,j,e⟩:=h.reach;obtain⟨f,rfl⟩:∃f,q=U+f:=⟨q-U,ω⟩;rw[e f]
 cases f with
 | zero=>rfl
 | succ f =>
  cases hp:MA (S (a+U)) n with
  | none=>exact dy hp
  | some x =>
   obtain⟨i,l,m,p⟩:=x;refine ZT hp (λd=>?_);rcases g ω i l m p hp with c|c
   ·have:=d.2
    unfold PD at this;rw[AX]at this;have:=AV this.1;omega
   exact c d.1
theorem Log.entry{S:Nat->Y}{a:Nat}{F:Int}{n m:Nat}{U:Nat}{R L b:Int}{c:List Y}(h:Log S a F (n:Int) U R L c)(e:Y)(N:Nat)(l:n+m=56)(o:1<=n/\n<=8)(j:1<=b/\b<=60000)(d:L<=b)(q:1<=F/\F+(U:Int)+(N:Int)<=1000000001)(f:N=OG e.size m)(g:∀k,k<N->S (a+(U+k))=RY e b (F+(U:Int)) n m N k):Log S a F (n:Int) (U+N) R b (c++[e]):=by
 obtain⟨k,i,p⟩:=h.reach;unfold Log;rw[p N];have:=Mr S a F n m e b N U l o j ω ω f g 0 (c,(U:Int),L) k L i d;rw[FX]at this;rw[this,ML]
theorem kw(n:Nat)(d:1<=n/\n<=8)(L f:Int)(c:1<=L/\L<=60000)(b:1<=f/\f<=1000000000):MA (MM 3 L f empty (n:Int)) (n:Int)=some (3,L,f,empty):=by
 have a:NQ 3 L f empty (n:Int)=true:=by
  unfold NQ;rw[AT];have e:empty.size=0:=rfl;exact⟨ω,ω,ω,ω,ω,ω,ω,ω,by rw[e];omega,λ_=>e⟩
 unfold MM;rw[AE a,BM];exact te _ _ _ _ n a
theorem Log.life{S:Nat->Y}{a:Nat}{F:Int}{n:Nat}{U:Nat}{R L L':Int}{b:List Y}(h:Log S a F (n:Int) U R L b)(j:1<=n/\n<=8)(i:1<=L'/\L'<=60000)(d:L<=L')(o:1<=F/\F+(U:Int)<=1000000000)(e:S (a+U)=MM 3 L' (F+(U:Int)) empty (n:Int)):Log S a F (n:Int) (U+1) R L' b:=by
 obtain⟨k,g,l⟩:=h.reach;unfold Log;rw[l 1];have c:=kw n j L' (F+(U:Int)) i ω;rw[<-e]at c
 have m:IntKind.i64.wrap (F+(U:Int)-(U:Int))=F:=by
  have:=xd F ω U 0;simpa using this
 have f:PD k L 3 L'=true:=by unfold PD;simp[d,g]
 rw[WC c m f δ,AG δ];rfl
def QN(b:Nat)(a:List Y):List (Int×Y):=a.mapIdx λi p=>(((b+i:Nat):Int),p)
theorem mZ(b:Nat)(a:List Y)(p:Y):QN b (a++[p])=QN b a++[(((b+a.length:Nat):Int),p)]:=by simp[QN,List.mapIdx_append]
theorem nX(b:Nat)(a:List Y):(QN b a).length=a.length:=by simp[QN]
theorem de:∀(a b:List (Int×Y)) (ss:List Y),xhE (a++b) ss=xhE b (xhE a ss)
 | [],_,_=>rfl
 | x::a,b,ss=>by rw[EI,xhE,xhE,de a b]
theorem kr(D:List Y)(i:Nat)(p:Y)(j:Nat)(a:i<D.length):sec (D.set i p) j=if j=i then p else sec D j:=by
 unfold sec
 by_cases h:j=i
 ·subst h;simp[List.getD,a]
 rw[AG h];simp[List.getD,FR (IV h)]
theorem mo(b:Nat)(D:List Y):∀(k:Nat) (c:List Y),c.length=k->b+k<=D.length->∀j,sec (xhE (QN b c) D) j=if b<=j/\j<b+k then c.getD (j-b) empty else sec D j
 | 0,c,hp,_,j=>by rw[AC hp,AG ω];rfl
 | k+1,c,hp,hl,j=>by
  obtain⟨p,d,rfl⟩:∃p d,c=d++[p]:=by
   rcases ET c with h|⟨l,a,h⟩
   ·subst h;simp at hp
   exact⟨a,l,by simpa using h⟩
  have e:d.length=k:=by simp at hp;omega
  rw[mZ,oU,kr _ _ _ _ (by rw[VT];simp;omega),mo b D k d e ω j];simp only[BM]
  by_cases h:j=b+d.length
  ·rw[AE h,AE ω,h,Nat.add_sub_cancel_left];simp
  rw[AG h]
  by_cases a:b<=j/\j<b+k
  ·rw[AE a,AE ω]
   simp[List.getD,BC (show j-b<d.length by omega)]
  rw[AG a,AG ω]
theorem iy(b:Nat):∀(k:Nat) (c:List Y) (d:List Y) (f:List (Int×Y)),c.length=k->b+k<=d.length->f.length+k<=300->(∀p∈c,p.size=64)->LP (MP (b:Int) c) (d,f)=(d,f++QN b c)
 | 0,c,d,f,e,_,_,_=>by rw[AC e];simp[MP,LP,QN]
 | k+1,c,d,f,e,hl,hw,h64=>by
  obtain⟨p,g,rfl⟩:∃p g,c=g++[p]:=by
   rcases ET c with h|⟨l,a,h⟩
   ·subst h;simp at e
   exact⟨a,l,by simpa using h⟩
  have a:g.length=k:=by simp at e;omega
  rw[og,lz,iy b k g d f a ω ω (λp e=>h64 p (by simp[e])),mZ];rw[LP,LP,OX _ _ ?_ (by simp[nX];omega)]
  ·simp
  show PL d.length ((b:Int)+(g.length:Int),p)=true
  have:=h64 p σ;unfold PL;rw[AT];exact⟨by simp only;omega,by simp only;omega,by simp only;omega⟩
theorem su{S:Nat->Y}{frm:Nat}{F:Int}{n m:Nat}{R L:Int}(f:n+m=56)(g:1<=n/\n<=8)(d:1<=L/\L<=60000)(i:R<=L)(hF:1<=F):∀(k:Nat) (c:List (List Ch)),c.length=k->F+1+MJ c (n:Int)<=1000000000->(∀j,j<(NM L F n m c).length->S (frm+j)=(NM L F n m c).getD j empty)->Log S frm F (n:Int) (NM L F n m c).length R L (c.map LT)/\((NM L F n m c).length:Int)=1+MJ c (n:Int)
 | 0,c,hb,hF2,hS=>by
  rw[AC hb]at hS hF2⊢;rw[ZX]at hS⊢;have a:Log S frm F (n:Int) 0 R R []:=rfl;have b:=sf (n:=(n:Int));refine⟨a.life g d i ω ?_,by rw[b];simp⟩;have:=hS 0 σ;rw[this];simp
 | k+1,c,hb,hF2,hS=>by
  obtain⟨b,bs,rfl⟩:∃b bs,c=bs++[b]:=by
   rcases ET c with h|⟨l,a,h⟩
   ·subst h;simp at hb
   exact⟨a,l,by simpa using h⟩
  rw[gj]at hF2⊢;have q:=jh (LT b).size (n:Int) ω ω;have l:bs.length=k:=by simp at hb;omega
  rw[ex]at hS⊢
  have o:=su (S:=S) (frm:=frm) f g d i hF k bs l ω (λj a=>by
   rw[hS j (by rw[AF];omega)]
   simp[List.getD,BC a])
  obtain⟨h,r⟩:=o;have e:(56-(n:Int)).toNat=m:=ω
  have p:=xj (LT b) L (F+((NM L F n m bs).length:Int)) n m f ω ω d ω ω;have s:OR (LT b).size (n:Int)=(OG (LT b).size m:Int):=by unfold OR;rw[AE ω,e]
  have a:=XZ (s:=LT b) (l:=L) (f:=F+((NM L F n m bs).length:Int)) (n:=n) (m:=m) rfl ω;rw[AF];rw[a]at hS⊢;rw[WW];refine⟨?_,ω⟩;rw[DK];refine h.entry (LT b) (OG (LT b).size m) f g d (Int.le_refl _) ω rfl (λk j=>?_);rw[hS _ (by rw[AF,WW];omega)];rw[<-xh (LT b) L (F+((NM L F n m bs).length:Int)) n m _ k j];simp[List.getD,DG]
theorem tf:∀(es:List Y) (s r:List Pr) (e:Y) (b:List Ch),NX es s=some r->SX e=some b->PO r b=0->NX (es++[e]) s=some (NB r b)
 | [],s,r,e,b,h,hr,hc=>by
  cases h
  show NX [e] s=_;rw[jx hr hc];rfl
 | x::es,s,r,e,b,h,hr,hc=>by
  show NX (x::(es++[e])) s=_
  cases hx:SX x with
  | none=>rw[tw hx]at h;cases h
  | some y =>
   by_cases h0:PO s y=0
   ·rw[jx hx h0]at h⊢
    exact tf es _ r e b h hr hc
   rw[ux hx h0]at h;cases h
theorem nW{b:List Ch}(h:PA b=true):SX (LT b)=some b:=by unfold LT;rw[AE h];exact E9 b h
theorem nR{a:List Pr}(h:MU a=true):NX ((MD a).map LT) []=some a:=by
 have d:∀k,k*20<a.length+20->NX (((List.range k).map (PC a)).map LT) []=some (a.take (k*20)):=by
  intro k
  induction k with
  | zero=>intro _;simp[NX]
  | succ k e =>
   intro f;rw[FT,DK,DK];obtain⟨c,b⟩:=yW h k ω;have:=tf _ _ _ (LT (PC a k)) (PC a k) (e ω) (nW (vL h k ω)) c;rw[show([k].map (PC a)).map LT=[LT (PC a k)] by rfl,this];unfold PQ at b;rw[AE c]at b;rw[b]
 unfold MD TL;rw[AE h,CW,d _ ω,AQ ω]
def bsN(H:Int)(q:Nat):Nat:=(2+H*(q:Int)).toNat
theorem gx(q:Nat):bsN 0 q=2:=by simp[bsN]
theorem ip(q:Nat):bsN 1 q=2+q:=by simp[bsN];omega
theorem ti{H:Int}(h:H=0\/H=1)(q:Nat):((bsN H q:Nat):Int)=2+H*(q:Int):=by
 rcases h with rfl|rfl
 ·rw[gx];simp
 rw[ip];simp
theorem Cg(b:RtT)(o:Option RtT):b.1<=(QB b o).1:=by
 cases o with
 | none=>exact Int.le_refl _
 | some r=>show b.1<=(if b.1<r.1 then r else b).1;split<;>omega
theorem sH(b r:RtT):r.1<=(QB b (some r)).1:=by show r.1<=(if b.1<r.1 then r else b).1;split<;>omega
theorem du{b r:RtT}(h:b.1<r.1):QB b (some r)=r:=AE h
theorem sn{b:RtT}{o:Option RtT}(h:∀r,o=some r->r.1<=b.1):QB b o=b:=by
 cases o with
 | none=>rfl
 | some r=>exact AG (by have:=h r rfl;omega)
theorem wO{a b:Y}{n T H F R:Int}(h:OC a b n=(T,H,F,R)):(∀r,MV a 0 n=some r->r.1<=T)/\∀r,MV b 1 n=some r->r.1<=T:=by
 have c:(OC a b n).1=T:=by rw[h]
 unfold OC at c
 constructor
 ·intro r d
  rw[d]at c;have e:=sH (0,0,1,0) r;have f:=Cg (QB (0,0,1,0) (some r)) (MV b 1 n);omega
 intro r d
 rw[d]at c;have e:=sH (QB (0,0,1,0) (MV a 0 n)) r;omega
theorem G0{f g:Y}{n T H F R:Int}(h:OC f g n=(T,H,F,R)){c b L:Int}(x:RoOk (T+1) c b L n)(k:0<=T):OC (if (T+1) % 2=0 then MZ (T+1) c b L n else f) (if (T+1) % 2=0 then g else MZ (T+1) c b L n) n=(T+1,c,b,L):=by
 obtain⟨i,j⟩:=wO h;rcases VQ (T+1) with e|e
 ·rw[AE e,AE e]
  have a:=x.root 0;rw[AE e]at a;unfold OC;rw[a,du (show(0:Int)<T+1 by omega)]
  exact sn λr d=>by have:=j r d;show r.1<=T+1;omega
 rw[AG ω,AG ω]
 have a:=x.root 1;rw[AE e]at a;unfold OC;rw[a];refine du ?_;show _<T+1
 cases d:MV f 0 n with
 | none=>show(0:Int)<_;omega
 | some y =>
  have:=i y d;show(if (0:Int)<y.1 then y else (0,0,1,0)).1<_
  split
  ·omega
  show(0:Int)<_;omega
theorem jd{H:Int}{q:Nat}(h:H=0\/H=1){i:Nat}(a:i<q):2<=bsN H q+i/\bsN H q+i<2+2*q:=by
 rcases h with rfl|rfl
 ·rw[gx];omega
 rw[ip];omega
theorem nN{n m:Nat}{L F:Int}(g:n+m=56)(o:1<=n/\n<=8)(f:1<=L/\L<=60000)(hF:1<=F):∀(k:Nat) (c:List (List Ch)),c.length=k->F+1+MJ c (n:Int)<=1000000000->∀i,i<(NM L F n m c).length->∃d p,MA ((NM L F n m c).getD i empty) (n:Int)=some (d,L,F+(i:Int),p)/\d≠4
 | 0,c,hb,hF2,i,hi=>by
  rw[AC hb]at hi hF2⊢;rw[ZX]at hi⊢;have:i=0:=by simp at hi;omega
  subst this;have a:=sf (n:=(n:Int));exact⟨3,empty,by simpa using kw n o L F f ω,δ⟩
 | k+1,c,hb,hF2,i,hi=>by
  obtain⟨b,bs,rfl⟩:∃b bs,c=bs++[b]:=by
   rcases ET c with h|⟨l,a,h⟩
   ·subst h;simp at hb
   exact⟨a,l,by simpa using h⟩
  rw[gj]at hF2;have s:=jh (LT b).size (n:Int) ω ω;have q:bs.length=k:=by simp at hb;omega
  rw[ex]at hi⊢;have r:=da L F n m g ω ω bs;have e:(56-(n:Int)).toNat=m:=ω
  have t:OR (LT b).size (n:Int)=(OG (LT b).size m:Int):=by unfold OR;rw[AE ω,e]
  rw[AF,XZ rfl ω,WW]at hi;rw[XZ rfl ω]
  by_cases h:i<(NM L F n m bs).length
  ·obtain⟨d,p,a,j⟩:=nN g o f hF k bs q ω i h
   exact⟨d,p,by rw[<-a];simp[List.getD,BC h],j⟩
  obtain⟨j,rfl⟩:∃j,i=(NM L F n m bs).length+j:=⟨i-(NM L F n m bs).length,ω⟩
  have a:=me (LT b) L (F+((NM L F n m bs).length:Int)) n m (OG (LT b).size m) j g o f ω;rw[<-xh (LT b) L (F+((NM L F n m bs).length:Int)) n m _ j ω]at a;refine⟨if j+1=OG (LT b).size m then 2 else 1,(LT b).extract (j*m) (j*m+m),?_,by split<;>decide⟩
  have l:(NM L F n m bs++QH (LT b) L (F+((NM L F n m bs).length:Int)) n m (OG (LT b).size m) (OG (LT b).size m)).getD ((NM L F n m bs).length+j) empty=(QH (LT b) L (F+((NM L F n m bs).length:Int)) n m (OG (LT b).size m) (OG (LT b).size m)).getD j empty:=by simp[List.getD,DG]
  rw[l,a,show F+((NM L F n m bs).length:Int)+(j:Int)=F+(((NM L F n m bs).length+j:Nat):Int) by omega]
theorem VV{N q:Nat}(b:8<=N/\N<=40)(a:hv (N:Int)=(q:Int)):3<=q/\q<=19/\2+2*q<=N:=by
 unfold hv at a;rw[AE ω]at a;omega
theorem gw{W S L T H F R U O:Int}{a:List Pr}(b:1<=W/\W<=8)(c:8<=S/\S<=200)(d:1<=L/\L<=60000)(e:0<=T/\T<=1000000000)(f:0<=R/\R<=60000)(g:0<=H/\H<=1)(h:1<=F/\F<=999999000)(i:0<=U/\U<=hv S)(j:0<=O/\O<=U)(k:MU a=true)(l:MJ (MD a) W<=hv S-1):OB W S L T H F R U O a=true:=by
 unfold OB SW;simp[b,c,d,e,f,g,h,i,j,k,l]
theorem sy{W S L T H F R U O:Int}{a:List Pr}(h:OB W S L T H F R U O a=true):(0<=R/\R<=60000)/\MJ (MD a) W<=hv S-1:=by
 unfold OB SW at h;simp only[AX,AT]at h;obtain⟨⟨⟨⟨⟨⟨⟨d,e⟩,f⟩,⟨⟨g,c⟩,i⟩,j⟩,_⟩,_⟩,_⟩,b⟩:=h;exact⟨c,b⟩
theorem G7{ss:List Y}{ws:List (Int×Y)}{b:Nat}{ps:List Y}{t:Int}{r:Y}(c:b+ps.length<=ss.length)(d:ws.length+ps.length<=300)(a:∀p∈ps,p.size=64)(g:0<=t/\t<2)(e:2<=ss.length)(f:r.size=64):LP (MP (b:Int) ps++[(true,0,empty),(false,t,r),(true,0,empty)]) (ss,ws)=((xhE (QN b ps) (xhE ws ss)).set t.toNat r,[]):=by
 rw[lz,iy b ps.length ps ss ws rfl c d a];rw[LP,MX,LP,OX _ _ ?_ σ,LP,MX,LP]
 ·simp only[de,xhE,DW]
 unfold PL
 rw[AT];simp only[VT];omega
end
section
open Tryz
open Go.RowKit nw
def LN(n a:Int):Wo:={ w:=a,ss:=newSS n,ws:=[],up:=false,W:=0,S:=0,L:=0,T:=0,H:=0,F:=0,R:=0,U:=0,O:=0,rs:=[],P:=[[]],ts:=[] }
theorem pY{n e:Int}(c:8<=n/\n<=200):(LN n e).ok:=by
 refine⟨.inl ?_,UG,⟨by simp[LN],λr b=>?_⟩,⟨by simp[LN],λs a=>by simp[LN]at a⟩⟩
 ·show LE (newSS n) []=true
  unfold newSS;rw[AE c];exact MQ (by rw[DI];simp;omega) (λs a=>by rw[List.eq_of_mem_replicate a];decide) (λx d=>by cases d)
 simp[LN]at b
 subst b;exact UG
theorem dq(n d:Int)(w:Nb)(t:8<=n/\n<=200)(f:1<=d/\d<=8):Calls prog 5 #[.int .i64 n,.int .i64 d] w λe i=>ju w i (λ_=>False) e (LN n d):=by
 refine(nw_s_yes n d w t f).z ?_;rintro e i ⟨a,c,j,l,p,m,rfl,f,o,q,r,h⟩;have s:=LS (lo:=w.heap.size) f VE (λg b=>(q g b).1);refine⟨⟨a,c,j,l,none,0,p,m,none,0⟩,rfl,⟨(NE s (λb h _=>.inr h)).map λU k=>k.strs,LQ λ_=>.inl rfl,LQ λ_=>.inl rfl,?_,LQ λ_=>.inl rfl⟩,h⟩;obtain⟨g,rfl,u⟩:=o.resolve_left (by simp[ia]);exact qJ (oa:=none) (oc:=0) u (.inr (r g rfl)) (LQ λ_=>.inl rfl)
end
section
open Tryz
open Go.RowKit
def UI(n:Nat):Y:=if h:n<10 then strOfNums [((48+n:Nat):Int)] else UI (n / 10)++strOfNums [((48+n % 10:Nat):Int)]
theorem oC:∀(k n:Nat),n<10 ^ (k+1)->(UI n).size<=k+1:=by
 intro k
 induction k with
 | zero=>intro n a;unfold UI;rw[dif_pos ω,CJ];simp
 | succ k b =>
  intro n a;unfold UI
  split
  ·rw[CJ];simp
  rw[BN,CJ]
  have:=b (n / 10) (by rw[Nat.pow_succ]at a;omega);simp only[EU];omega
theorem ix(w:Nb)(b:Nat)(n:Int)(h:w.cell? ⟨b,0,none⟩=some (.int .u8 n)):(convert 22 9 (.slice (Mw b 0) 1 1)).run prog w=.ok (Mz (strOfNums [n])) w :=FO (P:=prog) _ 22 5 underlying22 underlying5 b 0 1 1 [n] rfl (λi a=>by
  have:i=0:=ω
  subst this
  simpa using h) 9 underlying9
theorem sM(x:Int)(a:0<=x)(b:x<=255):IntKind.u8.wrap x=x:=by simp[IntKind.wrap,IntKind.bits,IntKind.signed];omega
theorem Az:∀(k n:Nat) (w:Nb),n<10 ^ k->k<=15->Calls prog 161 #[.int .i64 (n:Int)] w λe c=>e=M3 (Mz (UI n))/\Below w.heap.size w c:=by
 intro k
 induction k with
 | zero =>
  intro n w a B;have b:n=0:=by simpa using a
  subst b;have i:=ix (w.alloc (.cells #[.int .u8 48] 5)) w.heap.size 48 σ;go_enter func161,ntmps161;go_wp2;go_ret;exact⟨by unfold UI;rfl,WA _ _⟩
 | succ k h =>
  intro n w a B;have q:(10:Nat) ^ (k+1)<=10 ^ 15:=Nat.pow_le_pow_right ω B;have j:(10:Nat) ^ 15=1000000000000000:=δ
  by_cases A:n<10
  ·have D:(n:Int)<10:=ω
   have F:IntKind.i64.wrap (48+(n:Int))=48+(n:Int):=QQ _ ω ω;have E:IntKind.u8.wrap (48+(n:Int))=48+(n:Int):=sM _ ω ω;have i:=ix (w.alloc (.cells #[.int .u8 (48+(n:Int))] 5)) w.heap.size (48+(n:Int)) σ;have b:UI n=strOfNums [48+(n:Int)]:=by unfold UI;rw[dif_pos A];congr 2
   have l:=Z b;clear b;go_enter func161,ntmps161;go_wp2;go_ret;exact⟨by rw[l.l];rfl,WA _ _⟩
  have D:¬(n:Int)<10:=ω
  obtain⟨d,b⟩:∃d:Nat,n / 10=d:=⟨_,rfl⟩;obtain⟨m,f⟩:∃m:Nat,n % 10=m:=⟨_,rfl⟩;have K:(n:Int).tdiv 10=(d:Int):=by rw[<-b];rfl
  have L:(n:Int).tmod 10=(m:Int):=by rw[<-f];rfl
  have I:IntKind.i64.wrap (d:Int)=(d:Int):=QQ _ ω ω;have F:IntKind.i64.wrap (48+(m:Int))=48+(m:Int):=QQ _ ω ω;have E:IntKind.u8.wrap (48+(m:Int))=48+(m:Int):=sM _ ω ω;have g:=Z (oC 14 d ω);have l:Hid (UI n=UI d++strOfNums [48+(m:Int)]):=Z (by rw[show UI n=UI (n / 10)++strOfNums [((48+n % 10:Nat):Int)] by rw[UI,dif_neg A],b,f];congr 2);have v:=Z (λc=>h d c (by rw[Nat.pow_succ]at a;omega) ω);obtain⟨o,z⟩:∃t,Hid (t=UI d):=⟨_,Z rfl⟩;obtain⟨u,p⟩:∃t,Hid (t=strOfNums [48+(m:Int)]):=⟨_,Z rfl⟩;have H:u.size=1:=by rw[p.l,CJ];rfl
  have G:o.size<=15:=by rw[z.l];exact g.l
  rw[<-z.l]at v;rw[<-z.l,<-p.l]at l;have J:o.size<=9223372036854775806:=ω
  have M:¬(9223372036854775807<o.size+u.size):=ω
  clear b f h q j a g;go_enter func161,ntmps161;go_upto_region 3 with fail;refine AN (S:=λc=>True) κ (trivial) (λb=>?_);refine TY 0 (.int .i64 (n:Int)) rfl b (TY 1 (.int .i64 (d:Int)) rfl b (TY 3 (.int .i64 (n:Int)) rfl b (TY 4 (.int .i64 (m:Int)) rfl b (TY 5 (.int .i64 (48+(m:Int))) rfl b (TY 6 (.int .u8 (48+(m:Int))) rfl b ?_)))));simp only[PS];refine EF (rs:=[2,7]) κ σ ?_;refine BK rfl (λf a=>?_) (BK rfl (λf a=>?_) DX)
  ·obtain⟨j,c⟩:∃y,y=w.drew:=⟨_,rfl⟩
   rw[<-c];have r:Below w.heap.size w j:=by rw[c];exact(AB _ _).drew
   clear c;refine LW ρ 161 #[.int .i64 (d:Int)] γ (v.l _) ?_;rintro e t ⟨rfl,x⟩;refine⟨_,rfl,?_⟩;have h:=r.j (x.z r.size);refine a.l _ _ b (λ_=>?_)
   try simp only[PS]
   refine RD 7 rfl (λf a=>?_);go_simp;have g:=WA t (.cells #[.int .u8 (48+(m:Int))] 5);have c:=MT t #[.int .u8 (48+(m:Int))] 5;obtain⟨C,q⟩:∃y,y=t.alloc (.cells #[.int .u8 (48+(m:Int))] 5):=⟨_,rfl⟩;obtain⟨X,i⟩:∃y,y=t.heap.size:=⟨_,rfl⟩;rw[<-q]at g c⊢;rw[<-i]at c⊢;have s:=h.j (g.z h.size);clear q i;refine a.l _ _ b (λ_=>?_)
   try simp only[PS]
   refine RD 8 rfl (λf a=>?_);have i:=ix _ _ _ (c.y 0);rw[<-p.l]at i;go_simp;refine a.l _ _ b (λ_=>?_)
   try simp only[PS]
   refine TY 9 (Mz (o++u)) rfl b ?_;simp only[PS];refine RD 10 rfl (λf a=>?_);go_simp;refine a.l _ _ b (λ_=>?_)
   try simp only[PS]
   refine DN ?_;go_wp2;go_ret;exact⟨by rw[l.l];rfl,s⟩
  obtain⟨j,c⟩:∃y,y=w.drew:=⟨_,rfl⟩
  rw[<-c];have r:Below w.heap.size w j:=by rw[c];exact(AB _ _).drew
  clear c;go_simp;have x:=WA j (.cells #[.int .u8 (48+(m:Int))] 5);have c:=MT j #[.int .u8 (48+(m:Int))] 5;obtain⟨t,q⟩:∃y,y=j.alloc (.cells #[.int .u8 (48+(m:Int))] 5):=⟨_,rfl⟩;obtain⟨X,i⟩:∃y,y=j.heap.size:=⟨_,rfl⟩;rw[<-q]at x c⊢;rw[<-i]at c⊢;have h:=r.j (x.z r.size);clear q i;refine a.l _ _ b (λ_=>?_)
  try simp only[PS]
  refine EF (rs:=[2,8]) κ σ ?_;refine BK rfl (λf a=>?_) (BK rfl (λf a=>?_) DX)
  ·refine LW ρ 161 #[.int .i64 (d:Int)] γ (v.l _) ?_
   rintro e C ⟨rfl,g⟩;refine⟨_,rfl,?_⟩;have s:=h.j (g.z h.size);have c:=c.I g;refine a.l _ _ b (λ_=>?_)
   try simp only[PS]
   refine RD 8 rfl (λf a=>?_);have i:=ix _ _ _ (c.y 0);rw[<-p.l]at i;go_simp;refine a.l _ _ b (λ_=>?_)
   try simp only[PS]
   refine TY 9 (Mz (o++u)) rfl b ?_;simp only[PS];refine RD 10 rfl (λf a=>?_);go_simp;refine a.l _ _ b (λ_=>?_)
   try simp only[PS]
   refine DN ?_;go_wp2;go_ret;exact⟨by rw[l.l];rfl,s⟩
  have i:=ix _ _ _ (c.y 0)
  rw[<-p.l]at i;go_simp;refine a.l _ _ b (λ_=>?_)
  try simp only[PS]
  refine RD 2 rfl (λf a=>?_);refine LW ρ 161 #[.int .i64 (d:Int)] γ (v.l _) ?_;rintro e C ⟨rfl,g⟩;refine⟨_,rfl,?_⟩;have s:=h.j (g.z h.size);have c:=c.I g;refine a.l _ _ b (λ_=>?_)
  try simp only[PS]
  refine TY 9 (Mz (o++u)) rfl b ?_;simp only[PS];refine RD 10 rfl (λf a=>?_);go_simp;refine a.l _ _ b (λ_=>?_)
  try simp only[PS]
  refine DN ?_;go_wp2;go_ret;exact⟨by rw[l.l];rfl,s⟩
