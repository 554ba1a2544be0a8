import Derived.Test.YtjdmogljfdffeaaGreatDoorPrPfK
import Derived.Test.YtjdmogljfdffeaaGreatDoorPrG39
set_option maxHeartbeats 16000000
set_option maxRecDepth 8000
set_option linter.all false
namespace Go.Proofs.YtjdmogljfdffeaaGreatDoor
open _root_.ByteArray(empty)
section
open Tryz
open Go.RowKit
theorem Ops.take{w:World}{a:Option Addr}{c:List (Bool×Int×ByteArray)}(h:Ops w a c)(m:Nat):Ops w a (c.take m):=by
 rcases h with h|⟨b,o,f,g,j⟩
 ·exact .inl (by rw[h];simp)
 refine .inr ⟨b,o,f,g,λi k=>?_⟩
 have d:i<c.length/\i<m:=by simp at k;omega
 have e:(c.take m).getD i (false,0,empty)=c.getD i (false,0,empty):=by simp[List.getD,FR,d.2]
 rw[e];exact j i d.1
theorem Row.lowB{w e:World}{R a:Nat}{c:List Value}(h:Row w R c)(b:Below a w e)(d:R<a):Row e R c :=⟨AD h.lt b.size,λi v hv=>(b.cell (p:=⟨R,i,none⟩) d).j (h.cell i v hv),λi f=>(b.frozen (p:=⟨R,i,none⟩) d).j (h.froz i f)⟩
theorem OwnS.setp{w:World}{a:Option Addr}{b:List Value}(h:OwnS w a b)(p:Addr)(f:∀g,a=some ⟨g,0,none⟩->b≠[]->p.block≠g)(v:Value):OwnS (w.setCell p v) a b:=by
 rcases h with h|⟨g,c,e⟩
 ·exact .inl h
 by_cases d:b=[]
 ·exact .inl d
 exact .inr ⟨g,c,e.other p (f g c d) v⟩
theorem mZ(a:List ByteArray):ND (a.map KU)=a:=by
 unfold ND;rw[GW];exact JL (λs=>TI s) a
theorem pF(a:List (Int×ByteArray)):XbJ (LJ a)=a:=by
 unfold XbJ LJ;rw[GW];exact JL (λx=>by show(x.1,strOfNums (KU x.2))=x;rw[TI]) a
theorem DV.form{w:World}{b X g n:Nat}{v:Value}{j:List (List Int)}{d:List (Int×List Int)}(h:DV w b X g n v j d)(f:∀p∈d,p.2.length=64):∃a c,v=.slice a d.length c/\Hld w a d:=by
 rcases MO h.own with ⟨e,a⟩|⟨g,c,e,_,_,i⟩
 ·exact⟨_,_,by rw[e,a],.inl (AB a)⟩
 exact⟨_,_,e,i.hld f⟩
theorem qD:∀(l:List (Bool×Int×ByteArray)) (d:List ByteArray×List (Int×ByteArray)),(LA l d).1.length=d.1.length
 | [],_=>rfl
 | o::r,d=>by rw[LA,qD r,RM]
theorem nQ:∀(l:List (Bool×Int×ByteArray)) (d:List ByteArray×List (Int×ByteArray)),LG d.1 d.2=true->LG (LA l d).1 (LA l d).2=true
 | [],_,h=>h
 | o::r,d,h=>nQ r _ (UC d o h)
theorem Be(a X g n:Nat)(v:Value)(b:List ByteArray)(c:List (Int×ByteArray))(s:Bool)(f:Int)(d:ByteArray)(w:World)(h:DV w a X g n v (b.map KU) (LJ c))(q:b.length=n)(o:LG b c=true)(r:d.size<=1048576)(m:a<=w.heap.size):Calls prog 139 #[.pointer (some ⟨X,0,none⟩),.agg #[.bool s,.int .i64 f,.string d]] w λe l=>(∃x,e=.returned x)/\(∃i,DV l a X g n i ((RL (b,c) (s,f,d)).1.map KU) (LJ (RL (b,c) (s,f,d)).2))/\Below a w l:=by
 cases s with
 | true =>
  rw[NF];refine(UX a X g n v b c f d w h q o m).A ?_;rintro e l ⟨i,j,k⟩;exact⟨i,⟨_,j⟩,k⟩
 | false =>
  cases hc:OP b.length (f,d) with
  | false =>
   rw[RN (b,c) (f,d) (.inl hc)];refine(UM a X g n v b c f d w h q o r (.inl hc) m).A ?_;rintro e l ⟨i,j,k⟩;exact⟨i,⟨_,j⟩,k⟩
  | true =>
   by_cases p:c.length<300
   ·rw[OW (b,c) (f,d) hc p]
    exact Jp a X g n v b c f d w h q o hc p m
   rw[RN (b,c) (f,d) (.inr p)]
   refine(UM a X g n v b c f d w h q o r (.inr p) m).A ?_;rintro e l ⟨i,j,k⟩;exact⟨i,⟨_,j⟩,k⟩
def QC(z:Int)(n:Nat):Nat:=min z.toNat n
theorem qA(z:Int)(n:Nat):QC z n<=n:=Nat.min_le_right _ _
set_option maxRecDepth 100000 in
theorem Cb(a:Option Addr)(j:List ByteArray)(c:Nat)(C:Option Addr)(n:List (Int×ByteArray))(O:Nat)(f:Option Addr)(l:List (Bool×Int×ByteArray))(Q:Nat)(z:Int)(m:Nat)(w:World)(h:Strs w a j)(h':Wrs w C n)(hz:Ops w f l)(eL:l.length<=Q)(eQ:l.length<=1048576)(cV:QC z l.length=m)(eB:∀x∈l,x.2.2.size<=1048576)(bT:LG j n=true):Calls prog 101 #[LE a j.length c C n.length O,.slice f l.length Q,.int .i64 z] w λe b=>∃q P r M,e=.returned (LE q (LA (l.take (m)) (j,n)).1.length P r (LA (l.take (m)) (j,n)).2.length M)/\OwnD b q (LA (l.take (m)) (j,n)).1 r (LA (l.take (m)) (j,n)).2/\(∀g,blk q (LA (l.take (m)) (j,n)).1.length=some g->w.heap.size<=g)/\(∀g,blk r (LA (l.take (m)) (j,n)).2.length=some g->w.heap.size<=g)/\Below w.heap.size w b:=by
 obtain⟨⟨eX,cP,dU⟩,cE,hw⟩:=PA bT
 have aW:∀b d,Below w.heap.size w ((w.alloc b).alloc d):=λb d=>(KW _ _).alloc σ _
 have eV:m<=l.length:=by rw[<-cV];exact qA _ _
 obtain⟨p,K⟩:∃p,Hid (p=l.take (m)):=⟨_,Z rfl⟩;have F:p.length=m:=by rw[K.l];simp;omega
 have cW:Ops w f p:=by rw[K.l];exact hz.take (m)
 have dQ:Hid (∀x∈p,x.2.2.size<=1048576):=λx u=>eB x (by rw[K.l]at u;exact DM u)
 rw[<-K.l];obtain⟨D,U⟩:∃D,Hid (D=LA p (j,n)):=⟨_,Z rfl⟩;rw[<-U.l];go_enter func101,ntmps101;go_wp2_with fail;refine(WD a j c C n O _ (h.z (aW _ _)) (h'.z (aW _ _)) ω ω (λs k=>by have:=cE s k;omega) (λx u=>by have:=AU (hw x u);omega)).A ?_;rw[bT];rintro e w1 ⟨rfl,i⟩;have t:=(aW _ _).j (i.A τ);obtain⟨o,B⟩:=ox i;have b:=(OI (w.alloc (.cells #[.slice a j.length c,.slice C n.length O] 26)) #[.slice none 0 0,.slice none 0 0] 26 (w.heap.size+1) σ).z i;have A:=Z b;have d:=Z t;clear b i t;go_wp2_with fail;refine(gq a j c C n O _ (h.z d.l) (h'.z d.l) cP dU (λs k=>by have:=cE s k;omega) (λx u=>by have:=AU (hw x u);omega)).A ?_;rintro e s ⟨g,v,rfl,y,b,t,i⟩;clear o B;have B:=Z (A.l.z i);have aU:Hid (w.heap.size+1+1<=g):=by have:=A.l.lt;show _<=_;omega
 have E:=Z (Below.then d.l (Y _) i);have eN:g<s.heap.size:=y.lt;have eO:=aU.l;rw[<-QH]at b
 have o:∀k,v.ownBlock=some k->g+1<=k/\k<s.heap.size:=λk hk=>b.lt k hk
 have G:DV (s.alloc (.cells #[.slice (some ⟨g,0,none⟩) j.length j.length,v] 103)) (w.heap.size+1+1) s.heap.size g j.length v (j.map KU) (LJ n) :=⟨LU _ _ _,y.z (MF _ _),(LR b (MF _ _)).A ω,λe=>by have:=o _ e;omega,λe=>by have:=o _ e;omega,ω,ω,ω⟩
 have W:w.heap.size+1+1<=(s.alloc (.cells #[.slice (some ⟨g,0,none⟩) j.length j.length,v] 103)).heap.size:=τ
 have L:=Z G;have I:=Z (B.l.alloc (.cells #[.slice (some ⟨g,0,none⟩) j.length j.length,v] 103));have H:=Z (Below.then E.l (Y _) (MF s (.cells #[.slice (some ⟨g,0,none⟩) j.length j.length,v] 103)))
 obtain⟨av,cv,hv⟩:∃a c,v=.slice a n.length c:=by
  rw[<-QH];rcases MO b with ⟨e,N⟩|⟨g,c,e,_⟩
  ·exact⟨_,_,by rw[e,N]⟩
  exact⟨_,_,e⟩
 subst hv;have dN:=Z bT;clear G y b i d A E B o;go_upto_region 4 with fail;obtain⟨wq,b⟩:∃wq,wq=s.alloc (.cells #[.slice (some ⟨g,0,none⟩) j.length j.length,.slice av n.length cv] 103):=⟨_,rfl⟩;rw[<-b]at L I H W⊢;go_cut [22,23,24] from 16 to 24 (λo i d y=>o=.slice f m Q/\i=.int .i64 (m:Int)/\d=.int .i64 0/\y=wq)
 case first =>
  clear L I H W cW b;unfold QC at cV;have o:¬((Q:Int)<(m:Int)):=ω
  by_cases N:z<0
  focus
   obtain rfl:m=0:=ω
  rotate_left
  focus
   have y:0<=z:=ω
   by_cases T:z<(l.length:Int)
   focus
    obtain⟨d,rfl⟩:∃d:Nat,z=(d:Int):=⟨z.toNat,ω⟩;obtain rfl:m=d:=ω
   rotate_left
   focus
    obtain rfl:m=l.length:=ω
    by_cases i:z=(l.length:Int)
    focus
     subst i
    rotate_left
    focus
     have A:(l.length:Int)<z:=ω
    rotate_left
   rotate_left 2
  rotate_left 3
  all_goals
   go_wp2_with fail;go_meet
   exact⟨by first|rfl|(congr 1;omega),by first|rfl|(congr 1;omega),rfl,rfl⟩
 case rest =>
  obtain⟨rfl,rfl,rfl,eC⟩:=hcut;clear b;subst eC;go_wp2;go_loopw [9,24] (λ_ i wr=>∃(k:Nat) (d:List ByteArray×List (Int×ByteArray)) (v:Value),k<=m/\i=.int .i64 k/\d.1.length=j.length/\Hid (LG d.1 d.2=true)/\Hid (LA (p.drop k) d=D)/\Hid (DV wr (w.heap.size+1+1) s.heap.size g j.length v (d.1.map KU) (LJ d.2))/\Hid (Row wr (w.heap.size+1) [.slice none 0 0,.slice none 0 0])/\Hid (Below w.heap.size w wr)/\w.heap.size+1+1<=wr.heap.size) (λ_ i _=>m-(intOf i).toNat)
  case atStart =>
   exact⟨0,(j,n),_,AO _,rfl,rfl,dN,by show _=_;rw[FJ,U.l],L,I,H,W⟩
  case round =>
   obtain⟨k,d,v,hk,rfl,N,X,T,y,A,G,cU⟩:=hrel
   by_cases bG:k<m
   ·obtain⟨b,o,S,R,E,rfl,eI,eJ,eK,HS⟩:=(cW.z G.l).at (k:=k) (by rw[F];exact bG)
    have bI:(S,R,E)∈p:=by rw[HS.l];simp[List.getD,F,bG]
    have dV:E.size<=1048576:=dQ.l _ bI
    have bE:∀B,Below wr.heap.size wr (wr.alloc B):=λB=>MF _ _
    have cZ:=Z (λB=>Be (w.heap.size+1+1) s.heap.size g j.length v d.1 d.2 S R E (wr.alloc B) (y.l.z (bE B)) N X.l dV (AL cU (bE B).size));go_wp2_with (go_at_call 139;refine(cZ.l _).A ?_;rintro e w4 ⟨⟨x,rfl⟩,⟨v',cH⟩,B⟩);have aT:=Z cH;have bZ:=Z (((bE (.cells #[.bool S,.int .i64 R,.string E] 78)).A cU).j B)
    have dH:Hid (LA (p.drop (k+1)) (RL d (S,R,E))=D):=by
     show _=_;rw[<-T.l,de p k (false,0,empty) (by rw[F];exact bG),<-HS.l,LA]
    have dZ:=B.size;clear cH B;go_wp2;go_roundw
    case rel =>
     exact⟨k+1,_,v',ω,ν,by rw[RM];exact N,UC d _ X.l,dH,aT,A.l.lowB bZ.l ω,G.l.j (bZ.l.A ω),by simp at dZ;omega⟩
    case measure =>
     simp[intOf];omega
   have bV:Hid (d=D):=by
    have:=T.l;rw[EI (by rw[F];omega)]at this;exact this
   clear T U L I H;obtain rfl:=bV.l;obtain⟨⟨I,eT,eU⟩,E,B⟩:=PA X.l;have H:=Z (QB (ws:=d.2) λx u=>by have:=AU (B x u);omega);obtain⟨U,c2,hv,b⟩:=y.l.form H.l;rw[QH]at hv;have S:=y.l.rx.y 0;have o:=y.l.rx.y 1;rw[hv]at o;have dL:=Z b;clear I E B b;go_wp2_with fail;refine(nh (some ⟨g,0,none⟩) (d.1.map KU) j.length j.length U (LJ d.2) d.2.length c2 (by simp[N]) (QH _) _ y.l.pr.plt dL.l cP ω y.l.pr.len H.l).A ?_;rintro e w5 ⟨q,P,r,M,rfl,B,E,R,u⟩;rw[mZ,pF]at B;have b:=A.l.z u;have r0:=b.y 0;have r1:=b.y 1;obtain⟨eF,eG⟩:=b.z2;have cY:=Z (Below.then G.l (Y _) u);have dM:=Z B;have eH:=G.l.size
   have I:Hid (∀g,blk q j.length=some g->w.heap.size+1<g):=λg t=>by have T:=E g t;omega
   have L:Hid (∀g,blk r d.2.length=some g->w.heap.size+1<g):=λg t=>by have T:=R g t;omega
   clear B E R u b S o;go_wp2;rw[N];have eM:d.1.length≠0:=ω
   have S:∀(E:World) (u:Value) (i:Nat),OwnD E q d.1 r d.2->OwnD (E.setCell ⟨w.heap.size+1,i,none⟩ u) q d.1 r d.2:=λE u i B=>by
    refine⟨B.s.setp _ (λb o R e=>?_) _,B.p.setp _ (λb o R e=>?_) _,B.ne⟩
    ·have:=I.l b (by rw[o];exact MS b 0 _ ω)
     have B:w.heap.size+1=b:=e;omega
    have:=L.l b (by rw[o];exact MS b 0 _ (λB=>R (by rw[AB B];rfl)))
    have B:w.heap.size+1=b:=e;omega
   refine AI (v:=LE q j.length P r d.2.length M) (by simp[results,results101,go_sem,r0,r1]) rfl ⟨q,P,r,M,rfl,S _ _ _ (S _ _ _ dM.l),λg t=>by have:=I.l g t;omega,λg t=>by have:=L.l g t;omega,?_⟩;exact(cY.l.setCell (by show w.heap.size<=w.heap.size+1;omega) _).setCell (by show w.heap.size<=w.heap.size+1;omega) _
theorem C8(a:Option Addr)(d:List ByteArray)(c:Nat)(j:Option Addr)(i:List (Int×ByteArray))(n:Nat)(f:Option Addr)(b:List (Bool×Int×ByteArray))(m:Nat)(z:Int)(w:World)(h:Strs w a d)(v:Wrs w j i)(y:Ops w f b)(q:b.length<=m)(r:b.length<=1048576)(t:∀x∈b,x.2.2.size<=1048576)(s:LG d i=true):Calls prog 101 #[LE a d.length c j i.length n,.slice f b.length m,.int .i64 z] w λe o=>∃k u l p,e=.returned (LE k (LA (b.take (QC z b.length)) (d,i)).1.length u l (LA (b.take (QC z b.length)) (d,i)).2.length p)/\OwnD o k (LA (b.take (QC z b.length)) (d,i)).1 l (LA (b.take (QC z b.length)) (d,i)).2/\(∀g,blk k (LA (b.take (QC z b.length)) (d,i)).1.length=some g->w.heap.size<=g)/\(∀g,blk l (LA (b.take (QC z b.length)) (d,i)).2.length=some g->w.heap.size<=g)/\Below w.heap.size w o:=by
 exact Cb a d c j i n f b m z _ w h v y q r rfl t s
theorem Ha(a:Option Addr)(b:List ByteArray)(c:Nat)(f:Option Addr)(d:List (Int×ByteArray))(k:Nat)(v z:Value)(w:World)(h:Strs w a b)(p:Wrs w f d)(q:b.length<=1048576)(m:d.length<=1048576)(r:∀s∈b,s.size<=1048576)(o:∀x∈d,x.2.size<=1048576)(n:LG b d=false):Calls prog 101 #[LE a b.length c f d.length k,v,z] w λe g=>e=.returned (LE none 0 0 none 0 0)/\Below w.heap.size w g:=by
 have i:∀g j,Below w.heap.size w ((w.alloc g).alloc j):=λg j=>(KW _ _).alloc σ _
 go_enter func101,ntmps101;go_wp2_with fail;refine(WD a b c f d k _ (h.z (i _ _)) (p.z (i _ _)) q m r o).A ?_;rw[n];rintro e y ⟨rfl,j⟩;have l:=Z ((i _ _).j (j.A τ));have g:=(OI (w.alloc (.cells #[.slice a b.length c,.slice f d.length k] 26)) #[.slice none 0 0,.slice none 0 0] 26 (w.heap.size+1) σ).z j;have s:=g.y 0;have t:=g.y 1;obtain⟨u,x⟩:=g.z2;clear g j;go_wp2;exact AI (v:=LE none 0 0 none 0 0) (by simp[results,results101,go_sem,s,t]) rfl ⟨rfl,(l.l.setCell (by show w.heap.size<=w.heap.size+1;omega) _).setCell (by show w.heap.size<=w.heap.size+1;omega) _⟩
def NG(b:List ByteArray)(c:List (Int×ByteArray))(a:List (Bool×Int×ByteArray))(z:Int):List ByteArray×List (Int×ByteArray):=if LG b c=true then LA (a.take (QC z a.length)) (b,c) else ([],[])
theorem Eq(a:Option Addr)(d:List ByteArray)(c:Nat)(j:Option Addr)(i:List (Int×ByteArray))(m:Nat)(f:Option Addr)(b:List (Bool×Int×ByteArray))(n:Nat)(z:Int)(w:World)(h:Strs w a d)(q:Wrs w j i)(D:Ops w f b)(r:b.length<=n)(u:b.length<=1048576)(y:∀x∈b,x.2.2.size<=1048576)(B:d.length<=1048576)(t:i.length<=1048576)(C:∀s∈d,s.size<=1048576)(v:∀x∈i,x.2.size<=1048576):Calls prog 101 #[LE a d.length c j i.length m,.slice f b.length n,.int .i64 z] w λe p=>∃k A l o,e=.returned (LE k (NG d i b z).1.length A l (NG d i b z).2.length o)/\OwnD p k (NG d i b z).1 l (NG d i b z).2/\(∀g,blk k (NG d i b z).1.length=some g->w.heap.size<=g)/\(∀g,blk l (NG d i b z).2.length=some g->w.heap.size<=g)/\Below w.heap.size w p:=by
 by_cases k:LG d i=true
 ·have l:NG d i b z=LA (b.take (QC z b.length)) (d,i):=by simp[NG,k]
  rw[l];exact C8 a d c j i m f b n z w h q D r u y k
 have l:NG d i b z=([],[]):=by simp[NG,k]
 rw[l];refine(Ha a d c j i m _ _ w h q B t C v (by simpa using k)).A ?_;rintro e p ⟨rfl,s⟩;exact⟨none,0,none,0,rfl,⟨.inl rfl,.inl rfl,.inl rfl⟩,(λg o=>by cases o),(λg o=>by cases o),s⟩
structure Ev where
 K:Int
 b:List Ch
 cut:Int
 fs:List Int
def Wo.call(x:Wo)(e:Ev):Dd×Bool :=if e.K=1 then (OM x.ss x.ws x.w,!x.up)
 else if e.K=2 then (NR x.W x.S x.L x.T x.H x.F x.R x.U x.O x.rs e.b,x.up)
 else if e.K=3 then (QG x.W x.S x.L x.T x.H x.F x.R x.U x.O x.rs,x.up)
 else if e.K=4 then (PZ x.W x.S x.L x.T x.H x.F x.R x.U x.O x.rs,x.up)
 else (LD 0,false)
def Wo.pow(x:Wo)(a:List Int):Wo:={ x with ss:=MC a x.ss x.ws,ws:=[],up:=false,W:=0,S:=0,L:=0,T:=0,H:=0,F:=0,R:=0,U:=0,O:=0,rs:=[] }
def QP(e:Ev)(d:Dd):Bool:=decide (0<=e.cut/\e.cut<=d.ops.length)
def evN(e:Ev)(d:Dd):Nat:=if 0<=e.cut/\e.cut<=d.ops.length then e.cut.toNat else d.ops.length
theorem nL(e:Ev)(d:Dd):evN e d<=d.ops.length:=by unfold evN;split<;>omega
def MK(a:List OpT):List ByteArray:=a.filterMap λo=>if o.1=true then none else some o.2.2
theorem oX(l:List OpT)(o:OpT):MK (l++[o])=MK l++(if o.1=true then [] else [o.2.2]):=by
 unfold MK;rw[List.filterMap_append]
 by_cases h:o.1=true<;>simp[h]
theorem yh(l:List OpT):(MK l).length<=l.length:=List.length_filterMap_le _ _
def PU(x:Wo)(e:Ev)(d:Dd):List ByteArray:=x.ts++MK (d.ops.take (evN e d))
def NW(x:Wo)(e:Ev)(d:Dd):List (List Pr):=if e.K=2 then x.P++[d.rs] else x.P
def Wo.ran(x:Wo)(e:Ev)(d:Dd):Wo:={ x with ss:=(NG x.ss x.ws d.ops (evN e d)).1,ws:=(NG x.ss x.ws d.ops (evN e d)).2,P:=NW x e d,ts:=PU x e d }
def Wo.upS(x:Wo)(d:Dd):Wo:={ x with up:=true,W:=d.W,S:=d.S,L:=d.L,T:=d.T,H:=d.H,F:=d.F,R:=d.R,U:=d.U,O:=d.O,rs:=d.rs }
def Wo.doE(x:Wo)(e:Ev):Wo :=if e.K=5 then x.pow e.fs
 else if (x.call e).2=false\/(x.call e).1.C≠0 then x
 else if 2000<(PU x e (x.call e).1).length\/200<(NW x e (x.call e).1).length then x
 else if QP e (x.call e).1=true then (x.ran e (x.call e).1).pow e.fs
 else if e.K=2 then (x.ran e (x.call e).1).upS (x.call e).1
 else { (x.ran e (x.call e).1).upS (x.call e).1 with P:=[(x.call e).1.rs] }
structure Wo.ok(x:Wo):Prop where
 d:LG x.ss x.ws=true\/(x.ss=[]/\x.ws=[])
 s:LV x.rs=true
 p:x.P.length<=200/\∀r∈x.P,LV r=true
 t:x.ts.length<=2000/\∀s∈x.ts,s.size<=64
theorem Wo.ok.le{x:Wo}(h:x.ok):x.le 1048576:=by
 have a:=VS h.s
 have b:(x.ss.length<=1048576/\∀s∈x.ss,s.size<=1048576)/\(x.ws.length<=1048576/\∀s∈x.ws,s.2.size<=1048576):=by
  rcases h.d with h|⟨c,d⟩
  ·obtain⟨⟨c,d,g⟩,e,f⟩:=PA h
   refine⟨⟨ω,λs a=>by have:=e s a;omega⟩,ω,λs a=>?_⟩;have:=AU (f s a);omega
  rw[c,d];simp
 exact⟨b.1.1,b.1.2,b.2.1,b.2.2,ω,a.2,by have:=h.p.1;omega,λr c=>by have:=VS (h.p.2 r c);exact⟨ω,this.2⟩,by have:=h.t.1;omega,λs a=>by have:=h.t.2 s a;omega⟩
theorem lc(k l m:Int)(p:ByteArray)(n:Int):(LS k l m p n).size<=64:=by
 unfold LS
 split
 ·rename_i h
  have a:=AU (by unfold MN at h;exact h);rw[aa _ _ _ _ _ ω];exact Y _
 simp
theorem oM(s:ByteArray)(l f:Int)(n m:Nat):∀p∈NV s l f n m,p.size<=64:=by
 unfold NV
 split
 ·intro p a
  obtain⟨i,_,rfl⟩:=DL.1 a;exact lc _ _ _ _ _
 simp
theorem uW(q:Int)(l:List ByteArray)(h:∀p∈l,p.size<=64):∀o∈MA q l,o.2.2.size<=64:=by
 intro o a;obtain⟨i,b,rfl⟩:=List.mem_mapIdx.1 a;exact h _ (JH _)
theorem Hx(L F:Int)(n m:Nat)(a:List (List Ch)):∀p∈LW L F n m a,p.size<=64:=by
 have e:∀(a:List (List Ch)) (d:List ByteArray),(∀p∈d,p.size<=64)->∀p∈a.foldl (yx L F n m) d,p.size<=64:=by
  intro a
  induction a with
  | nil=>intro d h;exact h
  | cons b a f =>
   intro d h;refine f _ ?_;unfold yx;intro p c;rcases BS.1 c with c|c
   ·exact h p c
   exact oM _ _ _ _ _ p c
 refine e a _ ?_;intro p c;rw[DJ.1 c];exact lc _ _ _ _ _
def Dd.ok(d:Dd):Prop:=LV d.rs=true/\d.ops.length<=1000/\∀o∈d.ops,o.2.2.size<=64
theorem cm(C:Int):(LD C).ok:=⟨TQ,by simp[LD],by simp[LD]⟩
theorem tT(W S L T H F:Int)(b:List Pr)(h:LV b=true)(c:(OH W S L T H F b).ops.length<=1000):(OH W S L T H F b).ok:=by
 refine⟨?_,c,?_⟩<;>unfold OH<;>split
 ·exact h
 ·exact TQ
 ·intro o a
  unfold TN at a;simp only[BS,DX,EE,GR]at a;rcases a with a|rfl|rfl|rfl
  ·exact uW _ _ (Hx _ _ _ _ _) o a
  ·simp
  ·show(MB _ _ _ _ _).size<=64
   unfold MB
   split
   ·exact lc _ _ _ _ _
   simp
  simp
 simp[LD]
theorem Am(W S L T H F R U O:Int)(a:List Pr)(b:List Ch):(NR W S L T H F R U O a b).ok:=by
 have c:=(An W S L T H F R U O a b).2
 refine⟨?_,c,?_⟩<;>unfold NR<;>(repeat' split)<;>first|exact TQ|(simp[LD];done)|skip
 ·rename_i h _ _
  show LV (OA a b)=true;unfold OA;rw[AF h];exact ed h
 exact uW _ _ (oM _ _ _ _ _)
theorem Bf(W S L T H F R U O:Int)(b:List Pr):(QG W S L T H F R U O b).ok:=by
 unfold QG
 split
 ·rename_i h
  obtain⟨_,_,_,_,_,_,_,_,a⟩:=UE h
  exact⟨by first|exact a|exact a.1,σ,σ⟩
 exact cm 1
theorem Jd(W S L T H F R U O:Int)(b:List Pr)(d:b.length<=1048576):(PZ W S L T H F R U O b).ok:=by
 have a:=(Ie W S L T H F R U O b d).2;unfold PZ at a⊢
 split
 ·rename_i h
  rw[AF h]at a;obtain⟨_,_,_,_,_,_,_,_,c⟩:=UE h;exact tT _ _ _ _ _ _ _ (by first|exact c|exact c.1) a
 exact cm 1
theorem C6(b:List ByteArray)(c:List (Int×ByteArray))(n:Int):(OM b c n).ok:=by
 have a:=(I1 b c n).2;unfold OM at a⊢
 split
 ·rename_i h
  rw[AF h]at a
  cases hf:MX (NT b c n).1 [] with
  | none=>exact cm 2
  | some j =>
   rw[hf]at a;have e:=ei _ _ TQ _ hf;simp only at a⊢
   split
   ·exact cm 3
   rename_i f
   rw[AG f]at a
   split
   ·exact cm 4
   rename_i g
   rw[AG g]at a
   split
   ·rename_i i
    rw[AF i]at a;exact tT _ _ _ _ _ _ _ e a
   refine⟨e,σ,?_⟩
   intro o d;simp only[DX,EE,GR]at d;rcases d with rfl|rfl
   ·exact lc _ _ _ _ _
   simp
 exact cm 1
theorem Wo.ok.call{x:Wo}(h:x.ok)(e:Ev):(x.call e).1.ok:=by
 have:=(VS h.s).1;unfold Wo.call
 split
 ·exact C6 _ _ _
 split
 ·exact Am _ _ _ _ _ _ _ _ _ _ _
 split
 ·exact Bf _ _ _ _ _ _ _ _ _ _
 split
 ·exact Jd _ _ _ _ _ _ _ _ _ _ ω
 exact cm 0
theorem vw(zs:List Int):∀(hs:List (Int×List Int)) (i:Nat) (ps:List (List Int)),(∀p∈hs,p.2.length=64)->(∀p∈ps,p.length=64)->∀p∈NN zs i hs ps,p.length=64
 | [],_,_,_,h2=>h2
 | x::r,i,ps,h1,h2=>by
  rw[NN]
  by_cases hk:x.1.toNat<ps.length
  ·refine vw zs r (i+1) _ (λp hp=>h1 p (DS _ hp)) (λp hp=>?_)
   rcases EV hp with hp|rfl
   ·exact h2 p hp
   have e1:=h1 x EH
   have e2:=h2 (ps.getD x.1.toNat []) (by simp[List.getD,hk]);unfold TG;simp only[AE,BF,BV];omega
  rw[List.set_eq_of_length_le ω]
  exact vw zs r (i+1) _ (λp hp=>h1 p (DS _ hp)) h2
theorem G5(e:List Int)(c:List ByteArray)(d:List (Int×ByteArray))(h:LG c d=true):∀s∈ND (NN e 0 (LJ d) (c.map KU)),(s.size:Int)=64:=by
 obtain⟨_,f,g⟩:=PA h;intro s j;obtain⟨l,i,rfl⟩:=DL.1 j
 have:=vw e (LJ d) 0 (c.map KU) (λp a=>by
  obtain⟨x,b,rfl⟩:=DL.1 a;have:=(PH (g x b)).2
  simp only[ME];omega) (λp a=>by
  obtain⟨x,b,rfl⟩:=DL.1 a;have:=f x b
  simp only[ME];omega) l i
 rw[BU,this];rfl
theorem nK(a:List Int)(b:List ByteArray)(c:List (Int×ByteArray)):LG (MC a b c) []=true\/(MC a b c=[]/\([]:List (Int×ByteArray))=[]):=by
 unfold MC
 split
 ·rename_i h
  refine .inl ?_;obtain⟨⟨e,f,g⟩,i,j⟩:=PA h;refine ai ⟨by simp[ND,LP];omega,by simp[ND,LP];omega,σ⟩ (λs d=>?_) σ;exact G5 a b c h s d
 exact .inr ⟨rfl,rfl⟩
theorem Wo.ok.pow{x:Wo}(h:x.ok)(a:List Int):(x.pow a).ok:=⟨nK a x.ss x.ws,TQ,h.p,h.t⟩
theorem mQ(a:List ByteArray)(b:List (Int×ByteArray))(c:List OpT)(z:Int):LG (NG a b c z).1 (NG a b c z).2=true\/((NG a b c z).1=[]/\(NG a b c z).2=[]):=by
 unfold NG
 split
 ·rename_i h;exact .inl (nQ _ (a,b) h)
 exact .inr ⟨rfl,rfl⟩
theorem Wo.ok.ran{x:Wo}(h:x.ok)(e:Ev){d:Dd}(j:d.ok)(c:(PU x e d).length<=2000/\(NW x e d).length<=200):(x.ran e d).ok:=by
 obtain⟨g,l,i⟩:=j
 have f:∀s∈PU x e d,s.size<=64:=by
  intro s b;rcases BS.1 b with b|b
  ·exact h.t.2 s b
  obtain⟨o,k,a⟩:=List.mem_filterMap.1 b
  split at a
  ·cases a
  injection a with a
  rw[<-a];exact i o (DM k)
 have b:∀r∈NW x e d,LV r=true:=by
  unfold NW
  split
  ·intro r a
   rcases BS.1 a with a|a
   ·exact h.p.2 r a
   rw[DJ.1 a];exact g
  exact h.p.2
 exact⟨mQ _ _ _ _,h.s,⟨c.2,b⟩,⟨c.1,f⟩⟩
theorem Wo.ok.doE{x:Wo}(h:x.ok)(e:Ev):(x.doE e).ok:=by
 have i:=h.call e;unfold Wo.doE;generalize (x.call e)=c at i⊢;obtain⟨d,l⟩:=c;obtain⟨b,f,g⟩:=i
 split
 ·exact h.pow _
 split
 ·exact h
 split
 ·exact h
 rename_i j
 simp only at j b f g⊢;have a:=h.ran e (d:=d) ⟨b,f,g⟩ ω
 split
 ·exact a.pow _
 split
 ·exact⟨a.d,b,a.p,a.t⟩
 exact⟨a.d,b,⟨σ,λr k=>by rw[DJ.1 k];exact b⟩,a.t⟩
section
structure Only(o:Nat->Nat)(K:Nat->Prop)(w w':World):Prop where
 os:w'.os=w.os
 tape:w'.tape=w.tape
 output:w'.output=w.output
 size:w.heap.size<=w'.heap.size
 block:∀b,b<w.heap.size->¬K (o b)->w'.heap[b]?=w.heap[b]?
def OwL(w:World)(o:Nat->Nat)(k:Nat)(a:Option Addr)(b:List Value):Prop:=b=[]\/∃g,a=some ⟨g,0,none⟩/\Row w g b/\o g=k
def PsR(w:World)(o:Nat->Nat)(p:Option Addr)(n:Nat)(R:Nat->List Pr):Prop :=n=0\/∃b,p=some ⟨b,0,none⟩/\b<w.heap.size/\o b=5/\∀i,i<n->∃a c,w.cell? ⟨b,i,none⟩=some (.slice a (R i).length c)/\OwL w o (7+i) a (LH (R i))
section
variable {w w' v:World} {o o':Nat->Nat} {k:Nat} {a p:Option Addr} {cs:List Value} {r:Option Nat} {K K':Nat->Prop} {n:Nat} {R R':Nat->List Pr} {rs:List Pr}
theorem Only.j(h:Only o K w w')(c:Only o K w' v):Only o K w v :=⟨c.os.j h.os,c.tape.j h.tape,c.output.j h.output,AL h.size c.size,λb d e=>(c.block b (AD d h.size) e).j (h.block b d e)⟩
theorem Only.A(h:Only o K w w')(d:∀k,K k->K' k):Only o K' w w':=⟨h.os,h.tape,h.output,h.size,λb c k=>h.block b c (λe=>k (d _ e))⟩
theorem sy(h:Below w.heap.size w w'):Only o K w w':=⟨h.os,h.tape,h.output,h.size,λb c _=>h.block b c⟩
theorem nt(h:w.grownBy w' r)(d:∀g,r=some g->K (o g)):Only o K w w':=⟨h.os,h.tape,h.output,h.size,λb c k=>h.block b c (λe=>k (d b e.symm))⟩
theorem OwL.own(h:OwL w o k a cs):OwnS w a cs:=h.imp_right λ⟨g,e,h,_⟩=>⟨g,e,h⟩
theorem um(h:OwnS w a cs)(e:∀g,a=some ⟨g,0,none⟩->cs≠[]->o g=k):OwL w o k a cs:=by
 by_cases b:cs=[]
 ·exact .inl b
 obtain⟨g,c,d⟩:=h.resolve_left b
 exact .inr ⟨g,c,d,e g c b⟩
theorem OwL.only(h:OwL w o k a cs)(b:Only o K w w')(c:¬K k):OwL w' o k a cs :=h.imp_right λ⟨g,e,h,n⟩=>⟨g,e,VQ h (b.block g h.lt (by rw[n];exact c)) (AD h.lt b.size),n⟩
theorem OwL.lab(h:OwL w o k a cs)(c:∀b,b<w.heap.size->o' b=o b):OwL w o' k a cs:=h.imp_right λ⟨g,e,h,n⟩=>⟨g,e,h,(c g h.lt).j n⟩
theorem OwL.gb{g m:Nat}(h:OwL w o k a cs)(c:cs=[]->m=0)(e:blk a m=some g):o g=k:=by
 rcases h with h|⟨b,rfl,h,n⟩
 ·rw[c h]at e;simp[blk]at e
 rw[ee e];exact n
theorem OwL.prb{g:Nat}(h:OwL w o k a (LH rs))(e:blk a rs.length=some g):o g=k:=h.gb (λe=>by have:=BY List.length e;rw[XL,AR]at this;omega) e
theorem PsR.only(h:PsR w o p n R)(d:Only o K w w')(m:¬K 5)(q:∀i,¬K (7+i)):PsR w' o p n R :=h.imp_right λ⟨b,e,f,c,t⟩=>⟨b,e,AD f d.size,c,λi s=>by
  obtain⟨u,g,j,l⟩:=t i s
  exact⟨u,g,(CT (a:=⟨b,i,none⟩) (d.block b f (by rw[c];exact m))).j j,l.only d (q i)⟩⟩
theorem PsR.lab(h:PsR w o p n R)(f:∀b,b<w.heap.size->o' b=o b):PsR w o' p n R :=h.imp_right λ⟨b,e,d,c,q⟩=>⟨b,e,d,(f b d).j c,λi m=>by
  obtain⟨s,g,j,l⟩:=q i m
  exact⟨s,g,j,l.lab f⟩⟩
theorem PsR.congr(h:PsR w o p n R)(f:∀i,i<n->R i=R' i):PsR w o p n R' :=h.imp_right λ⟨b,e,g,c,j⟩=>⟨b,e,g,c,λi d=>by rw[<-f i d];exact j i d⟩
theorem PsR.put(h:PsR w o p n R){j:Nat}(H:j<n):∃b c f,p=some ⟨b,0,none⟩/\b<w.heap.size/\w.cell? ⟨b,j,none⟩=some (.slice c (R j).length f)/\OwL w o (7+j) c (LH (R j))/\∀w' S,w.grownBy w' (blk c (R j).length)->OwnS w' c (LH S)->S.length=(R j).length->PsR w' o p n (λi=>if i=j then S else R i):=by
 obtain⟨b,e,s,z,C⟩:=h.resolve_left ω;obtain⟨c,f,y,q⟩:=C j H;refine⟨b,c,f,e,s,y,q,λw' S B I F=>.inr ⟨b,e,AD s B.size,z,λi G=>?_⟩⟩;have A:Only o (λk=>k=7+j) w w':=nt B (λg k=>q.prb k);obtain⟨t,m,d,E⟩:=C i G;have u:=(CT (a:=⟨b,i,none⟩) (A.block b s (by rw[z];omega))).j d
 by_cases l:i=j
 ·subst l
  obtain⟨rfl,_,rfl⟩:t=c/\True/\m=f:=by rw[y]at d;injection d with d;injection d with i x D;exact⟨i.symm,trivial,D.symm⟩
  refine⟨t,m,?_,?_⟩
  ·simp only[GZ];rw[F];exact u
  simp only[GZ]
  exact um I (λg i x=>q.gb (m:=1) (λe=>absurd (AB (by have:=BY List.length e;rw[XL,AR]at this;omega:S.length=0)) (λe=>x (by rw[e];rfl))) (by rw[i];rfl))
 refine⟨t,m,?_,?_⟩
 ·simp only[AG l];exact u
 simp only[AG l];exact E.only A ω
end
abbrev YR(w:World)(o:Nat->Nat)(p:Option Addr)(P:List (List Pr)):Prop:=PsR w o p P.length (λi=>P.getD i [])
theorem PsR.pst{w:World}{o:Nat->Nat}{p:Option Addr}{P:List (List Pr)}(h:YR w o p P):Pst w p P:=by
 rcases h with h|⟨b,e,g,l,j⟩
 ·exact .inl (AB h)
 refine .inr ⟨b,0,e,g,λi f=>?_⟩
 obtain⟨k,a,c,d⟩:=j i f;exact⟨k,a,by rw[BH];exact c,d.own.prs⟩
structure WoG(c1 c2 c3:List Value)(n:Nat)(R:Nat->List Pr)(c5:List Value)(w:World)(q:Wp)(o:Nat->Nat):Prop where
 h1:OwL w o 1 q.a c1
 h2:OwL w o 2 q.a' c2
 h3:OwL w o 3 q.s c3
 h4:PsR w o q.p n R
 h5:OwL w o 4 q.t c5
section
variable {c1 c2 c3:List Value} {n:Nat} {R:Nat->List Pr} {c5:List Value} {w w':World} {q:Wp} {o o':Nat->Nat} {K:Nat->Prop}
theorem WoG.only(h:WoG c1 c2 c3 n R c5 w q o)(b:Only o K w w')(a:∀k,K k->k=0):WoG c1 c2 c3 n R c5 w' q o :=⟨h.h1.only b (λk=>nomatch a _ k),h.h2.only b (λk=>nomatch a _ k),h.h3.only b (λk=>nomatch a _ k),h.h4.only b (λk=>nomatch a _ k) (λi k=>by have:=a _ k;omega),h.h5.only b (λk=>nomatch a _ k)⟩
theorem WoG.z(h:WoG c1 c2 c3 n R c5 w q o)(a:Below w.heap.size w w'):WoG c1 c2 c3 n R c5 w' q o:=h.only (sy (K:=λ_=>False) a) (λ_ k=>k.elim)
theorem WoG.I{g:Nat}(h:WoG c1 c2 c3 n R c5 w q o)(b:w.grownBy w' (some g))(a:o g=0):WoG c1 c2 c3 n R c5 w' q o:=h.only (nt (K:=λk=>k=0) b (λ_ e=>by cases e;exact a)) (λ_ k=>k)
theorem WoG.lab(h:WoG c1 c2 c3 n R c5 w q o)(a:∀b,b<w.heap.size->o' b=o b):WoG c1 c2 c3 n R c5 w q o':=⟨h.h1.lab a,h.h2.lab a,h.h3.lab a,h.h4.lab a,h.h5.lab a⟩
end
abbrev RH(x:Wo)(w:World)(q:Wp)(o:Nat->Nat):Prop:=WoG (x.ss.map Value.string) (MH x.ws) (LH x.rs) x.P.length (λi=>x.P.getD i []) (x.ts.map Value.string) w q o
theorem WoG.at{x:Wo}{w:World}{q:Wp}{o:Nat->Nat}(h:RH x w q o):x.at w q:=⟨h.h1.own.strs,h.h2.own.wrs,h.h3.own.prs,PsR.pst h.h4,h.h5.own.strs⟩
end
section
def PstF(w:World)(F:Nat->Prop)(p:Option Addr)(P:List (List Pr)):Prop :=P=[]\/∃b o,p=some ⟨b,o,none⟩/\b<w.heap.size/\F b/\∀i,i<P.length->∃a c,w.cell? ⟨b,o+i,none⟩=some (.slice a (P.getD i []).length c)/\DepF w F (λW=>Prs W a (P.getD i []))
section
variable {w w':World} {F G:Nat->Prop} {p:Option Addr} {P:List (List Pr)}
theorem PstF.step(h:PstF w F p P)(a:Below 0 w w')(e:∀b,F b->b<w.heap.size->w'.heap[b]?=w.heap[b]?):PstF w' F p P:=by
 rcases h with h|⟨b,o,g,c,d,j⟩
 ·exact .inl h
 refine .inr ⟨b,o,g,AD c a.size,d,λi m=>?_⟩
 obtain⟨n,f,k,l⟩:=j i m;exact⟨n,f,(CT (a:=⟨b,o+i,none⟩) (e b d c)).j k,l.step a e⟩
theorem PstF.A(h:PstF w F p P)(hF:∀b,b<w.heap.size->F b->G b):PstF w G p P:=by
 rcases h with h|⟨b,o,d,a,e,f⟩
 ·exact .inl h
 refine .inr ⟨b,o,d,a,hF b a e,λi k=>?_⟩
 obtain⟨l,c,g,j⟩:=f i k;exact⟨l,c,g,j.A hF⟩
theorem PstF.pst(h:PstF w F p P):Pst w p P:=by
 rcases h with h|⟨b,o,c,d,l,e⟩
 ·exact .inl h
 refine .inr ⟨b,o,c,d,λi j=>?_⟩
 obtain⟨k,a,f,g⟩:=e i j;exact⟨k,a,f,g.q⟩
theorem PstF.z(h:PstF w F p P)(a:Below w.heap.size w w'):PstF w' F p P:=h.step (a.A (AO _)) (λb _ c=>a.block b c)
end
structure WoF(x:Wo)(w:World)(F:Nat->Prop)(q:Wp):Prop where
 h1:DepF w F (λW=>Strs W q.a x.ss)
 h2:DepF w F (λW=>Wrs W q.a' x.ws)
 h3:DepF w F (λW=>Prs W q.s x.rs)
 h4:PstF w F q.p x.P
 h5:DepF w F (λW=>Strs W q.t x.ts)
section
variable {x:Wo} {w w':World} {F G:Nat->Prop} {q:Wp}
theorem WoF.step(h:WoF x w F q)(a:Below 0 w w')(c:∀b,F b->b<w.heap.size->w'.heap[b]?=w.heap[b]?):WoF x w' F q:=⟨h.h1.step a c,h.h2.step a c,h.h3.step a c,h.h4.step a c,h.h5.step a c⟩
theorem WoF.z(h:WoF x w F q)(a:Below w.heap.size w w'):WoF x w' F q:=h.step (a.A (AO _)) (λb _ c=>a.block b c)
theorem WoF.I{r:Option Nat}(h:WoF x w F q)(a:w.grownBy w' r)(f:∀g,r=some g->¬F g):WoF x w' F q :=h.step (MR a (AO _) (λ_ _=>AO _)) (λb c d=>a.block b d (λe=>f b e.symm c))
theorem WoF.A(h:WoF x w F q)(hF:∀b,b<w.heap.size->F b->G b):WoF x w G q:=⟨h.h1.A hF,h.h2.A hF,h.h3.A hF,h.h4.A hF,h.h5.A hF⟩
theorem WoF.at(h:WoF x w F q):x.at w q:=⟨h.h1.q,h.h2.q,h.h3.q,h.h4.pst,h.h5.q⟩
end
def kc(w a:World)(F:Nat->Prop)(e:Ending)(x:Wo):Prop:=∃q,e=.returned (LO x q)/\WoF x a (λb=>F b\/w.heap.size<=b) q/\Below w.heap.size w a
theorem Eb{w:World}{F:Nat->Prop}{p:Option Addr}{P:List (List Pr)}(h:PstF w F p P):∃a:List Value,a.length=P.length/\(∀u∈a,u.oneCell'=true)/\(∀i,i<P.length->∃d f,a[i]?=some (.slice d (P.getD i []).length f)/\DepF w F (λW=>Prs W d (P.getD i [])))/\(P=[]\/∃b o,p=some ⟨b,o,none⟩/\b<w.heap.size/\∀i u,a[i]?=some u->w.cell? ⟨b,o+i,none⟩=some u):=by
 rcases h with h|⟨b,o,k,l,m,g⟩
 ·exact⟨[],by simp[h],σ,by simp[h],.inl h⟩
 have n:∀i,i<P.length->∃u,w.cell? ⟨b,o+i,none⟩=some u:=λi a=>by obtain⟨d,f,c,_⟩:=g i a;exact⟨_,c⟩
 refine⟨(List.range P.length).map λi=>(w.cell? ⟨b,o+i,none⟩).getD undef,σ,λu j=>?_,λi a=>?_,.inr ⟨b,o,k,l,λi u j=>?_⟩⟩
 ·obtain⟨i,a,rfl⟩:=DL.1 j
  obtain⟨d,f,c,_⟩:=g i (EZ.1 a);rw[c];rfl
 ·obtain⟨d,f,c,e⟩:=g i a
  exact⟨d,f,by simp[a,c],e⟩
 obtain⟨a,e⟩:=CW.1 j
 simp only[BP,KC]at a;obtain⟨d,f,c,_⟩:=g i a;rw[<-e];simp[c]
theorem QJ(w:World)(o:Obj):Below w.heap.size w (w.alloc o):=KW _ _
theorem ZU(b j:Nat):(⟨b,0,none⟩:Addr).add j=⟨b,j,none⟩:=by unfold Addr.add;split<;>simp_all
theorem jv(x:Int)(a:-9223372036854775808<=x)(b:x<=9223372036854775807):IntKind.i64.wrap x=x:=by
 simp[IntKind.wrap,IntKind.bits,IntKind.signed];omega
theorem pC{w:World}{g i:Nat}{v:Value}(h:w.cell? ⟨g,i,none⟩=some v):g<w.heap.size:=by
 by_cases a:g<w.heap.size
 ·exact a
 simp[World.cell?,DP (by omega:w.heap.size<=g)]at h
theorem ny{w:World}{a:Nat}{e:TypeId}{c:Nat}{g n d:Nat}{i:List Value}(h:w.ownsRow a e c (.slice (some ⟨g,0,none⟩) n d) n i):a<=g:=by
 rcases h.2 with h|⟨k,j,f,b,l,_⟩
 ·cases h.1
 injection b with b
 injection b with b;injection b with b;omega
theorem Ip{P:Program}{w:World}{F:Nat->Prop}{p:Option Addr}{Q:List (List Pr)}(h:PstF w F p Q)(t e:TypeId)(g:P.underlying t=some (.slice e))(c:Nat):∃a,(∀d,Below w.heap.size w d->Src P 1 t (.slice p Q.length c) Q.length a d)/\a.length=Q.length/\(∀i,i<Q.length->∃b f,a[i]?=some (.slice b (Q.getD i []).length f)/\DepF w F (λW=>Prs W b (Q.getD i []))):=by
 obtain⟨a,i,k,l,f⟩:=Eb h;refine⟨a,λd n=>?_,i,l⟩;rcases f with f|⟨b,o,rfl,q,m⟩
 ·subst f
  have:a=[]:=AB i;subst this
  cases p with
  | none=>exact Src.ofNil d g c
  | some x=>exact Src.ofSlice d g x 0 c [] σ σ σ
 refine Src.ofSlice d g ⟨b,o,none⟩ Q.length c a ω (λj u r=>?_) k
 have d:(⟨b,o,none⟩:Addr).add j=⟨b,o+j,none⟩:=by unfold Addr.add;split<;>simp_all
 rw[d];exact(n.cell (p:=⟨b,o+j,none⟩) q).j (m j u r)
theorem kq{w:World}{F G:Nat->Prop}{g:Nat}{P:List (List Pr)}{a:List Pr}{news:List Value}{f:Option Addr}{k:Nat}(q:news.length=P.length)(h:∀i,i<P.length->∃b c,news[i]?=some (.slice b (P.getD i []).length c)/\DepF w F (λW=>Prs W b (P.getD i [])))(d:Row w g (news++[.slice f a.length k]))(o:F g)(n:DepF w F (λW=>Prs W f a)):PstF w F (some ⟨g,0,none⟩) (P++[a]):=by
 refine .inr ⟨g,0,rfl,d.lt,o,λi p=>?_⟩;rw[AE,EQ]at p
 by_cases j:i<P.length
 ·obtain⟨b,c,l,m⟩:=h i j
  have e:(P++[a]).getD i []=P.getD i []:=by simp[List.getD,BA j]
  rw[e,BH];exact⟨b,c,d.cell i _ (by rw[BA ω];exact l),m⟩
 obtain rfl:i=P.length:=ω
 have e:(P++[a]).getD P.length []=a:=by simp[List.getD]
 rw[e,BH];exact⟨f,k,d.cell _ _ (by rw[<-q];simp),n⟩
theorem qH{w:World}{F:Nat->Prop}{g:Nat}{a:List Pr}{oa:Option Addr}{oc:Nat}(e:Row w g [.slice oa a.length oc])(c:F g)(b:DepF w F (λW=>Prs W oa a)):PstF w F (some ⟨g,0,none⟩) [a] :=kq (G:=F) (P:=[]) (news:=[]) rfl (λi d=>absurd d σ) e c b
theorem nJ{P:Program}{w:World}(t h e:TypeId)(i:TypeInfo)(z:Value)(a k:Nat)(m:P.underlying t=some (.slice e))(l:P.info? e=some i)(A:i.zero=some z)(o:i.size=a)(r:i.bytes=k)(u:z.cells.size=a)
  (b B:Nat)(x:w.ownsRow B e a (.slice (some ⟨b,0,none⟩) 0 0) 0 [])(v:Value)(n:Nat)(c:List Value)(d:Src P a t v n c w)(C:n<=1048576)(q:n*k<=281474976710656)(y:B<=w.heap.size):∃g f j,(Builtin.append_ #[t,t] h #[.slice (some ⟨b,0,none⟩) 0 0,v]).run P w=.ok (.slice (some ⟨g,0,none⟩) n f) j/\j.ownsRow B e a (.slice (some ⟨g,0,none⟩) n f) n c/\(g=b\/g=w.heap.size)/\Below w.heap.size w j:=by
 subst o r
 by_cases s:n=0
 ·subst s
  have g:c=[]:=AB (by have:=d.newsLen;omega);subst g;have f:=run_append_room_src (P:=P) w t t h e i m l b 0 0 0 v 0 [] d ω σ σ;exact⟨_,_,_,f,x,.inl rfl,AC _ _⟩
 have p:(Builtin.firstCells i.size 0 (.slice (some ⟨b,0,none⟩) 0 0)).run P w.drew=.ok ([]:List Value).toArray w.drew:=GC w.drew i.size 0 _ 0 0 [] σ σ
 have f:=run_append_grow_src (P:=P) w t t h e i z m l A (some ⟨b,0,none⟩) 0 0 [] p v n c d ω ω (by rw[BH,mR n ω];exact q);refine⟨_,_,_,by rw[f,BH],?_,.inr rfl,(AC _ _).drew.alloc (Y _) _⟩;have g:=JA w (0+n) 0 e;have j:=GY w (0+n) 0 e (by unfold maxLen;omega);rw[BH]at g j;refine⟨d.newsLen,.inr ⟨w.heap.size,_,_,rfl,y,AW w.drew _,g,j,?_,?_⟩⟩
 ·simp[JY,d.newsLen,u]
  rw[<-GD]
  congr 1
  omega
 simp[d.newsLen]
theorem oK{P:Program}{w:World}{m:Array Oper}{l:List Oper}{o:Oper}{a:Act}{Q:Exit->Act->World->Prop}(A:o.guard=none)(s x:Operand)(t:TypeId)
  (N:o.op=.call { callee:=.builtin .append,args:=#[s,x],argTypes:=#[t,t] })(e:TypeId)(i:TypeInfo)(z:Value)(c k:Nat)(R:P.underlying t=some (.slice e))(L:P.info? e=some i)(T:i.zero=some z)(p:i.size=c)(y:i.bytes=k)(C:z.cells.size=c)
  (b B:Nat)(O:a.eval s=.slice (some ⟨b,0,none⟩) 0 0)(D:w.ownsRow B e c (.slice (some ⟨b,0,none⟩) 0 0) 0 [])(v:Value)(S:a.eval x=v)(n:Nat)(d:List Value)(r:Src P c t v n d w)(M:n<=1048576)(u:n*k<=281474976710656)(H:B<=w.heap.size)
  (h:∀g f j,j.ownsRow B e c (.slice (some ⟨g,0,none⟩) n f) n d->(g=b\/g=w.heap.size)->Below w.heap.size w j->wpList P m Q l (a.put o.dst (.slice (some ⟨g,0,none⟩) n f)) j):wpList P m Q (o::l) a w:=by
 refine IN A λK I=>?_
 obtain⟨g,f,j,q,E,F,G⟩:=nJ (P:=P) (w:=w) t o.type e i z c k R L T p y C b B D v n d r M u H;unfold Oper.wp;simp[execOp,N,resolve,invoke,builtin,O,S,q,Result.andThen];exact I _ _ (h g f j E F G)
theorem YJ{P:Program}{w:World}{l:Array Oper}{o:Oper}{a:Act}{K:Act->World->Prop}{Q:Exit->Act->World->Prop}{E:Prop}(y:o.guard=none)(s x:Operand)(t:TypeId)
  (M:o.op=.call { callee:=.builtin .append,args:=#[s,x],argTypes:=#[t,t] })(e:TypeId)(i:TypeInfo)(z:Value)(c k:Nat)(O:P.underlying t=some (.slice e))(I:P.info? e=some i)(T:i.zero=some z)(m:i.size=c)(u:i.bytes=k)(A:z.cells.size=c)
  (b B:Nat)(N:a.eval s=.slice (some ⟨b,0,none⟩) 0 0)(C:w.ownsRow B e c (.slice (some ⟨b,0,none⟩) 0 0) 0 [])(v:Value)(S:a.eval x=v)(n:Nat)(d:List Value)(q:Src P c t v n d w)(L:n<=1048576)(r:n*k<=281474976710656)(H:B<=w.heap.size)
  (h:∀g f j,j.ownsRow B e c (.slice (some ⟨g,0,none⟩) n f) n d->(g=b\/g=w.heap.size)->Below w.heap.size w j->K (a.put o.dst (.slice (some ⟨g,0,none⟩) n f)) j):if Region.wanted o (yielded l a.tmps)=true then Oper.wp P o a w K Q else E:=by
 have R:Region.wanted o (yielded l a.tmps)=true:=by simp[Region.wanted,y]
 rw[AF R];obtain⟨g,f,j,p,D,F,G⟩:=nJ (P:=P) (w:=w) t o.type e i z c k O I T m u A b B C v n d q L r H;unfold Oper.wp;simp[execOp,M,resolve,invoke,builtin,N,S,p,Result.andThen];exact h g f j D F G
end
theorem LX:(prog.info? 36).map (·.size)=some 16:=κ
theorem PstF.I{w c:World}{F:Nat->Prop}{p:Option Addr}{P:List (List Pr)}{r:Option Nat}(h:PstF w F p P)(a:w.grownBy c r)(i:∀g,r=some g->¬F g):PstF c F p P :=h.step (MR a (AO _) (λ_ _=>AO _)) (λb d f=>a.block b f (λe=>i b e.symm d))
theorem ZH:(prog.info? 33).map (·.size)=some 10:=κ
section
theorem Gp{a:List ByteArray}(h:a.map Value.string=[]):a.length=0:=by have:=BY List.length h;simpa using this
theorem wM{b:List (Int×ByteArray)}(h:MH b=[]):b.length=0:=by
 cases b with
 | nil=>rfl
 | cons a l=>simp[MH]at h
theorem OwL.other{w d:World}{o:Nat->Nat}{k:Nat}{a:Option Addr}{c b:List Value}(h:OwL w o k a c)(l:OwnS d a b)(e:b≠[]->c≠[]):OwL d o k a b :=um l (λg f i=>h.gb (m:=1) (λj=>absurd j (e i)) (by rw[f];rfl))
theorem OwL.apart{w:World}{o:Nat->Nat}{k i m c:Nat}{a b:Option Addr}{f d:List Value}(h:OwL w o k a f)(n:OwL w o i b d)(p:k≠i)(q:f=[]->m=0)(j:d=[]->c=0):blk a m=none\/blk b c=none\/blk a m≠blk b c:=by
 cases e:blk a m with
 | none=>exact .inl rfl
 | some g=>exact .inr (.inr λl=>p ((h.gb q e).symm.j (n.gb j l.symm)))
theorem Row.only{w c:World}{o:Nat->Nat}{K:Nat->Prop}{g:Nat}{a:List Value}(r:Row w g a)(b:Only o K w c)(d:¬K (o g)):Row c g a:=VQ r (b.block g r.lt d) (AD r.lt b.size)
section
variable (x:Wo) (q:Wp) (o:Nat->Nat) (w:World)
end
end
section
theorem qh(a n:Int):MU LM a n=none:=by
 have h:MI LM n=none:=by
  apply YV
  rintro⟨e,f,c,g,b⟩
  have d:SW (LM.extract n.toNat 64)=0:=by
   obtain⟨k,rfl⟩:∃k:Nat,n=(k:Int):=⟨n.toNat,ω⟩;have:k=1\/k=2\/k=3\/k=4\/k=5\/k=6\/k=7\/k=8:=ω
   rcases this with rfl|rfl|rfl|rfl|rfl|rfl|rfl|rfl<;>decide
  rw[d]at b;unfold LS at b;rw[AG (by unfold MN;simp)]at b;rw[<-b]at c;exact absurd c δ
 unfold MU;rw[h]
theorem nF(h f:Int):(RQ h f).size=5:=by
 unfold RQ;rw[BK];rfl
structure RoOk(t h f l n:Int):Prop where
 t0:1<=t
 t1:t<=1000000000
 hf:TJ h f
 l0:1<=l
 l1:l<=60000
 n0:1<=n
 n1:n<=8
section
variable {t h f l n:Int}
theorem RoOk.page(x:RoOk t h f l n):MN 4 l t (RQ h f) n=true:=by
 have:=x.t0;have:=x.t1;have:=x.l0;have:=x.l1;have:=x.n0;have:=x.n1;unfold MN;rw[nF];refine AM ⟨x.n0,x.n1,ω,ω,x.l0,x.l1,x.t0,x.t1,ω,ω⟩
theorem RoOk.form(x:RoOk t h f l n):MB t h f l n=RJ 4 l t (RQ h f) n.toNat:=by
 unfold MB LS;rw[AF x.hf,AF x.page]
theorem RoOk.res(x:RoOk t h f l n):MI (MB t h f l n) n=some (4,l,t,RQ h f):=by
 have:=x.n0;obtain⟨k,rfl⟩:∃k:Nat,n=(k:Int):=⟨n.toNat,ω⟩;rw[x.form];exact ti 4 l t _ k x.page
theorem RoOk.size(x:RoOk t h f l n):(MB t h f l n).size=64:=(SI x.res).1
theorem xP(a b:ByteArray):KU (a++b)=KU a++KU b:=by
 unfold KU;simp
theorem RoOk.parts(x:RoOk t h f l n):QV (RQ h f)=h/\QQ (RQ h f)=f:=by
 obtain⟨b,g,i,j⟩:=x.hf;have c:KU (strOfNums (be 1 h))=be 1 h:=kp _ (dw 1 h);have d:KU (strOfNums (be 4 f))=be 4 f:=kp _ (dw 4 f);have a:(be 1 h).length=1:=rfl;have e:(be 4 f).length=4:=rfl;unfold QV QQ RQ;rw[xP,c,d]
 constructor
 ·rw[EK a]
  exact ra h b ω
 rw[EY a,AV (by rw[e];omega)]
 exact nW f ω ω
theorem RoOk.root(x:RoOk t h f l n)(a:Int):MU (MB t h f l n) a n=if t % 2=a then some (t,h,f,l) else none:=by
 unfold MU;rw[x.res];show(if _ then _ else _)=_;rw[x.parts.1,x.parts.2]
 by_cases b:t % 2=a
 ·rw[AF b,AF ⟨nF h f,rfl,b⟩]
 rw[AG b,AG (λk=>b k.2.2)]
end
def z20:List ByteArray:=List.replicate 20 LM
theorem zx:z20.length=20:=by simp[z20]
theorem Ai{s:ByteArray}(h:s∈z20):s=LM:=by
 unfold z20 at h;exact List.eq_of_mem_replicate h
theorem Dg(a:List (Int×ByteArray))(e:a.length<=300)(c:∀x∈a,(x.1=0\/x.1=1)/\x.2.size=64):LG z20 a=true:=by
 refine ai (by rw[zx];omega) (λs b=>by rw[Ai b];decide) (λx d=>?_);have:=c x d;rw[zx];refine AM ?_;omega
section
variable {t h f l n:Int}
theorem mt(a:List (Int×ByteArray))(d:a.length<=300)(e:∀x∈a,(x.1=0\/x.1=1)/\x.2.size=64)(b:1<=n)(c:n<=8):MG z20 a n=OF ((xhE a z20).getD 0 empty) ((xhE a z20).getD 1 empty) n:=by
 unfold MG;rw[AF ⟨Dg a d e,b,c⟩]
theorem VO(t:Int):t % 2=0\/t % 2=1:=ω
theorem RoOk.e(x:RoOk t h f l n):MG z20 [(t % 2,MB t h f l n)] n=(t,h,f,l):=by
 have b:=x.t0;rw[mt _ σ (λy a=>by rw[DJ.1 a];exact⟨VO t,x.size⟩) x.n0 x.n1];rcases VO t with e|e<;>rw[e]
 ·show OF (MB t h f l n) LM n=_
  unfold OF;rw[qh,x.root,AF e];show(if (0:Int)<t then _ else _)=_;rw[AF ω]
 show OF LM (MB t h f l n) n=_
 unfold OF;rw[qh,x.root,AF e];show(if (0:Int)<t then _ else _)=_;rw[AF ω]
theorem RoOk.up{a c b d:Int}(x:RoOk t h f l n)(y:RoOk a c b d n)(j:a=t+1):MG z20 [(t % 2,MB t h f l n),(a % 2,MB a c b d n)] n=(a,c,b,d):=by
 have i:=x.t0;rw[mt _ σ (λz e=>by simp only[DX,EE,GR]at e;rcases e with rfl|rfl;exact⟨VO t,x.size⟩;exact⟨VO a,y.size⟩) x.n0 x.n1];rcases VO t with e|e
 ·have g:a % 2=1:=ω
  rw[e,g];show OF (MB t h f l n) (MB a c b d n) n=_;unfold OF;rw[y.root,x.root,AF e,AF g];show(if (if (0:Int)<t then (t,h,f,l) else (0,0,1,0)).1<a then _ else _)=_;rw[AF (by omega:(0:Int)<t),AF (by show t<a;omega)]
 have g:a % 2=0:=ω
 rw[e,g];show OF (MB a c b d n) (MB t h f l n) n=_;unfold OF;rw[y.root,x.root,AF e,AF g];show(if (if (0:Int)<a then (a,c,b,d) else (0,0,1,0)).1<t then _ else (if (0:Int)<a then (a,c,b,d) else (0,0,1,0)))=_;rw[AF (by omega:(0:Int)<a),AG (by show ¬a<t;omega)]
theorem RoOk.down{a d c g:Int}(x:RoOk t h f l n)(y:RoOk a d c g n)(k:a=t-1):MG z20 [(t % 2,MB t h f l n),(a % 2,MB a d c g n)] n=(t,h,f,l):=by
 have i:=x.t0;have j:=y.t0;rw[mt _ σ (λz b=>by simp only[DX,EE,GR]at b;rcases b with rfl|rfl;exact⟨VO t,x.size⟩;exact⟨VO a,y.size⟩) x.n0 x.n1];rcases VO t with e|e
 ·have b:a % 2=1:=ω
  rw[e,b];show OF (MB t h f l n) (MB a d c g n) n=_;unfold OF;rw[y.root,x.root,AF e,AF b];show(if (if (0:Int)<t then (t,h,f,l) else (0,0,1,0)).1<a then _ else (if (0:Int)<t then (t,h,f,l) else (0,0,1,0)))=_;rw[AF (by omega:(0:Int)<t),AG (by show ¬t<a;omega)]
 have b:a % 2=0:=ω
 rw[e,b];show OF (MB a d c g n) (MB t h f l n) n=_;unfold OF;rw[y.root,x.root,AF e,AF b];show(if (if (0:Int)<a then (a,d,c,g) else (0,0,1,0)).1<t then _ else _)=_;rw[AF (by omega:(0:Int)<a),AF (by show a<t;omega)]
theorem RoOk.wrong{a c b d:Int}(x:RoOk t h f l n)(y:RoOk a c b d n)(g:a=t+1):MG z20 [(t % 2,MB t h f l n),(t % 2,MB a c b d n)] n=(0,0,1,0):=by
 rw[mt _ σ (λz e=>by simp only[DX,EE,GR]at e;rcases e with rfl|rfl;exact⟨VO t,x.size⟩;exact⟨VO t,y.size⟩) x.n0 x.n1];rcases VO t with e|e<;>rw[e]
 ·show OF (MB a c b d n) LM n=_
  unfold OF;rw[qh,y.root,AG ω];rfl
 show OF LM (MB a c b d n) n=_
 unfold OF;rw[qh,y.root,AG ω];rfl
end
end
theorem yf{s:ByteArray}{l f:Int}{n m N k:Nat}(d:1<=n/\n<=8)(c:n+m=56)(h:1<=l/\l<=60000/\1<=f/\f+(N:Int)<=1000000001)(b:k<N):(TM s l f n m N k).size=64:=by
 unfold TM LS;have e:(s.extract (k*m) (k*m+m)).size<=m:=by rw[AK];omega
 have a:MN (if k+1=N then 2 else 1) l (f+(k:Int)) (s.extract (k*m) (k*m+m)) (n:Int)=true:=by
  unfold MN;refine AM ?_
  split<;>omega
 rw[AF a,aa _ _ _ _ _ τ]
theorem zF{W S L T H F R U O:Int}{rs:List Pr}{b:List Ch}(h:(NR W S L T H F R U O rs b).C=0):∃a d c,(NR W S L T H F R U O rs b).ops=(false,a,d)::c/\0<=a/\a<S/\d.size=64:=by
 unfold NR at h⊢
 split at h
 ·rename_i e
  rw[AF e];rw[BE]at e;obtain⟨⟨o,p⟩,k,v,y,r,u,u1,w,x⟩:=UE e.1
  split at h
  ·rename_i m
   rw[AF m]
   split at h
   ·rename_i n
    rw[AF n]
    split at h
    ·rename_i i
     rw[AF i];have t:=PJ k;have s:2*hv S+2<=S:=by unfold hv;rw[AF k];omega
     obtain⟨N,f⟩:∃N,N=NA (KZ b).size (56-W.toNat):=⟨_,rfl⟩
     have l:MY (KZ b).size W=(N:Int):=by
      unfold MY;rw[AF ⟨o,p⟩,f,show(56-W).toNat=56-W.toNat by omega]
     have q:1<=N:=by
      rw[f];unfold NA;split
      ·exact Y 1
      exact Nat.le_add_left 1 _
     rw[l]at i;have g:1<=L/\L<=60000/\1<=F+U/\F+U+(N:Int)<=1000000001:=ω
     show ∃a d c,MA (2+H*hv S+U) (NV (KZ b) L (F+U) W.toNat (56-W.toNat))=(false,a,d)::c/\0<=a/\a<S/\d.size=64;rw[YG f g];obtain⟨M,rfl⟩:∃M,N=M+1:=⟨N-1,ω⟩;have j:H=0\/H=1:=ω
     refine⟨_,_,_,by unfold MA PG;rw[List.range_succ_eq_map,IC,List.mapIdx_cons],?_,?_,yf ω ω g ω⟩
     ·rcases j with rfl|rfl<;>simp<;>omega
     rcases j with rfl|rfl<;>simp<;>omega
    exact absurd h (by simp[LD])
   exact absurd h (by simp[LD])
  exact absurd h (by simp[LD])
 exact absurd h (by simp[LD])
theorem Js{a:List ByteArray}{b:List (Int×ByteArray)}{n:Int}(h:(OM a b n).C=0):(OM a b n).S=a.length:=by
 unfold OM at h⊢
 split at h
 ·rename_i f
  rw[AF f]
  split at h
  ·exact absurd h (by simp[LD])
  rename_i i g
  by_cases c:60000<(NT a b n).2.2+1
  ·rw[AF c]at h;exact absurd h (by simp[LD])
  rw[AG c]at h⊢
  by_cases d:hv a.length-1<LT (LI i) n
  ·rw[AF d]at h;exact absurd h (by simp[LD])
  rw[AG d]at h⊢
  by_cases k3:hv a.length<=(NT a b n).2.1
  ·rw[AF k3]at h⊢
   unfold OH at h⊢
   by_cases e:WB (a.length:Int) (MG a b n).1 (MG a b n).2.2.1=true
   ·rw[AF e];rfl
   rw[AG e]at h;exact absurd h (by simp[LD])
  rw[AG k3]
 exact absurd h (by simp[LD])
theorem sZ{a:List ByteArray}{b:List (Int×ByteArray)}(h:LG a b=true)(c:List OpT)(z:Int):LG (NG a b c z).1 (NG a b c z).2=true/\(NG a b c z).1.length=a.length:=by
 have d:(NG a b c z).1.length=a.length:=by unfold NG;rw[AF h,qD]
 have e:=(PA h).1.1;refine⟨(mQ a b c z).resolve_right (λk=>?_),d⟩;rw[k.1]at d;simp at d;omega
theorem Ir{x:Wo}{e:Ev}(h:(x.call e).1.C=0)(a:(x.call e).2=true)(d:x.up=true->x.S=x.ss.length):(x.call e).1.S=x.ss.length:=by
 unfold Wo.call at h a⊢
 by_cases f:e.K=1
 ·rw[AF f]at h⊢;exact Js h
 rw[AG f]at h a⊢
 by_cases g:e.K=2
 ·rw[AF g]at h a⊢
  rw[<-d a];show(NR x.W x.S x.L x.T x.H x.F x.R x.U x.O x.rs e.b).S=x.S;replace h:(NR x.W x.S x.L x.T x.H x.F x.R x.U x.O x.rs e.b).C=0:=h;unfold NR at h⊢
  split at h
  ·rename_i b;rw[AF b]
   split at h
   ·rename_i c;rw[AF c]
    split at h
    ·rename_i j;rw[AF j]
     split at h
     ·rename_i k;rw[AF k]
     exact absurd h (by simp[LD])
    exact absurd h (by simp[LD])
   exact absurd h (by simp[LD])
  exact absurd h (by simp[LD])
 rw[AG g]at h a⊢
 by_cases k3:e.K=3
 ·rw[AF k3]at h a⊢
  rw[<-d a];show(QG x.W x.S x.L x.T x.H x.F x.R x.U x.O x.rs).S=x.S;replace h:(QG x.W x.S x.L x.T x.H x.F x.R x.U x.O x.rs).C=0:=h;unfold QG at h⊢
  split at h
  ·rename_i b;rw[AF b]
  exact absurd h (by simp[LD])
 rw[AG k3]at h a⊢
 by_cases i:e.K=4
 ·rw[AF i]at h a⊢
  rw[<-d a];show(PZ x.W x.S x.L x.T x.H x.F x.R x.U x.O x.rs).S=x.S;replace h:(PZ x.W x.S x.L x.T x.H x.F x.R x.U x.O x.rs).C=0:=h;unfold PZ at h⊢
  split at h
  ·rename_i b;rw[AF b]
   unfold OH at h⊢
   split at h
   ·rename_i c;rw[AF c];rfl
   exact absurd h (by simp[LD])
  exact absurd h (by simp[LD])
 rw[AG i]at a
 exact absurd a σ
theorem gy{a:List ByteArray}{b:List (Int×ByteArray)}(h:LG a b=true)(c:List Int):LG (MC c a b) []=true/\(MC c a b).length=a.length:=by
 have d:(MC c a b).length=a.length:=by unfold MC ND;rw[AF h];simp[LP]
 have e:=(PA h).1.1;refine⟨(nK c a b).resolve_right (λk=>?_),d⟩;rw[k.1]at d;simp at d;omega
structure Wo.good(x:Wo)(N:Nat):Prop where
 ok:x.ok
 d:LG x.ss x.ws=true
 n:x.ss.length=N
 u:x.up=true->x.S=x.ss.length
theorem Wo.good.pow{x:Wo}{N:Nat}(h:x.good N)(a:List Int):(x.pow a).good N :=⟨h.ok.pow a,(gy h.d a).1,(gy h.d a).2.j h.n,λk=>by cases k⟩
theorem Wo.good.doE{x:Wo}{N:Nat}(h:x.good N)(e:Ev):(x.doE e).good N:=by
 refine⟨h.ok.doE e,?_,?_,?_⟩
 all_goals
  obtain⟨D,l⟩:∃D,D=x.call e:=⟨_,rfl⟩;have d:=Ir (x:=x) (e:=e);unfold Wo.doE;rw[<-l]at d⊢;have a:=sZ h.d D.1.ops (evN e D.1)
  by_cases i:e.K=5
  ·rw[AF i]
   first|exact(h.pow e.fs).d|exact(h.pow e.fs).n|exact(h.pow e.fs).u
  rw[AG i]
  by_cases b:D.2=false\/D.1.C≠0
  ·rw[AF b]
   first|exact h.d|exact h.n|exact h.u
  rw[AG b]
  have m:D.2=true:=by
   cases hd2:D.2 with
   | true=>rfl
   | false=>exact absurd (.inl hd2) b
  have j:D.1.C=0:=Decidable.not_not.1 (λk=>b (.inr k));have c:=d j m h.u
  by_cases f:2000<(PU x e D.1).length\/200<(NW x e D.1).length
  ·rw[AF f]
   first|exact h.d|exact h.n|exact h.u
  rw[AG f]
  by_cases k3:QP e D.1=true
  ·rw[AF k3]
   first|exact(gy a.1 e.fs).1|exact((gy a.1 e.fs).2.j a.2).j h.n|(intro k;cases k)
  rw[AG k3]
  by_cases g:e.K=2
  ·rw[AF g]
   first|exact a.1|exact a.2.j h.n|(intro _;exact c.j (by rw[show((x.ran e D.1).upS D.1).ss.length=x.ss.length from a.2]))
  ·rw[AG g]
   first|exact a.1|exact a.2.j h.n|(intro _;exact c.j (BY Nat.cast (show x.ss.length=((x.ran e D.1).upS D.1).ss.length from a.2.symm)))
theorem ug:∀(a b:List OpT) (d:List ByteArray×List (Int×ByteArray)),LA (a++b) d=LA b (LA a d)
 | [],_,_=>rfl
 | o::r,b,d=>by rw[DZ,LA,LA,ug r b]
theorem Hp{b:List ByteArray}{c:List (Int×ByteArray)}(h:LG b c=true)(a:List OpT)(z:Int)(d:(a.length:Int)<=z):NG b c a z=LA a (b,c):=by
 unfold NG;rw[AF h,show QC z a.length=a.length by unfold QC;omega,DA]
theorem zT(a:List ByteArray):(a.map KU).map strOfNums=a:=by
 rw[GW];exact JL (λs=>TI s) a
theorem Iw{a:List ByteArray}(h:LG a []=true)(b:List Int):MC b a []=a:=by
 unfold MC;rw[AF h];show ND (a.map KU)=a;exact zT a
def whole(n:Nat):List Int:=(List.range n).map λi=>64+((i % 2:Nat):Int)
def sec(D:List ByteArray)(k:Nat):ByteArray:=D.getD k empty
theorem p8{S S':Nat->ByteArray}{frm:Nat}{F n:Int}:∀(U i:Nat) (wk wl:Int) (op:ByteArray) (out:Scd),(∀j,i<=j->j<i+U->S (frm+j)=S' (frm+j))->MD S frm F n U i wk wl op out=MD S' frm F n U i wk wl op out
 | 0,_,_,_,_,_,_=>rfl
 | U+1,i,wk,wl,op,out,h=>by
  have ih:=λwk wl op out=>p8 (F:=F) (n:=n) U (i+1) wk wl op out (λj h1 h2=>h j ω ω)
  rw[MD,MD,h i ω ω];simp only[ih]
def Log(S:Nat->ByteArray)(a:Nat)(F n:Int)(U:Nat)(R L:Int)(b:List ByteArray):Prop:=MD S a F n U 0 0 R empty ([],0,R)=(b,(U:Int),L)
theorem yp{S:Nat->ByteArray}{b:Nat}{F n:Int}{q:List ByteArray}{L:Int}:∀(U i:Nat) (j o:Int) (g:ByteArray) (a:Scd),a.2.1<=(i:Int)->MD S b F n U i j o g a=(q,((i+U:Nat):Int),L)->U=0\/∃k,k≠1/\∀f,MD S b F n (U+f) i j o g a=MD S b F n f (i+U) k L empty (q,((i+U:Nat):Int),L)
 | 0,_,_,_,_,_,_,_=>.inl rfl
 | U+1,i,j,o,g,a,ho,h=>by
  right
  have d:a≠(q,((i+(U+1):Nat):Int),L):=λe=>by rw[e]at ho;simp at ho;omega
  rw[MD]at h
  cases hr:MI (S (b+i)) n with
  | none=>rw[hr]at h;exact absurd h d
  | some x =>
   obtain⟨k,l,m,p⟩:=x;rw[hr]at h;simp only at h
   by_cases c:IntKind.i64.wrap (m-(i:Int))=F/\OV j o k l=true
   ·rw[AF c]at h
    by_cases e:k=1
    ·subst e
     rw[AF rfl]at h;have:=yp U (i+1) 1 l (g++p) a ω (by rw[h,show i+1+U=i+(U+1) by omega]);rcases this with r|⟨u,s,t⟩
     ·subst r
      rw[MD]at h;exact absurd h d
     refine⟨u,s,λf=>?_⟩
     rw[show U+1+f=(U+f)+1 by omega,kt hr c.1 c.2,t f,show i+1+U=i+(U+1) by omega]
    rw[AG e]at h
    have:=yp U (i+1) k l empty (if k=2 then a.1++[g++p] else a.1,(i:Int)+1,l) (by show(i:Int)+1<=_;omega) (by rw[h,show i+1+U=i+(U+1) by omega]);rcases this with r|⟨u,s,t⟩
    ·subst r
     rw[MD]at h;refine⟨k,e,λf=>?_⟩;rw[show 0+1+f=f+1 by omega,df hr c.1 c.2 e,h];have v:l=L:=by have:=BY (λx=>x.2.2) h;exact this
     rw[v]
    refine⟨u,s,λf=>?_⟩
    rw[show U+1+f=(U+f)+1 by omega,df hr c.1 c.2 e,t f,show i+1+U=i+(U+1) by omega]
   rw[AG c]at h;exact absurd h d
theorem Log.reach{S:Nat->ByteArray}{a:Nat}{F n:Int}{U:Nat}{R L:Int}{d:List ByteArray}(h:Log S a F n U R L d):∃k,k≠1/\∀f,MD S a F n (U+f) 0 0 R empty ([],0,R)=MD S a F n f U k L empty (d,(U:Int),L):=by
 have:=yp U 0 0 R empty ([],0,R) σ (by rw[BH];exact h);rcases this with e|⟨k,b,c⟩
 ·subst e
  unfold Log at h;rw[MD]at h;obtain⟨b,c⟩:=IY h;have g:R=L:=(IY c).2;subst b g;exact⟨0,δ,λf=>by rw[BH];rfl⟩
 exact⟨k,b,λf=>by rw[c f,BH]⟩
theorem Log.congr{S b:Nat->ByteArray}{a:Nat}{F n:Int}{U:Nat}{R L:Int}{c:List ByteArray}(h:Log S a F n U R L c)(d:∀j,j<U->S (a+j)=b (a+j)):Log b a F n U R L c:=by
 unfold Log at h⊢;rw[<-p8 (S:=S) U 0 0 R empty ([],0,R) (λj _ e=>d j ω)];exact h
theorem Log.stop{S:Nat->ByteArray}{a:Nat}{F n:Int}{U:Nat}{R L:Int}{b:List ByteArray}(h:Log S a F n U R L b)(q:Nat)(o:U<=q)(g:U<q->∀k l m p,MI (S (a+U)) n=some (k,l,m,p)->l<L\/IntKind.i64.wrap (m-(U:Int))≠F):MD S a F n q 0 0 R empty ([],0,R)=(b,(U:Int),L):=by
 obtain⟨k,j,e⟩:=h.reach;obtain⟨f,rfl⟩:∃f,q=U+f:=⟨q-U,ω⟩;rw[e f]
 cases f with
 | zero=>rfl
 | succ f =>
  cases hp:MI (S (a+U)) n with
  | none=>exact ms hp
  | some x =>
   obtain⟨i,l,m,p⟩:=x;refine lj hp (λd=>?_);rcases g ω i l m p hp with c|c
   ·have:=d.2
    unfold OV at this;rw[BE]at this;have:=AU this.1;omega
   exact c d.1
theorem Log.entry{S:Nat->ByteArray}{a:Nat}{F:Int}{n m:Nat}{U:Nat}{R L b:Int}{c:List ByteArray}(h:Log S a F (n:Int) U R L c)(e:ByteArray)(N:Nat)(l:n+m=56)(o:1<=n/\n<=8)(j:1<=b/\b<=60000)(d:L<=b)(q:1<=F/\F+(U:Int)+(N:Int)<=1000000001)(f:N=NA e.size m)(g:∀k,k<N->S (a+(U+k))=TM e b (F+(U:Int)) n m N k):Log S a F (n:Int) (U+N) R b (c++[e]):=by
 obtain⟨k,i,p⟩:=h.reach;unfold Log;rw[p N];have:=Jr S a F n m e b N U l o j ω ω f g 0 (c,(U:Int),L) k L i d;rw[FX]at this;rw[this,MD]
theorem me(n:Nat)(d:1<=n/\n<=8)(L f:Int)(c:1<=L/\L<=60000)(b:1<=f/\f<=1000000000):MI (LS 3 L f empty (n:Int)) (n:Int)=some (3,L,f,empty):=by
 have a:MN 3 L f empty (n:Int)=true:=by
  unfold MN;rw[BC];have e:empty.size=0:=rfl;exact⟨ω,ω,ω,ω,ω,ω,ω,ω,by rw[e];omega,λ_=>e⟩
 unfold LS;rw[AF a,BM];exact ti _ _ _ _ n a
theorem Log.life{S:Nat->ByteArray}{b:Nat}{F:Int}{n:Nat}{U:Nat}{R L a:Int}{c:List ByteArray}(h:Log S b F (n:Int) U R L c)(l:1<=n/\n<=8)(j:1<=a/\a<=60000)(e:L<=a)(p:1<=F/\F+(U:Int)<=1000000000)(f:S (b+U)=LS 3 a (F+(U:Int)) empty (n:Int)):Log S b F (n:Int) (U+1) R a c:=by
 obtain⟨k,i,m⟩:=h.reach;unfold Log;rw[m 1];have d:=me n l a (F+(U:Int)) j ω;rw[<-f]at d
 have o:IntKind.i64.wrap (F+(U:Int)-(U:Int))=F:=by
  have:=xw F ω U 0;simpa using this
 have g:OV k L 3 a=true:=by unfold OV;simp[e,i]
 rw[df d o g δ,AG δ];rfl
def UJ(b:Nat)(a:List ByteArray):List (Int×ByteArray):=a.mapIdx λi p=>(((b+i:Nat):Int),p)
theorem m6(b:Nat)(a:List ByteArray)(p:ByteArray):UJ b (a++[p])=UJ b a++[(((b+a.length:Nat):Int),p)]:=by simp[UJ,List.mapIdx_append]
theorem nZ(b:Nat)(a:List ByteArray):(UJ b a).length=a.length:=by simp[UJ]
theorem si:∀(a b:List (Int×ByteArray)) (ss:List ByteArray),xhE (a++b) ss=xhE b (xhE a ss)
 | [],_,_=>rfl
 | x::a,b,ss=>by rw[DZ,xhE,xhE,si a b]
theorem te(D:List ByteArray)(i:Nat)(p:ByteArray)(j:Nat)(a:i<D.length):sec (D.set i p) j=if j=i then p else sec D j:=by
 unfold sec
 by_cases h:j=i
 ·subst h;simp[List.getD,a]
 rw[AG h];simp[List.getD,GP (IM h)]
theorem vo(b:Nat)(D:List ByteArray):∀(k:Nat) (c:List ByteArray),c.length=k->b+k<=D.length->∀j,sec (xhE (UJ b c) D) j=if b<=j/\j<b+k then c.getD (j-b) empty else sec D j
 | 0,c,hp,_,j=>by rw[AB hp,AG ω];rfl
 | k+1,c,hp,hl,j=>by
  obtain⟨p,d,rfl⟩:∃p d,c=d++[p]:=by
   rcases EF c with h|⟨l,a,h⟩
   ·subst h;simp at hp
   exact⟨a,l,by simpa using h⟩
  have e:d.length=k:=by simp at hp;omega
  rw[m6,oY,te _ _ _ _ (by rw[WY];simp;omega),vo b D k d e ω j];simp only[BM]
  by_cases h:j=b+d.length
  ·rw[AF h,AF ω,h,Nat.add_sub_cancel_left];simp
  rw[AG h]
  by_cases a:b<=j/\j<b+k
  ·rw[AF a,AF ω]
   simp[List.getD,BA (show j-b<d.length by omega)]
  rw[AG a,AG ω]
theorem ye(b:Nat):∀(k:Nat) (c:List ByteArray) (d:List ByteArray) (f:List (Int×ByteArray)),c.length=k->b+k<=d.length->f.length+k<=300->(∀p∈c,p.size=64)->LA (MA (b:Int) c) (d,f)=(d,f++UJ b c)
 | 0,c,d,f,e,_,_,_=>by rw[AB e];simp[MA,LA,UJ]
 | k+1,c,d,f,e,hl,hw,h64=>by
  obtain⟨p,g,rfl⟩:∃p g,c=g++[p]:=by
   rcases EF c with h|⟨l,a,h⟩
   ·subst h;simp at e
   exact⟨a,l,by simpa using h⟩
  have a:g.length=k:=by simp at e;omega
  rw[ji,ug,ye b k g d f a ω ω (λp e=>h64 p (by simp[e])),m6];rw[LA,LA,OW _ _ ?_ (by simp[nZ];omega)]
  ·simp
  show OP d.length ((b:Int)+(g.length:Int),p)=true
  have:=h64 p σ;unfold OP;rw[BC];exact⟨by simp only;omega,by simp only;omega,by simp only;omega⟩
theorem pG{S:Nat->ByteArray}{frm:Nat}{F:Int}{n m:Nat}{R L:Int}(f:n+m=56)(g:1<=n/\n<=8)(d:1<=L/\L<=60000)(i:R<=L)(hF:1<=F):∀(k:Nat) (c:List (List Ch)),c.length=k->F+1+LT c (n:Int)<=1000000000->(∀j,j<(LW L F n m c).length->S (frm+j)=(LW L F n m c).getD j empty)->Log S frm F (n:Int) (LW L F n m c).length R L (c.map KZ)/\((LW L F n m c).length:Int)=1+LT c (n:Int)
 | 0,c,hb,hF2,hS=>by
  rw[AB hb]at hS hF2⊢;rw[am]at hS⊢;have a:Log S frm F (n:Int) 0 R R []:=rfl;have b:=ky (n:=(n:Int));refine⟨a.life g d i ω ?_,by rw[b];simp⟩;have:=hS 0 σ;rw[this];simp
 | k+1,c,hb,hF2,hS=>by
  obtain⟨b,bs,rfl⟩:∃b bs,c=bs++[b]:=by
   rcases EF c with h|⟨l,a,h⟩
   ·subst h;simp at hb
   exact⟨a,l,by simpa using h⟩
  rw[dy]at hF2⊢;have q:=jn (KZ b).size (n:Int) ω ω;have l:bs.length=k:=by simp at hb;omega
  rw[fu]at hS⊢
  have o:=pG (S:=S) (frm:=frm) f g d i hF k bs l ω (λj a=>by
   rw[hS j (by rw[AE];omega)]
   simp[List.getD,BA a])
  obtain⟨h,r⟩:=o;have e:(56-(n:Int)).toNat=m:=ω
  have p:=yg (KZ b) L (F+((LW L F n m bs).length:Int)) n m f ω ω d ω ω;have s:MY (KZ b).size (n:Int)=(NA (KZ b).size m:Int):=by unfold MY;rw[AF ω,e]
  have a:=YG (s:=KZ b) (l:=L) (f:=F+((LW L F n m bs).length:Int)) (n:=n) (m:=m) rfl ω;rw[AE];rw[a]at hS⊢;rw[WX];refine⟨?_,ω⟩;rw[CY];refine h.entry (KZ b) (NA (KZ b).size m) f g d (Int.le_refl _) ω rfl (λk j=>?_);rw[hS _ (by rw[AE,WX];omega)];rw[<-yd (KZ b) L (F+((LW L F n m bs).length:Int)) n m _ k j];simp[List.getD,CX]
section
theorem tj:∀(es:List ByteArray) (s r:List Pr) (e:ByteArray) (b:List Ch),MX es s=some r->RU e=some b->OE r b=0->MX (es++[e]) s=some (ML r b)
 | [],s,r,e,b,h,hr,hc=>by
  cases h
  show MX [e] s=_;rw[kf hr hc];rfl
 | x::es,s,r,e,b,h,hr,hc=>by
  show MX (x::(es++[e])) s=_
  cases hx:RU x with
  | none=>rw[ud hx]at h;cases h
  | some y =>
   by_cases h0:OE s y=0
   ·rw[kf hx h0]at h⊢
    exact tj es _ r e b h hr hc
   rw[vi hx h0]at h;cases h
theorem nY{b:List Ch}(h:NL b=true):RU (KZ b)=some b:=by unfold KZ;rw[AF h];exact WQ b h
theorem yZ{a:List Pr}(h:LV a=true):MX ((LI a).map KZ) []=some a:=by
 have d:∀k,k*20<a.length+20->MX (((List.range k).map (NU a)).map KZ) []=some (a.take (k*20)):=by
  intro k
  induction k with
  | zero=>intro _;simp[MX]
  | succ k e =>
   intro f;rw[FA,CY,CY];obtain⟨c,b⟩:=VZ h k ω;have:=tj _ _ _ (KZ (NU a k)) (NU a k) (e ω) (nY (SN h k ω)) c;rw[show([k].map (NU a)).map KZ=[KZ (NU a k)] by rfl,this];unfold OA at b;rw[AF c]at b;rw[b]
 unfold LI SJ;rw[AF h,DA,d _ ω,AV ω]
def bsN(H:Int)(q:Nat):Nat:=(2+H*(q:Int)).toNat
theorem eg(q:Nat):bsN 0 q=2:=by simp[bsN]
theorem fe(q:Nat):bsN 1 q=2+q:=by simp[bsN];omega
theorem tn{H:Int}(h:H=0\/H=1)(q:Nat):((bsN H q:Nat):Int)=2+H*(q:Int):=by
 rcases h with rfl|rfl
 ·rw[eg];simp
 rw[fe];simp
theorem Az(b:RtT)(o:Option RtT):b.1<=(QS b o).1:=by
 cases o with
 | none=>exact Int.le_refl _
 | some r=>show b.1<=(if b.1<r.1 then r else b).1;split<;>omega
theorem sF(b r:RtT):r.1<=(QS b (some r)).1:=by show r.1<=(if b.1<r.1 then r else b).1;split<;>omega
theorem qJ{b r:RtT}(h:b.1<r.1):QS b (some r)=r:=AF h
theorem Bg{b:RtT}{o:Option RtT}(h:∀r,o=some r->r.1<=b.1):QS b o=b:=by
 cases o with
 | none=>rfl
 | some r=>exact AG (by have:=h r rfl;omega)
theorem Jk{a b:ByteArray}{n T H F R:Int}(h:OF a b n=(T,H,F,R)):(∀r,MU a 0 n=some r->r.1<=T)/\∀r,MU b 1 n=some r->r.1<=T:=by
 have c:(OF a b n).1=T:=by rw[h]
 unfold OF at c
 constructor
 ·intro r d
  rw[d]at c;have e:=sF (0,0,1,0) r;have f:=Az (QS (0,0,1,0) (some r)) (MU b 1 n);omega
 intro r d
 rw[d]at c;have e:=sF (QS (0,0,1,0) (MU a 0 n)) r;omega
theorem Et{f g:ByteArray}{n T H F R:Int}(h:OF f g n=(T,H,F,R)){c b L:Int}(x:RoOk (T+1) c b L n)(k:0<=T):OF (if (T+1) % 2=0 then MB (T+1) c b L n else f) (if (T+1) % 2=0 then g else MB (T+1) c b L n) n=(T+1,c,b,L):=by
 obtain⟨i,j⟩:=Jk h;rcases VO (T+1) with e|e
 ·rw[AF e,AF e]
  have a:=x.root 0;rw[AF e]at a;unfold OF;rw[a,qJ (show(0:Int)<T+1 by omega)]
  exact Bg λr d=>by have:=j r d;show r.1<=T+1;omega
 rw[AG ω,AG ω]
 have a:=x.root 1;rw[AF e]at a;unfold OF;rw[a];refine qJ ?_;show _<T+1
 cases d:MU f 0 n with
 | none=>show(0:Int)<_;omega
 | some y =>
  have:=i y d;show(if (0:Int)<y.1 then y else (0,0,1,0)).1<_
  split
  ·omega
  show(0:Int)<_;omega
def Rp(D:List ByteArray)(n j:Nat)(l m:Int):Prop:=∃k p,MI (sec D j) (n:Int)=some (k,l,m,p)
structure StI(D:List ByteArray)(n q:Nat)(L T H F R:Int)(U:Nat)(rs:List Pr):Prop where
 hH:H=0\/H=1
 hU:U<=q
 rt:OF (sec D 0) (sec D 1) (n:Int)=(T,H,F,R)
 lg:∃es,MX es []=some rs/\Log (sec D) (bsN H q) F (n:Int) U R L es
 tp:∀j,2<=j->j<2+2*q->∀l m,Rp D n j l m->l<=L/\(l=L->m<F+(q:Int))
 cu:∀i,U<=i->i<q->∀l m,Rp D n (bsN H q+i) l m->l=L->m<F
structure DnI(D:List ByteArray)(n q:Nat)(L T H F R:Int)(U:Nat)(rs:List Pr):Prop where
 hH:H=0\/H=1
 hU:U<=q
 rt:OF (sec D 0) (sec D 1) (n:Int)=(T,H,F,R)
 lg:∃es,MX es []=some rs/\Log (sec D) (bsN H q) F (n:Int) U R L es/\MD (sec D) (bsN H q) F (n:Int) q 0 0 R empty ([],0,R)=(es,(U:Int),L)
 tp:∀j,2<=j->j<2+2*q->∀l m,Rp D n j l m->l<=L
section
variable {D:List ByteArray} {n q:Nat} {L T H F R:Int} {U:Nat} {rs:List Pr}
theorem jg(h:H=0\/H=1){i:Nat}(a:i<q):2<=bsN H q+i/\bsN H q+i<2+2*q:=by
 rcases h with rfl|rfl
 ·rw[eg];omega
 rw[fe];omega
theorem StI.down(h:StI D n q L T H F R U rs)(r:q<=99):DnI D n q L T H F R U rs:=by
 obtain⟨g,i,f⟩:=h.lg;refine⟨h.hH,h.hU,h.rt,⟨g,i,f,f.stop q h.hU (λd k l m p c=>?_)⟩,λj a b l m e=>(h.tp j a b l m e).1⟩;have a:=jg h.hH d;have j:=h.tp _ a.1 a.2 l m ⟨k,p,c⟩
 by_cases b:l=L
 ·right
  have o:=h.cu U (Y _) d l m ⟨k,p,c⟩ b;have l:=SI c;intro e
  have:IntKind.i64.wrap (m-(U:Int))=m-(U:Int):=by
   have:=xw (m-(U:Int)) (by have:=h.hU;omega) U 0;simpa using this
  omega
 left
 have:=j.1;omega
theorem Rp.eq{k l m b c:Int}{p:ByteArray}{j:Nat}(h:Rp D n j l m)(e:MI (sec D j) (n:Int)=some (k,b,c,p)):l=b/\m=c:=by
 obtain⟨d,f,a⟩:=h;rw[e]at a;injection a with a;simp only[EG]at a;exact⟨a.2.1.symm,a.2.2.1.symm⟩
theorem Rp.congr{a:List ByteArray}{l m:Int}{j:Nat}(h:Rp a n j l m)(e:sec a j=sec D j):Rp D n j l m:=by unfold Rp at h⊢;rw[<-e];exact h
theorem StI.commit(h:StI D n q L T H F R U rs)(u:1<=n/\n<=8)(m:Nat)(t:n+m=56)(s:1<=L/\L<=60000)(hF:1<=F/\F<=999999000)(I:q<=99)(G:2+2*q<=D.length)(b:List Ch)(z:NL b=true)(A:OE rs b=0)(N:Nat)(x:N=NA (KZ b).size m)(y:U+N<=q):StI (xhE (UJ (bsN H q+U) (PG (KZ b) L (F+(U:Int)) n m N N)) D) n q L T H F R (U+N) (ML rs b):=by
 have E:2<=bsN H q/\bsN H q+q<=2+2*q:=by rcases h.hH with e|e<;>subst e<;>first|(rw[eg];omega)|(rw[fe];omega)
 have f:=vo (bsN H q+U) D N (PG (KZ b) L (F+(U:Int)) n m N N) (WX _ _ _ _ _ _ _) ω;generalize xhE (UJ (bsN H q+U) (PG (KZ b) L (F+(U:Int)) n m N N)) D=o at f⊢
 have a:∀j,¬(bsN H q+U<=j/\j<bsN H q+U+N)->sec o j=sec D j:=λj c=>by rw[f j,AG c]
 have p:∀k,k<N->sec o (bsN H q+(U+k))=TM (KZ b) L (F+(U:Int)) n m N k:=λk d=>by
  rw[f,AF ω,show bsN H q+(U+k)-(bsN H q+U)=k by omega,yd _ _ _ _ _ _ _ d]
 obtain⟨r,v,w⟩:=h.lg;refine⟨h.hH,y,?_,⟨r++[KZ b],tj r [] rs (KZ b) b v (nY z) A,?_⟩,?_,?_⟩
 ·rw[a 0 ω,a 1 ω];exact h.rt
 ·exact(w.congr (λj c=>(a _ ω).symm)).entry (KZ b) N t u s (Int.le_refl _) ω x p
 ·intro j B C l g d
  by_cases c:bsN H q+U<=j/\j<bsN H q+U+N
  ·obtain⟨k,rfl⟩:∃k,j=bsN H q+(U+k):=⟨j-bsN H q-U,ω⟩
   have i:=ur (KZ b) L (F+(U:Int)) n m N k t u s ω;rw[<-p k ω]at i;obtain⟨rfl,rfl⟩:=d.eq i;exact⟨Int.le_refl _,λ_=>ω⟩
  exact h.tp j B C l g (d.congr (a j c))
 intro i C B l g d
 exact h.cu i ω B l g (d.congr (a _ ω))
theorem sb{n m:Nat}{L F:Int}(f:n+m=56)(g:1<=n/\n<=8)(d:1<=L/\L<=60000)(hF:1<=F):∀(k:Nat) (c:List (List Ch)),c.length=k->F+1+LT c (n:Int)<=1000000000->∀i,i<(LW L F n m c).length->∃o p,MI ((LW L F n m c).getD i empty) (n:Int)=some (o,L,F+(i:Int),p)
 | 0,c,hb,hF2,i,hi=>by
  rw[AB hb]at hi hF2⊢;rw[am]at hi⊢;have:i=0:=by simp at hi;omega
  subst this;have a:=ky (n:=(n:Int));exact⟨3,empty,by simpa using me n g L F d ω⟩
 | k+1,c,hb,hF2,i,hi=>by
  obtain⟨b,bs,rfl⟩:∃b bs,c=bs++[b]:=by
   rcases EF c with h|⟨l,a,h⟩
   ·subst h;simp at hb
   exact⟨a,l,by simpa using h⟩
  rw[dy]at hF2;have t:=jn (KZ b).size (n:Int) ω ω;have r:bs.length=k:=by simp at hb;omega
  rw[fu]at hi⊢;have s:=ae L F n m f ω ω bs;have e:(56-(n:Int)).toNat=m:=ω
  have u:MY (KZ b).size (n:Int)=(NA (KZ b).size m:Int):=by unfold MY;rw[AF ω,e]
  rw[AE,YG rfl ω,WX]at hi;rw[YG rfl ω]
  by_cases h:i<(LW L F n m bs).length
  ·obtain⟨o,p,a⟩:=sb f g d hF k bs r ω i h
   exact⟨o,p,by rw[<-a];simp[List.getD,BA h]⟩
  obtain⟨j,rfl⟩:∃j,i=(LW L F n m bs).length+j:=⟨i-(LW L F n m bs).length,ω⟩
  have a:=ur (KZ b) L (F+((LW L F n m bs).length:Int)) n m (NA (KZ b).size m) j f g d ω;rw[<-yd (KZ b) L (F+((LW L F n m bs).length:Int)) n m _ j ω]at a;refine⟨if j+1=NA (KZ b).size m then 2 else 1,(KZ b).extract (j*m) (j*m+m),?_⟩
  have l:(LW L F n m bs++PG (KZ b) L (F+((LW L F n m bs).length:Int)) n m (NA (KZ b).size m) (NA (KZ b).size m)).getD ((LW L F n m bs).length+j) empty=(PG (KZ b) L (F+((LW L F n m bs).length:Int)) n m (NA (KZ b).size m) (NA (KZ b).size m)).getD j empty:=by simp[List.getD,CX]
  rw[l,a,show F+((LW L F n m bs).length:Int)+(j:Int)=F+(((LW L F n m bs).length+j:Nat):Int) by omega]
theorem Cy(W:H=0\/H=1)(rt:OF (sec D 0) (sec D 1) (n:Int)=(T,H,F,R))(C:∀j,2<=j->j<2+2*q->∀l m,Rp D n j l m->l<=L/\(l=L->m<F+(q:Int)))(A:1<=n/\n<=8)(m:Nat)(o:n+m=56)(z:1<=L/\L<=60000)(hF:1<=F/\F+(q:Int)<=999999000)(I:0<=T/\T+1<=1000000000)(X:q<=99)(S:2+2*q<=D.length)(M:LV rs=true)(hr:1+LT (LI rs) (n:Int)<=(q:Int)):StI ((xhE (UJ (bsN (1-H) q) (LW L (F+(q:Int)) n m (LI rs))) D).set ((T+1) % 2).toNat (MB (T+1) (1-H) (F+(q:Int)) L (n:Int))) n q L (T+1) (1-H) (F+(q:Int)) L (LW L (F+(q:Int)) n m (LI rs)).length rs/\((LW L (F+(q:Int)) n m (LI rs)).length:Int)=1+LT (LI rs) (n:Int):=by
 have h:1-H=0\/1-H=1:=ω
 have P:=ae L (F+(q:Int)) n m o ω ω (LI rs);obtain⟨K,y⟩:∃K,K=(LW L (F+(q:Int)) n m (LI rs)).length:=⟨_,rfl⟩;have E:K<=q:=ω
 have O:2<=bsN (1-H) q/\bsN (1-H) q+q<=2+2*q:=by rcases h with e|e<;>rw[e]<;>first|(rw[eg];omega)|(rw[fe];omega)
 have d:=vo (bsN (1-H) q) D K (LW L (F+(q:Int)) n m (LI rs)) y.symm ω;have G:(xhE (UJ (bsN (1-H) q) (LW L (F+(q:Int)) n m (LI rs))) D).length=D.length:=WY _ _;have x:=sb o A z (show 1<=F+(q:Int) by omega) (LI rs).length (LI rs) rfl ω;generalize xhE (UJ (bsN (1-H) q) (LW L (F+(q:Int)) n m (LI rs))) D=f at d G⊢;have Q:((T+1) % 2).toNat<2:=ω
 have b:=λj=>te f ((T+1) % 2).toNat (MB (T+1) (1-H) (F+(q:Int)) L (n:Int)) j ω
 generalize f.set ((T+1) % 2).toNat (MB (T+1) (1-H) (F+(q:Int)) L (n:Int))=g at b⊢
 have w:∀j,j<K->sec g (bsN (1-H) q+j)=(LW L (F+(q:Int)) n m (LI rs)).getD j empty:=λj a=>by
  rw[b,AG ω,d,AF ω,Nat.add_sub_cancel_left]
 have v:∀j,2<=j->¬(bsN (1-H) q<=j/\j<bsN (1-H) q+K)->sec g j=sec D j:=λj c a=>by rw[b,AG ω,d,AG a]
 have u:∀j,j<2->sec f j=sec D j:=λj a=>by rw[d,AG ω]
 obtain⟨t,s⟩:=pG (S:=sec g) (frm:=bsN (1-H) q) (R:=L) o A z (Int.le_refl _) (show 1<=F+(q:Int) by omega) (LI rs).length (LI rs) rfl ω (λj a=>w j ω);rw[<-y]at t s x⊢;refine⟨⟨h,E,?_,⟨_,yZ M,t⟩,?_,?_⟩,s⟩
 ·have c:RoOk (T+1) (1-H) (F+(q:Int)) L (n:Int):=⟨ω,ω,by unfold TJ;omega,ω,ω,ω,ω⟩
  have:=Et rt c I.1;rw[<-this]
  congr 1
  ·rw[b 0,u 0 ω]
   by_cases e:(T+1) % 2=0
   ·rw[AF e,AF ω]
   rw[AG e,AG ω]
  rw[b 1,u 1 ω]
  by_cases e:(T+1) % 2=0
  ·rw[AF e,AG ω]
  rw[AG e,AF ω]
 ·intro j B N l r c
  by_cases a:bsN (1-H) q<=j/\j<bsN (1-H) q+K
  ·obtain⟨i,rfl⟩:∃i,j=bsN (1-H) q+i:=⟨j-bsN (1-H) q,ω⟩
   obtain⟨kd,p,k⟩:=x i ω;rw[<-w i ω]at k;obtain⟨rfl,rfl⟩:=c.eq k;exact⟨Int.le_refl _,λ_=>ω⟩
  have:=C j B N l r (c.congr (v j B a))
  exact⟨this.1,λe=>by have:=this.2 e;omega⟩
 intro i B p l r c e
 have k:=jg h p;exact(C _ k.1 k.2 l r (c.congr (v _ k.1 ω))).2 e
theorem DnI.life(h:DnI D n q L T H F R U rs)(k:1<=n/\n<=8)(w:0<=L/\L+1<=60000)(hF:1<=F/\F<=999999000)(y:q<=99)(v:2+2*q<=D.length)(g:U<q):StI (D.set (bsN H q+U) (LS 3 (L+1) (F+(U:Int)) empty (n:Int))) n q (L+1) T H F R (U+1) rs:=by
 have x:=jg h.hH g
 have a:=λj=>te D (bsN H q+U) (LS 3 (L+1) (F+(U:Int)) empty (n:Int)) j ω
 generalize D.set (bsN H q+U) (LS 3 (L+1) (F+(U:Int)) empty (n:Int))=o at a⊢;have m:=me n k (L+1) (F+(U:Int)) ω ω;have f:sec o (bsN H q+U)=LS 3 (L+1) (F+(U:Int)) empty (n:Int):=by rw[a,AF rfl]
 rw[<-f]at m;obtain⟨p,r,s,u⟩:=h.lg;refine⟨h.hH,g,?_,⟨p,r,?_⟩,?_,?_⟩
 ·rw[a 0,a 1,AG ω,AG ω];exact h.rt
 ·exact(s.congr (λj c=>by rw[a,AG ω])).life k ω ω ω f
 ·intro j i t l d b
  by_cases c:j=bsN H q+U
  ·subst c
   obtain⟨rfl,rfl⟩:=b.eq m;exact⟨Int.le_refl _,λ_=>ω⟩
  have:=h.tp j i t l d (b.congr (by rw[a,AG c]))
  exact⟨ω,λe=>ω⟩
 intro i z t l d b e
 have c:=jg h.hH t;have:=h.tp _ c.1 c.2 l d (b.congr (by rw[a,AG ω]));omega
end
end
section
theorem mx{x:Wo}{e:Ev}{d:Dd}(j:x.call e=(d,true))(h:d.C=0)(i:e.K≠5)(hcut:e.cut=-1)(l:(x.ts++MK d.ops).length<=2000)(n:x.P.length<200)(k:LG x.ss x.ws=true):x.doE e={ w:=x.w,ss:=(LA d.ops (x.ss,x.ws)).1,ws:=(LA d.ops (x.ss,x.ws)).2,up:=true,W:=d.W,S:=d.S,L:=d.L,T:=d.T,H:=d.H,F:=d.F,R:=d.R,U:=d.U,O:=d.O,rs:=d.rs,P:=if e.K=2 then x.P++[d.rs] else [d.rs],ts:=x.ts++MK d.ops }:=by
 have b:evN e d=d.ops.length:=by unfold evN;rw[AG ω]
 have c:PU x e d=x.ts++MK d.ops:=by unfold PU;rw[b,DA]
 have f:¬QP e d=true:=by unfold QP;rw[BC];omega
 have m:(NW x e d).length<=200:=by
  unfold NW
  split
  ·rw[AE];simp;omega
  omega
 have g:NG x.ss x.ws d.ops ((evN e d:Nat):Int)=LA d.ops (x.ss,x.ws):=by rw[b];exact Hp k _ _ (Int.le_refl _)
 unfold Wo.doE;rw[j];simp only;rw[AG i,AG (by simp[h]),AG (by rw[c];omega),AG f];unfold Wo.upS Wo.ran;rw[g,c]
 by_cases a:e.K=2
 ·rw[AF a,AF a];unfold NW;rw[AF a]
 rw[AG a,AG a]
structure UpI(x:Wo)(N n q:Nat)(c:Int):Prop where
 g:x.good N
 hN:8<=N/\N<=40
 hq:hv (N:Int)=(q:Int)
 hn:x.w=(n:Int)
 n1:1<=n/\n<=8
 up:x.up=true
 eW:x.W=(n:Int)
 eS:x.S=(N:Int)
 st:NE x.W x.S x.L x.T x.H x.F x.R x.U x.O x.rs=true
 pw:(x.ws.length:Int)<=x.O
 sti:StI (xhE x.ws x.ss) n q x.L x.T x.H x.F x.R x.U.toNat x.rs
 ct:x.T<=c/\x.F<=1+100*c/\x.L<=c
 c1:c<=1000
theorem XA{N q:Nat}(b:8<=N/\N<=40)(a:hv (N:Int)=(q:Int)):3<=q/\q<=19/\2+2*q<=N:=by
 unfold hv at a;rw[AF ω]at a;omega
theorem uu(b:Int):∀(k:Nat) (c:List ByteArray),c.length=k->(MK (MA b c)).length=k
 | 0,c,h=>by rw[AB h];rfl
 | k+1,c,h=>by
  obtain⟨p,d,rfl⟩:∃p d,c=d++[p]:=by
   rcases EF c with h|⟨l,a,h⟩
   ·subst h;simp at *
   exact⟨a,l,by simpa using h⟩
  rw[ji,oX,AE,uu b k d (by simp at h;omega)];simp
theorem Bh(a b:List OpT):MK (a++b)=MK a++MK b:=by unfold MK;rw[List.filterMap_append]
theorem mo{W S L T H F R U O:Int}{a:List Pr}(b:1<=W/\W<=8)(c:8<=S/\S<=200)(d:1<=L/\L<=60000)(e:0<=T/\T<=1000000000)(f:0<=R/\R<=60000)(g:0<=H/\H<=1)(h:1<=F/\F<=999999000)(i:0<=U/\U<=hv S)(j:0<=O/\O<=U)(k:LV a=true)(l:LT (LI a) W<=hv S-1):NE W S L T H F R U O a=true:=by
 unfold NE RT;simp[b,c,d,e,f,g,h,i,j,k,l]
theorem ma{W S L T H F R U O:Int}{a:List Pr}(h:NE W S L T H F R U O a=true):(0<=R/\R<=60000)/\LT (LI a) W<=hv S-1:=by
 unfold NE RT at h;simp only[BE,BC]at h;obtain⟨⟨⟨⟨⟨⟨⟨d,e⟩,f⟩,⟨⟨g,c⟩,i⟩,j⟩,_⟩,_⟩,_⟩,b⟩:=h;exact⟨c,b⟩
def SO(b:List Ch):Ev:=⟨2,b,-1,[]⟩
section
variable {x:Wo} {N n q:Nat} {c:Int}
theorem UpI.commit(h:UpI x N n q c)(b:List Ch)(a:(NR x.W x.S x.L x.T x.H x.F x.R x.U x.O x.rs b).C=0)(T:x.ts.length<=1900)(l:x.P.length<200):UpI (x.doE (SO b)) N n q c/\(x.doE (SO b)).rs=ML x.rs b/\(x.doE (SO b)).U=x.U+MY (KZ b).size (n:Int)/\(x.doE (SO b)).ts.length<=x.ts.length+(MY (KZ b).size (n:Int)).toNat/\(x.doE (SO b)).P.length=x.P.length+1:=by
 obtain⟨W,X,q3⟩:=XA h.hN h.hq;obtain⟨s1,K,B,L,O,C,P,s8,s9⟩:=UE h.st;obtain⟨Q,sr⟩:=ma h.st;have G:=h.g.doE (SO b);have v:hv x.S=(q:Int):=by rw[h.eS,h.hq]
 obtain⟨U,f⟩:∃U:Nat,x.U=(U:Int):=⟨x.U.toNat,ω⟩;rw[v]at P;unfold NR at a
 by_cases i:(NE x.W x.S x.L x.T x.H x.F x.R x.U x.O x.rs && NL b)=true
 rotate_left
 ·rw[AG i]at a;simp[LD]at a
 rw[AF i]at a
 by_cases d:OE x.rs b=0
 rotate_left
 ·rw[AG d]at a;simp[LD]at a
 rw[AF d]at a
 by_cases j:LT (LI (OA x.rs b)) x.W<=hv x.S-1
 rotate_left
 ·rw[AG j]at a;simp[LD]at a
 rw[AF j]at a
 by_cases s:MY (KZ b).size x.W<=hv x.S-x.U
 rotate_left
 ·rw[AG s]at a;simp[LD]at a
 have I:NL b=true:=by rw[BE]at i;exact i.2
 have w:NR x.W x.S x.L x.T x.H x.F x.R x.U x.O x.rs b=⟨0,x.W,x.S,x.L,x.T,x.H,x.F,x.R,x.U+MY (KZ b).size x.W,x.O+MY (KZ b).size x.W,OA x.rs b,MA (2+x.H*hv x.S+x.U) (NV (KZ b) x.L (x.F+x.U) x.W.toNat (56-x.W.toNat))⟩:=by
  unfold NR;rw[AF i,AF d,AF j,AF s]
 have t:OA x.rs b=ML x.rs b:=by unfold OA;rw[AF d]
 obtain⟨m,A⟩:∃m,n+m=56:=⟨56-n,by have:=h.n1;omega⟩;have y:=h.n1;obtain⟨M,u⟩:∃M,M=NA (KZ b).size m:=⟨_,rfl⟩;have g:MY (KZ b).size (n:Int)=(M:Int):=by unfold MY;rw[AF ω,show(56-(n:Int)).toNat=m by omega,u]
 have F:=h.ct;have E:=h.c1;rw[h.eW,v,g,f]at s
 have hcut:NV (KZ b) x.L (x.F+x.U) x.W.toNat (56-x.W.toNat)=PG (KZ b) x.L (x.F+(U:Int)) n m M M:=by
  rw[h.eW,show((n:Int)).toNat=n by omega,show 56-n=m by omega,f];exact YG u ω
 have z:2+x.H*hv x.S+x.U=((bsN x.H q+U:Nat):Int):=by
  have:=tn h.sti.hH q;rw[v,f];omega
 have H:∀p∈PG (KZ b) x.L (x.F+(U:Int)) n m M M,p.size=64:=by
  intro p l;unfold PG at l;obtain⟨k,e,rfl⟩:=DL.1 l;exact yf y A ω (EZ.1 e)
 have R:2<=bsN x.H q/\bsN x.H q+q<=2+2*q:=by rcases h.sti.hH with e|e<;>rw[e]<;>first|(rw[eg];omega)|(rw[fe];omega)
 have S:=h.pw;have D:=ye (bsN x.H q+U) M (PG (KZ b) x.L (x.F+(U:Int)) n m M M) x.ss x.ws (WX _ _ _ _ _ _ _) (by have:=h.g.n;omega) ω H;have o:=uu (2+x.H*hv x.S+x.U) M (PG (KZ b) x.L (x.F+(U:Int)) n m M M) (WX _ _ _ _ _ _ _);have k:=mx (x:=x) (e:=SO b) (d:=NR x.W x.S x.L x.T x.H x.F x.R x.U x.O x.rs b) (by unfold Wo.call SO;simp[h.up]) (by rw[w]) (by show(2:Int)≠5;decide) rfl (by rw[w];simp only;rw[hcut,AE,o];omega) l h.g.d;rw[w]at k;simp only at k;rw[hcut,z,D]at k;rw[z]at o;have r:=h.sti.commit y m A B C ω (by rw[WY];have:=h.g.n;omega) b I d M u (by rw[f];simp only[BM];omega);rw[f]at r;simp only[BM]at r;refine⟨⟨G,h.hN,h.hq,?_,y,?_,?_,?_,?_,?_,?_,?_,E⟩,?_,?_,?_,?_⟩<;>rw[k]<;>simp only
 ·exact h.hn
 ·exact h.eW
 ·exact h.eS
 ·rw[h.eW,g]
  refine mo ω K B L Q O C ω ω (by rw[t];exact ed d) ?_;rw[<-h.eW];exact j
 ·rw[AE,nZ,WX,h.eW,g];omega
 ·rw[si,h.eW,g,f,show((U:Int)+(M:Int)).toNat=U+M by omega,t];exact r
 ·exact F
 ·exact t
 ·rw[h.eW]
 ·rw[AE,o,g];omega
 simp[SO]
def UN:Ev:=⟨3,[],-1,[]⟩
def SP:Ev:=⟨4,[],-1,[]⟩
def RE:Ev:=⟨1,[],-1,[]⟩
def UR:Ev:=⟨5,[],0,[]⟩
theorem UpI.flush(h:UpI x N n q c)(e:x.ts.length<=2000)(g:x.P.length<200):UpI (x.doE UN) N n q c/\(x.doE UN).ws=[]/\(x.doE UN).rs=x.rs/\(x.doE UN).ts=x.ts/\(x.doE UN).P.length=1:=by
 obtain⟨i,j,k,l,m,o,p,u,r⟩:=UE h.st;obtain⟨s,t⟩:=ma h.st;have d:=h.g.doE UN;have b:QG x.W x.S x.L x.T x.H x.F x.R x.U x.O x.rs=⟨0,x.W,x.S,x.L,x.T,x.H,x.F,x.R,x.U,0,x.rs,[(true,0,empty)]⟩:=by unfold QG;rw[AF h.st]
 have a:=mx (x:=x) (e:=UN) (d:=QG x.W x.S x.L x.T x.H x.F x.R x.U x.O x.rs) (by unfold Wo.call UN;simp[h.up]) (by rw[b]) δ rfl (by rw[b];simpa[MK] using e) g h.g.d;rw[b]at a;simp only[LA,NF]at a;have f:MK [((true,0,empty):OpT)]=[]:=rfl;rw[f,EA]at a;refine⟨⟨d,h.hN,h.hq,?_,h.n1,?_,?_,?_,?_,?_,?_,?_,h.c1⟩,?_,?_,?_,?_⟩<;>rw[a]<;>simp only
 ·exact h.hn
 ·exact h.eW
 ·exact h.eS
 ·exact mo i j k l s m o p ω r t
 ·simp
 ·exact h.sti
 ·exact h.ct
 rfl
theorem Ew{ss:List ByteArray}{ws:List (Int×ByteArray)}{b:Nat}{a:List ByteArray}{t:Int}{r:ByteArray}(e:b+a.length<=ss.length)(f:ws.length+a.length<=300)(d:∀p∈a,p.size=64)(i:0<=t/\t<2)(g:2<=ss.length)(h:r.size=64):LA (MA (b:Int) a++[(true,0,empty),(false,t,r),(true,0,empty)]) (ss,ws)=((xhE (UJ b a) (xhE ws ss)).set t.toNat r,[]):=by
 rw[ug,ye b a.length a ss ws rfl e f d];rw[LA,NF,LA,OW _ _ ?_ σ,LA,NF,LA]
 ·simp only[si,xhE,DQ]
 unfold OP
 rw[BC];simp only[WY];omega
theorem rZ(r:8<=N/\N<=40)(b:hv (N:Int)=(q:Int))(M:x.w=(n:Int))(k:1<=n/\n<=8)(f:x.good N){L T H F R:Int}{a:List Pr}{e:Ev}(o:e.K≠5/\e.K≠2)(hcut:e.cut=-1)
  (I:x.call e=(OH (n:Int) (N:Int) L T H F a,true))(U:x.ws.length<=99)(W:x.ts.length<=1900)(h:x.P.length<200)(A:c+1<=1000)(hT:0<=T/\T<=c)(hF:1<=F/\F<=1+100*c)(hL:1<=L/\L<=c+1)(G:H=0\/H=1)
  (t:LV a=true)(O:LT (LI a) (n:Int)<=(q:Int)-1)(rt:OF (sec (xhE x.ws x.ss) 0) (sec (xhE x.ws x.ss) 1) (n:Int)=(T,H,F,R))(Q:∀j,2<=j->j<2+2*q->∀l m,Rp (xhE x.ws x.ss) n j l m->l<=L/\(l=L->m<F+(q:Int))):UpI (x.doE e) N n q (c+1)/\(x.doE e).ws=[]/\(x.doE e).rs=a/\(x.doE e).U=1+LT (LI a) (n:Int)/\(x.doE e).ts.length<=x.ts.length+q+1/\(x.doE e).P.length=1:=by
 obtain⟨q1,q2,q3⟩:=XA r b;have C:=f.doE e;obtain⟨m,s⟩:∃m,n+m=56:=⟨56-n,ω⟩;have hD:(xhE x.ws x.ss).length=N:=by rw[WY];exact f.n
 obtain⟨E,w⟩:=Cy G rt Q k m s ω ω ω ω ω t ω;have v:WB (N:Int) T F=true:=by unfold WB;rw[BC,b];omega
 have K:OH (n:Int) (N:Int) L T H F a=TN (n:Int) (N:Int) L T H F a:=by unfold OH;rw[AF v]
 have j:1-H=0\/1-H=1:=ω
 have D:=sb s k (show 1<=L/\L<=60000 by omega) (show 1<=F+(q:Int) by omega) (LI a).length (LI a) rfl ω
 have z:∀p∈LW L (F+(q:Int)) n m (LI a),p.size=64:=by
  intro p h;obtain⟨i,g,rfl⟩:=FG h;obtain⟨u,y,d⟩:=D i g;have l:(LW L (F+(q:Int)) n m (LI a)).getD i empty=(LW L (F+(q:Int)) n m (LI a))[i]:=by simp[List.getD,g]
  rw[l]at d;exact(SI d).1
 have P:RoOk (T+1) (1-H) (F+(q:Int)) L (n:Int):=⟨ω,ω,by unfold TJ;omega,ω,ω,ω,ω⟩;have u:2+(1-H)*hv (N:Int)=((bsN (1-H) q:Nat):Int):=by rw[b];exact(tn j q).symm
 have S:bsN (1-H) q+q<=2+2*q:=by rcases j with e|e<;>rw[e]<;>first|(rw[eg];omega)|(rw[fe];omega)
 have y:=Ew (ss:=x.ss) (ws:=x.ws) (b:=bsN (1-H) q) (t:=(T+1) % 2) (by have:=f.n;omega) ω z ω (by have:=f.n;omega) P.size;have B:=uu ((bsN (1-H) q:Nat):Int) _ (LW L (F+(q:Int)) n m (LI a)) rfl
 have g:TN (n:Int) (N:Int) L T H F a=⟨0,(n:Int),(N:Int),L,T+1,1-H,F+(q:Int),L,((LW L (F+(q:Int)) n m (LI a)).length:Int),0,a,MA ((bsN (1-H) q:Nat):Int) (LW L (F+(q:Int)) n m (LI a))++[(true,0,empty),(false,(T+1) % 2,MB (T+1) (1-H) (F+(q:Int)) L (n:Int)),(true,0,empty)]⟩:=by
  unfold TN;rw[u,b,show((n:Int)).toNat=n by omega,show 56-n=m by omega]
 have l:(MK (TN (n:Int) (N:Int) L T H F a).ops).length=(LW L (F+(q:Int)) n m (LI a)).length+1:=by
  rw[g];simp only;rw[Bh,AE,B];rfl
 have d:=mx (x:=x) (e:=e) (d:=TN (n:Int) (N:Int) L T H F a) (by rw[I,K]) (by rw[g]) o.1 hcut (by rw[AE,l];omega) h f.d;rw[AG o.2]at d;have i:(x.ts++MK (TN (n:Int) (N:Int) L T H F a).ops).length<=x.ts.length+q+1:=by rw[AE,l];omega
 generalize x.ts++MK (TN (n:Int) (N:Int) L T H F a).ops=X at d i;rw[g]at d;simp only at d;rw[y]at d;refine⟨⟨C,r,b,?_,k,?_,?_,?_,?_,?_,?_,?_,A⟩,?_,?_,?_,?_,?_⟩<;>rw[d]<;>simp only
 ·exact M
 ·exact mo ω ω ω ω ω ω ω (by rw[b];omega) ω t (by rw[b];exact O)
 ·simp
 ·simp only[xhE,BM];exact E
 ·omega
 ·exact w
 ·exact i
 rfl
theorem UpI.compact(h:UpI x N n q c)(d:c+1<=1000)(e:x.ts.length<=1900)(f:x.P.length<200):UpI (x.doE SP) N n q (c+1)/\(x.doE SP).ws=[]/\(x.doE SP).rs=x.rs/\(x.doE SP).U=1+LT (LI x.rs) (n:Int)/\(x.doE SP).ts.length<=x.ts.length+q+1/\(x.doE SP).P.length=1:=by
 obtain⟨o,p,r⟩:=XA h.hN h.hq;obtain⟨s,t,g,i,u,j,k,v,l⟩:=UE h.st;obtain⟨w,a⟩:=ma h.st;have m:=h.pw;have b:=h.ct;rw[h.eS,h.hq]at k a;rw[h.eW]at a;refine rZ h.hN h.hq h.hn h.n1 h.g (R:=x.R) ⟨δ,δ⟩ rfl ?_ ω e f d ⟨i.1,b.1⟩ ⟨j.1,b.2.1⟩ ⟨g.1,ω⟩ h.sti.hH l a h.sti.rt h.sti.tp;unfold Wo.call SP;simp only[h.up];unfold PZ;rw[AF h.st,h.eW,h.eS];simp
structure DownI(x:Wo)(N n q:Nat)(c:Int)(rs:List Pr)(U:Nat):Prop where
 g:x.good N
 hN:8<=N/\N<=40
 hq:hv (N:Int)=(q:Int)
 hn:x.w=(n:Int)
 n1:1<=n/\n<=8
 up:x.up=false
 ws:x.ws=[]
 s:LV rs=true
 r:LT (LI rs) (n:Int)<=(q:Int)-1
 d:∃L T H F R,DnI x.ss n q L T H F R U rs/\(0<=T/\T<=c)/\(1<=F/\F<=1+100*c)/\(0<=L/\L<=c)/\0<=R/\R<=60000
 c1:c<=1000
theorem UpI.power(h:UpI x N n q c)(a:x.ws=[]):DownI (x.doE UR) N n q c x.rs x.U.toNat/\(x.doE UR).ts=x.ts/\(x.doE UR).P=x.P:=by
 obtain⟨m,o,p⟩:=XA h.hN h.hq;obtain⟨r,s,t,u,v,w,y,z,j⟩:=UE h.st;obtain⟨k,f⟩:=ma h.st;have l:=h.ct;rw[h.eS,h.hq,h.eW]at f;have b:=h.g.doE UR;have e:=h.g.d;rw[a]at e;have i:x.doE UR=x.pow []:=by unfold Wo.doE;rw[AF (show UR.K=5 from rfl)];rfl
 have g:(x.pow []).ss=x.ss:=by show MC [] x.ss x.ws=_;rw[a];exact Iw e []
 have d:=h.sti;rw[a]at d;rw[i]at b⊢;refine⟨⟨b,h.hN,h.hq,h.hn,h.n1,rfl,rfl,j,f,⟨x.L,x.T,x.H,x.F,x.R,?_,ω,ω,ω,k⟩,h.c1⟩,rfl,rfl⟩;rw[g];exact d.down ω
theorem DownI.open{r:List Pr}{U:Nat}(h:DownI x N n q c r U)(t:c+1<=1000)(A:x.ts.length<=1900)(w:x.P.length<200):UpI (x.doE RE) N n q (c+1)/\(x.doE RE).ws=[]/\(x.doE RE).rs=r/\(x.doE RE).ts.length<=x.ts.length+q+1/\(x.doE RE).P.length=1/\(U<q->(x.doE RE).U=(U:Int)+1):=by
 obtain⟨O,P,Q⟩:=XA h.hN h.hq;have z:=h.g.doE RE;obtain⟨L,T,H,F,R,a,E,hF,K,D⟩:=h.d;have i:=h.n1;have f:LG x.ss []=true/\1<=(n:Int)/\(n:Int)<=8:=⟨by have:=h.g.d;rw[h.ws]at this;exact this,ω,ω⟩;have b:(x.ss.length:Int)=(N:Int):=by rw[h.g.n]
 have p:MG x.ss [] (n:Int)=(T,H,F,R):=by unfold MG;rw[AF f];exact a.rt
 obtain⟨C,u,I,B⟩:=a.lg
 have y:NT x.ss [] (n:Int)=(C,(U:Int),L):=by
  have d:=sA f;unfold NT at *;rw[p,b,h.hq]at d⊢;unfold SY;simp only at d⊢;rw[AF d];exact B
 have o:x.call RE=(OM x.ss [] (n:Int),true):=by unfold Wo.call RE;simp[h.up,h.ws,h.hn]
 have s:¬hv (x.ss.length:Int)-1<LT (LI r) (n:Int):=by rw[b,h.hq];have:=h.r;omega
 have v:¬60000<L+1:=by have:=h.c1;omega
 by_cases g:hv (x.ss.length:Int)<=(U:Int)
 ·rw[ke f p y u v s g,b]at o
  have:=rZ (c:=c) h.hN h.hq h.hn i h.g (L:=L+1) (R:=R) (e:=RE) ⟨δ,δ⟩ rfl o (by rw[h.ws];simp) A w t E hF ω a.hH h.s h.r (by rw[h.ws];exact a.rt) (λj k G l m d=>by
   rw[h.ws]at d;have:=a.tp j k G l m d
   exact⟨ω,λe=>ω⟩)
  exact⟨this.1,this.2.1,this.2.2.1,this.2.2.2.2.1,this.2.2.2.2.2,λk=>by rw[b,h.hq]at g;omega⟩
 have j:U<q:=by rw[b,h.hq]at g;omega
 have d:=kn f p y u v s g;rw[b,h.hq]at d;have M:=jg a.hH j;have k:2+H*(q:Int)+(U:Int)=((bsN H q+U:Nat):Int):=by have:=tn a.hH q;omega
 rw[k]at d;have m:=a.life i (by have:=h.c1;omega) ω ω (by rw[h.g.n];omega) j;have G:(LS 3 (L+1) (F+(U:Int)) empty (n:Int)).size=64:=(SI (me n i (L+1) (F+(U:Int)) (by have:=h.c1;omega) ω)).1
 have l:LA [(false,((bsN H q+U:Nat):Int),LS 3 (L+1) (F+(U:Int)) empty (n:Int)),(true,0,empty)] (x.ss,[])=(x.ss.set (bsN H q+U) (LS 3 (L+1) (F+(U:Int)) empty (n:Int)),[]):=by
  rw[LA,OW _ _ ?_ σ,LA,NF,LA]
  ·simp only[xhE,DQ,BM]
  unfold OP
  rw[BC];have:=h.g.n;simp only;omega
 have e:=mx (x:=x) (e:=RE) (d:=OM x.ss [] (n:Int)) o (by rw[d]) δ rfl (by rw[d];simp[MK];omega) w h.g.d;rw[d,h.ws]at e;simp only at e;rw[l]at e;refine⟨⟨z,h.hN,h.hq,?_,i,?_,?_,?_,?_,?_,?_,?_,t⟩,?_,?_,?_,?_,λ_=>?_⟩<;>rw[e]<;>simp only
 ·exact h.hn
 ·exact mo ω (by have:=h.hN;omega) (by have:=h.c1;omega) ω D (by have:=a.hH;omega) ω (by rw[h.hq];omega) ω h.s (by rw[h.hq];exact h.r)
 ·simp
 ·simp only[xhE];exact m
 ·omega
 ·simp[MK]
 rfl
end
end
section
theorem UI(w:World)(X i:Nat)(v:Value):w.grownBy (w.setCell ⟨X,i,none⟩ v) (some X) :=⟨rfl,rfl,rfl,by rw[BJ];exact Y _,λj b a=>BD _ _ _ _ (λe=>a (BY some e))⟩
theorem Dep.setc{w:World}{b a:Nat}{F:World->Prop}(h:Dep w b a F)(X i:Nat)(v:Value)(c:X<b\/a<=X):Dep (w.setCell ⟨X,i,none⟩ v) b a F :=h.I (UI w X i v) (λg e=>by cases e;exact c)
theorem fw{w:World}{B:Nat}{e:TypeId}{k:Nat}{a:Option Addr}{m c:Nat}{i:List Value}(h:w.ownsRow B e k (.slice a m c) m i):Dep w B w.heap.size (λW=>W.ownsRow B e k (.slice a m c) m i):=by
 refine⟨h,Y _,λs l r=>?_⟩;rcases h.2 with n|⟨g,b,d,p,j,k3,q⟩
 ·exact⟨h.1,.inl n⟩
 have o:g<w.heap.size:=by
  rcases FY g w.heap.size with f|f
  ·exact f
  rw[DP f]at k3;cases k3
 exact⟨h.1,.inr ⟨g,b,d,p,j,(l g j o).j k3,q⟩⟩
theorem pX{w:World}{b a:Nat}{F G:World->Prop}(h:Dep w b a F)(f:∀W,F W->G W):Dep w b a G:=⟨f _ h.q,h.top,λe c d=>f _ (h.keep e c d)⟩
theorem zQ{w:World}{B:Nat}{e:TypeId}{a:Option Addr}{m c:Nat}{o:List Ch}(h:w.ownsRow B e 3 (.slice a m c) o.length (MJ o)):Chs w a o:=by
 rcases MO h with ⟨b,d⟩|⟨g,f,b,d⟩
 ·exact .inl (AB d)
 cases b
 exact(SA h).chs
theorem wV{w:World}{B:Nat}{e:TypeId}{a:Option Addr}{m c:Nat}{b:List Int}(h:w.ownsRow B e 1 (.slice a m c) b.length (b.map (Value.int .i64))):Ints w a b:=by
 rcases MO h with ⟨d,f⟩|⟨g,k,d,f⟩
 ·exact .inl (AB f)
 cases d
 have j:=SA h;exact .inr ⟨g,0,rfl,j.lt,λi l=>by rw[BH];exact j.cell i _ (by simp[List.getD,l])⟩
structure EvD(w0 w:World)(R:Nat)(a:Option Addr)(n c:Nat)(q:Int)(K:Int)(ba:Option Addr)(bc:Nat)(b:List Ch)(cut:Int)(hi:Nat)(y:Value)(fs:List Int):Prop where
 x:BdX w0 w 3 1 R a n c q y fs.length (fs.map (Value.int .i64)) (w0.heap.size+1) [.int .i64 K,.slice ba b.length bc,.int .i64 cut,y]
 bt:Dep w (w0.heap.size+2) hi (λW=>Chs W ba b)
 rb:Row w w0.heap.size [.int .i64 0,.slice none 0 0,.int .i64 0,.slice none 0 0]
 yo:∀g,y.ownBlock=some g->hi<=g
 eh:w0.heap.size+2<=hi
section
variable {w0 w w':World} {R:Nat} {a:Option Addr} {n c:Nat} {q q':Int} {K K':Int} {ba:Option Addr} {bc:Nat} {b:List Ch} {cut:Int} {hi:Nat} {y:Value} {fs:List Int}
theorem EvD.rd(h:EvD w0 w R a n c q K ba bc b cut hi y fs):Rdr w R a n c q:=h.x.s.rd
theorem EvD.pick(h:EvD w0 w R a n c q K ba bc b cut hi y fs)(f:Rdr w' R a n c q')(d:w.grownBy w' (some R)):EvD w0 w' R a n c q' K ba bc b cut hi y fs :=⟨h.x.pick f d,h.bt.I d (λg e=>by cases e;have:=h.x.s.lR;omega),h.rb.I d (λe=>by have:=h.x.s.lR;injection e with e;omega),h.yo,h.eh⟩
theorem EvD.z(h:EvD w0 w R a n c q K ba bc b cut hi y fs)(d:Below w.heap.size w w'):EvD w0 w' R a n c q K ba bc b cut hi y fs :=⟨h.x.z d,h.bt.z d,h.rb.z d,h.yo,h.eh⟩
theorem EvD.drew(h:EvD w0 w R a n c q K ba bc b cut hi y fs):EvD w0 w.drew R a n c q K ba bc b cut hi y fs:=h.z (AC _ _).drew
theorem EvD.lt(h:EvD w0 w R a n c q K ba bc b cut hi y fs):w0.heap.size+2<=w.heap.size:=by have:=h.x.row.lt;omega
theorem EvD.kind(h:EvD w0 w R a n c q K ba bc b cut hi y fs)(k:Int):EvD w0 (w.setCell ⟨w0.heap.size+1,0,none⟩ (.int .i64 k)) R a n c q k ba bc b cut hi y fs :=⟨h.x.set 0 σ _,h.bt.setc _ _ _ (.inl ω),h.rb.I (UI _ _ _ _) (λe=>by injection e with e;omega),h.yo,h.eh⟩
theorem EvD.cutTo(h:EvD w0 w R a n c q K ba bc b cut hi y fs)(k:Int):EvD w0 (w.setCell ⟨w0.heap.size+1,2,none⟩ (.int .i64 k)) R a n c q K ba bc b k hi y fs :=⟨h.x.set 2 σ _,h.bt.setc _ _ _ (.inl ω),h.rb.I (UI _ _ _ _) (λe=>by injection e with e;omega),h.yo,h.eh⟩
theorem EvD.batch{bs:List Ch}{d:Option Addr}{f:Nat}(h:EvD w0 w R a n c q K none 0 [] cut hi (.slice none 0 0) [])(m:Rdr w' R a n c q')(j:w.grownBy w' (some R))(l:w'.ownsRow w.heap.size 45 3 (.slice d bs.length f) bs.length (MJ bs)):EvD w0 (w'.setCell ⟨w0.heap.size+1,1,none⟩ (.slice d bs.length f)) R a n c q' K d f bs cut w'.heap.size (.slice none 0 0) []:=by
 have i:=h.pick m j;have o:=h.lt;have p:=j.size;refine⟨i.x.set 1 σ _,?_,i.rb.I (UI _ _ _ _) (λe=>by injection e with e;omega),λg e=>(by cases e),ω⟩;exact((pX (fw l) λW k=>zQ k).wide ω (Y _) (Y _)).setc _ _ _ (.inl ω)
theorem EvD.fate{z:Int}{g d H:Nat}(h:EvD w0 w R a n c q K ba bc b cut hi y fs)(o:w'.ownsRow w0.heap.size 3 1 (.slice (some ⟨g,0,none⟩) (fs.length+1) d) (fs.length+1) (fs.map (Value.int .i64)++[.int .i64 z]))(f:w.grownBy w' y.ownBlock)(p:y.ownBlock=some g\/g=H)(x:w.heap.size<=H):EvD w0 (w'.setCell ⟨w0.heap.size+1,3,none⟩ (.slice (some ⟨g,0,none⟩) (fs.length+1) d)) R a n c q K ba bc b cut hi (.slice (some ⟨g,0,none⟩) (fs.length+1) d) (fs++[z]):=by
 have A:=h.lt;have B:=h.bt.top;have v:hi<=g:=by rcases p with e|e;exact h.yo g e;omega
 have t:=h.eh;have i:(Value.slice (some ⟨g,0,none⟩) (fs.length+1) d).ownBlock=some g:=rfl
 have u:(Value.slice (some ⟨g,0,none⟩) (fs.length+1) d).ownBlock≠some (w0.heap.size+1):=λe=>by rw[i]at e;injection e with e;omega
 have r:(fs++[z]).map (Value.int .i64)=fs.map (Value.int .i64)++[.int .i64 z]:=σ
 have s:(fs++[z]).length=fs.length+1:=σ
 have P:=h.x.s.push o f;have j:=h.x.row.I f (λe=>h.x.xo e.symm);have l:BdX w0 w' 3 1 R a n c q (.slice (some ⟨g,0,none⟩) (fs.length+1) d) (fs.length+1) (fs.map (Value.int .i64)++[.int .i64 z]) (w0.heap.size+1) [.int .i64 K,.slice ba b.length bc,.int .i64 cut,y]:=⟨P,j,u,h.x.xb⟩;have m:=l.set 3 σ (.slice (some ⟨g,0,none⟩) (fs.length+1) d);refine⟨by rw[r,s];exact m,(h.bt.I f (λk e=>.inr (h.yo k e))).setc _ _ _ (.inl ω),(h.rb.I f (λe=>by have:=h.yo _ e.symm;omega)).I (UI _ _ _ _) (λe=>by injection e with e;omega),λk e=>by rw[i]at e;injection e with e;omega,t⟩
theorem EvD.fin{j:Option Addr}{m l:Nat}(h:EvD w0 w R a n c q K ba bc b cut hi (.slice j m l) fs)(p:m=fs.length)(d:World)(e:d=(((w.setCell ⟨w0.heap.size,0,none⟩ (.int .i64 K)).setCell ⟨w0.heap.size,1,none⟩ (.slice ba b.length bc)).setCell ⟨w0.heap.size,2,none⟩ (.int .i64 cut)).setCell ⟨w0.heap.size,3,none⟩ (.slice j m l)):Row d w0.heap.size [.int .i64 K,.slice ba b.length bc,.int .i64 cut,.slice j m l]/\Dep d w0.heap.size d.heap.size (λW=>Chs W ba b)/\Dep d w0.heap.size d.heap.size (λW=>Ints W j fs)/\Rdr d R a n c q/\w0.grownBy d (some R):=by
 subst p;have o:=(((h.rb.set 0 σ (.int .i64 K)).set 1 σ (.slice ba b.length bc)).set 2 σ (.int .i64 cut)).set 3 σ (.slice j fs.length l);have G:=OS (OS (OS (UI w w0.heap.size 0 (.int .i64 K)) (UI _ w0.heap.size 1 (.slice ba b.length bc))) (UI _ w0.heap.size 2 (.int .i64 cut))) (UI _ w0.heap.size 3 (.slice j fs.length l));rw[<-e]at o G;have s:=h.lt;have t:=G.size;have f:Below w0.heap.size w d:=MR G ω (λg e=>by cases e;exact Y _);have r:=h.x.s.own.kept G (.inr (λe=>by have:=h.yo _ e;have:=h.eh;omega))
 refine⟨o,(h.bt.I G (λg e=>by cases e;exact .inl ω)).wide ω (by have:=h.bt.top;omega) (Y _),pX (fw r) λW k=>wV k,h.rd.keep (N:=w0.heap.size) h.x.s.lR h.x.s.ga f,?_⟩
 have g:=h.x.s.gr;exact⟨f.os.j g.os,f.tape.j g.tape,f.output.j g.output,AL g.size f.size,λi hi o=>(f.block i hi).j (g.block i hi o)⟩
end
end
end
section
open Tryz
open Go.RowKit nw
def KV(n a:Int):Wo:={ w:=a,ss:=newSS n,ws:=[],up:=false,W:=0,S:=0,L:=0,T:=0,H:=0,F:=0,R:=0,U:=0,O:=0,rs:=[],P:=[[]],ts:=[] }
theorem p6{n e:Int}(c:8<=n/\n<=200):(KV n e).ok:=by
 refine⟨.inl ?_,TQ,⟨by simp[KV],λr b=>?_⟩,⟨by simp[KV],λs a=>by simp[KV]at a⟩⟩
 ·show LG (newSS n) []=true
  unfold newSS;rw[AF c];exact ai (by rw[CU];simp;omega) (λs a=>by rw[List.eq_of_mem_replicate a];decide) (λx d=>by cases d)
 simp[KV]at b
 subst b;exact TQ
theorem dx(n d:Int)(w:World)(t:8<=n/\n<=200)(f:1<=d/\d<=8):Calls prog 118 #[.int .i64 n,.int .i64 d] w λe i=>kc w i (λ_=>False) e (KV n d):=by
 refine(nw_s_yes n d w t f).A ?_;rintro e i ⟨a,c,j,l,p,m,rfl,f,o,q,r,h⟩;have s:=PD (lo:=w.heap.size) f VU (λg b=>(q g b).1);refine⟨⟨a,c,j,l,none,0,p,m,none,0⟩,rfl,⟨(QK s (λb h _=>.inr h)).map λU k=>k.strs,SK λ_=>.inl rfl,SK λ_=>.inl rfl,?_,SK λ_=>.inl rfl⟩,h⟩;obtain⟨g,rfl,u⟩:=o.resolve_left (by simp[il]);exact qH (oa:=none) (oc:=0) u (.inr (r g rfl)) (SK λ_=>.inl rfl)
end
section
open Tryz
open Go.RowKit
def TS(n:Nat):ByteArray:=if h:n<10 then strOfNums [((48+n:Nat):Int)] else TS (n / 10)++strOfNums [((48+n % 10:Nat):Int)]
theorem oD:∀(k n:Nat),n<10 ^ (k+1)->(TS n).size<=k+1:=by
 intro k
 induction k with
 | zero=>intro n a;unfold TS;rw[dif_pos ω,BU];simp
 | succ k b =>
  intro n a;unfold TS
  split
  ·rw[BU];simp
  rw[BK,BU]
  have:=b (n / 10) (by rw[Nat.pow_succ]at a;omega);simp only[EQ];omega
theorem jb(w:World)(b:Nat)(n:Int)(h:w.cell? ⟨b,0,none⟩=some (.int .u8 n)):(convert 22 9 (.slice (some ⟨b,0,none⟩) 1 1)).run prog w=.ok (.string (strOfNums [n])) w :=ES (P:=prog) _ 22 5 underlying22 underlying5 b 0 1 1 [n] rfl (λi a=>by
  have:i=0:=ω
  subst this
  simpa using h) 9 underlying9
theorem sI(x:Int)(a:0<=x)(b:x<=255):IntKind.u8.wrap x=x:=by simp[IntKind.wrap,IntKind.bits,IntKind.signed];omega
theorem zU:∀(k n:Nat) (w:World),n<10 ^ k->k<=15->Calls prog 120 #[.int .i64 (n:Int)] w λe c=>e=.returned (.string (TS n))/\Below w.heap.size w c:=by
 intro k
 induction k with
 | zero =>
  intro n w a B;have b:n=0:=by simpa using a
  subst b;have i:=jb (w.alloc (.cells #[.int .u8 48] 5)) w.heap.size 48 σ;go_enter func120,ntmps120;go_wp2;go_ret;exact⟨by unfold TS;rfl,QJ _ _⟩
 | succ k h =>
  intro n w a B;have q:(10:Nat) ^ (k+1)<=10 ^ 15:=Nat.pow_le_pow_right ω B;have j:(10:Nat) ^ 15=1000000000000000:=δ
  by_cases A:n<10
  ·have D:(n:Int)<10:=ω
   have F:IntKind.i64.wrap (48+(n:Int))=48+(n:Int):=KT _ ω ω;have E:IntKind.u8.wrap (48+(n:Int))=48+(n:Int):=sI _ ω ω;have i:=jb (w.alloc (.cells #[.int .u8 (48+(n:Int))] 5)) w.heap.size (48+(n:Int)) σ;have b:TS n=strOfNums [48+(n:Int)]:=by unfold TS;rw[dif_pos A];congr 2
   have l:=Z b;clear b;go_enter func120,ntmps120;go_wp2;go_ret;exact⟨by rw[l.l];rfl,QJ _ _⟩
  have D:¬(n:Int)<10:=ω
  obtain⟨d,b⟩:∃d:Nat,n / 10=d:=⟨_,rfl⟩;obtain⟨m,f⟩:∃m:Nat,n % 10=m:=⟨_,rfl⟩;have L:(n:Int).tdiv 10=(d:Int):=by rw[<-b];rfl
  have M:(n:Int).tmod 10=(m:Int):=by rw[<-f];rfl
  have I:IntKind.i64.wrap (d:Int)=(d:Int):=KT _ ω ω;have F:IntKind.i64.wrap (48+(m:Int))=48+(m:Int):=KT _ ω ω;have E:IntKind.u8.wrap (48+(m:Int))=48+(m:Int):=sI _ ω ω;have g:=Z (oD 14 d ω);have l:Hid (TS n=TS d++strOfNums [48+(m:Int)]):=Z (by rw[show TS n=TS (n / 10)++strOfNums [((48+n % 10:Nat):Int)] by rw[TS,dif_neg A],b,f];congr 2);have v:=Z (λc=>h d c (by rw[Nat.pow_succ]at a;omega) ω);obtain⟨o,z⟩:∃t,Hid (t=TS d):=⟨_,Z rfl⟩;obtain⟨u,p⟩:∃t,Hid (t=strOfNums [48+(m:Int)]):=⟨_,Z rfl⟩;have H:u.size=1:=by rw[p.l,BU];rfl
  have G:o.size<=15:=by rw[z.l];exact g.l
  rw[<-z.l]at v;rw[<-z.l,<-p.l]at l;have K:o.size<=9223372036854775806:=ω
  have N:¬(9223372036854775807<o.size+u.size):=ω
  clear b f h q j a g;go_enter func120,ntmps120;go_upto_region 3 with fail;refine AN (S:=λc=>True) κ (trivial) (λb=>?_);refine V 0 (.int .i64 (n:Int)) rfl b (V 1 (.int .i64 (d:Int)) rfl b (V 3 (.int .i64 (n:Int)) rfl b (V 4 (.int .i64 (m:Int)) rfl b (V 5 (.int .i64 (48+(m:Int))) rfl b (V 6 (.int .u8 (48+(m:Int))) rfl b ?_)))));simp only[J];refine DH (rs:=[2,7]) κ σ ?_;refine AY rfl (λf a=>?_) (AY rfl (λf a=>?_) DE)
  ·obtain⟨j,c⟩:∃y,y=w.drew:=⟨_,rfl⟩
   rw[<-c];have r:Below w.heap.size w j:=by rw[c];exact(AC _ _).drew
   clear c;refine LC ρ 120 #[.int .i64 (d:Int)] γ (v.l _) ?_;rintro e t ⟨rfl,x⟩;refine⟨_,rfl,?_⟩;have h:=r.j (x.A r.size);refine a.l _ _ b (λ_=>?_)
   try simp only[J]
   refine RD 7 rfl (λf a=>?_);go_simp;have g:=QJ t (.cells #[.int .u8 (48+(m:Int))] 5);have c:=LU t #[.int .u8 (48+(m:Int))] 5;obtain⟨C,q⟩:∃y,y=t.alloc (.cells #[.int .u8 (48+(m:Int))] 5):=⟨_,rfl⟩;obtain⟨X,i⟩:∃y,y=t.heap.size:=⟨_,rfl⟩;rw[<-q]at g c⊢;rw[<-i]at c⊢;have s:=h.j (g.A h.size);clear q i;refine a.l _ _ b (λ_=>?_)
   try simp only[J]
   refine RD 8 rfl (λf a=>?_);have i:=jb _ _ _ (c.y 0);rw[<-p.l]at i;go_simp;refine a.l _ _ b (λ_=>?_)
   try simp only[J]
   refine V 9 (.string (o++u)) rfl b ?_;simp only[J];refine RD 10 rfl (λf a=>?_);go_simp;refine a.l _ _ b (λ_=>?_)
   try simp only[J]
   refine DN ?_;go_wp2;go_ret;exact⟨by rw[l.l];rfl,s⟩
  obtain⟨j,c⟩:∃y,y=w.drew:=⟨_,rfl⟩
  rw[<-c];have r:Below w.heap.size w j:=by rw[c];exact(AC _ _).drew
  clear c;go_simp;have x:=QJ j (.cells #[.int .u8 (48+(m:Int))] 5);have c:=LU j #[.int .u8 (48+(m:Int))] 5;obtain⟨t,q⟩:∃y,y=j.alloc (.cells #[.int .u8 (48+(m:Int))] 5):=⟨_,rfl⟩;obtain⟨X,i⟩:∃y,y=j.heap.size:=⟨_,rfl⟩;rw[<-q]at x c⊢;rw[<-i]at c⊢;have h:=r.j (x.A r.size);clear q i;refine a.l _ _ b (λ_=>?_)
  try simp only[J]
  refine DH (rs:=[2,8]) κ σ ?_;refine AY rfl (λf a=>?_) (AY rfl (λf a=>?_) DE)
  ·refine LC ρ 120 #[.int .i64 (d:Int)] γ (v.l _) ?_
   rintro e C ⟨rfl,g⟩;refine⟨_,rfl,?_⟩;have s:=h.j (g.A h.size);have c:=c.z g;refine a.l _ _ b (λ_=>?_)
   try simp only[J]
   refine RD 8 rfl (λf a=>?_);have i:=jb _ _ _ (c.y 0);rw[<-p.l]at i;go_simp;refine a.l _ _ b (λ_=>?_)
   try simp only[J]
   refine V 9 (.string (o++u)) rfl b ?_;simp only[J];refine RD 10 rfl (λf a=>?_);go_simp;refine a.l _ _ b (λ_=>?_)
   try simp only[J]
   refine DN ?_;go_wp2;go_ret;exact⟨by rw[l.l];rfl,s⟩
  have i:=jb _ _ _ (c.y 0)
  rw[<-p.l]at i;go_simp;refine a.l _ _ b (λ_=>?_)
  try simp only[J]
  refine RD 2 rfl (λf a=>?_);refine LC ρ 120 #[.int .i64 (d:Int)] γ (v.l _) ?_;rintro e C ⟨rfl,g⟩;refine⟨_,rfl,?_⟩;have s:=h.j (g.A h.size);have c:=c.z g;refine a.l _ _ b (λ_=>?_)
  try simp only[J]
  refine V 9 (.string (o++u)) rfl b ?_;simp only[J];refine RD 10 rfl (λf a=>?_);go_simp;refine a.l _ _ b (λ_=>?_)
  try simp only[J]
  refine DN ?_;go_wp2;go_ret;exact⟨by rw[l.l];rfl,s⟩
def Jq(w f:World)(e:Ending)(a:List ByteArray)(b:List (Int×ByteArray)):Prop:=∃g c d h,e=.returned (LE (some ⟨g,0,none⟩) a.length c (some ⟨d,0,none⟩) b.length h)/\f.ownsRow w.heap.size 9 1 (.slice (some ⟨g,0,none⟩) a.length c) a.length (a.map Value.string)/\f.ownsRow w.heap.size 134 2 (.slice (some ⟨d,0,none⟩) b.length h) b.length (MH b)/\g≠d/\Below w.heap.size w f
theorem yR(a:Option Addr)(f:List ByteArray)(c:Nat)(T:Option Addr)(g:List (Int×ByteArray))(c':Nat)(w:World)(h:Strs w a f)(h':Wrs w T g)(hl:f.length<=1048576)(cP:g.length<=1048576):Calls prog 117 #[LE a f.length c T g.length c'] w λe k=>Jq w k e f g:=by
 obtain⟨i0,b,d,i,j⟩:=XI mn;have C:=Z (AH b (AH d (AH i j)));clear b d i j;obtain⟨i1,b,d,i,j⟩:=XI pe;have D:=Z (AH b (AH d (AH i j)));clear b d i j;unfold LE;go_enter func117,ntmps117;go_wp2_with fail;generalize b:w.alloc _=v1;obtain⟨i,l,bA⟩:=LF b;clear b;generalize d:v1.alloc _=K;obtain⟨b,m,bR⟩:=LF d;clear d;rw[l]at bR;have M:Hid (K.heap.size=w.heap.size+1+1):=Z ω;have j:Below w.heap.size w K:=i.j (b.A ω);replace bA:=bA.z b;clear i b l m
 have u:Hid (∀W,Below K.heap.size K W->W.cell? ⟨w.heap.size,0,none⟩=some (.slice a f.length c)/\W.cell? ⟨w.heap.size,1,none⟩=some (.slice T g.length c')):=λW b=>⟨(bA.z b).q.y 0,(bA.z b).q.y 1⟩
 refine AN (S:=λk=>k.cell? ⟨w.heap.size,0,none⟩=some (.slice a f.length c)/\k.cell? ⟨w.heap.size,1,none⟩=some (.slice T g.length c')) κ (u.l _ (AC _ _).drew) (λbJ=>?_);refine V 1 (.pointer (some ⟨w.heap.size,0,none⟩)) rfl bJ (V 2 (.slice a f.length c) rfl bJ (V 5 (.pointer (some ⟨w.heap.size,1,none⟩)) rfl bJ (V 6 (.slice T g.length c') rfl bJ ?_)));simp only[J];refine DH (rs:=[0,4]) κ σ ?_;refine AY rfl (λz i=>?_) (AY rfl (λz i=>?_) DE)
 ·obtain⟨v,b⟩:∃y,y=K.drew:=⟨_,rfl⟩
  rw[<-b];have I:Below K.heap.size K v:=by rw[b];exact(AC _ _).drew
  clear b;go_simp;have O:=QJ v (.cells #[] 9);have H:=CJ (w:=v) (e:=9) (size:=1) (base:=w.heap.size) #[] 0 (by have:=I.size;have:=M.l;omega) σ σ;have l:=(show(v.alloc (.cells #[] 9)).heap.size=v.heap.size+1 by simp);obtain⟨B,d⟩:∃y,y=v.alloc (.cells #[] 9):=⟨_,rfl⟩;obtain⟨b0,b⟩:∃y,y=v.heap.size:=⟨_,rfl⟩;rw[<-d]at O H l⊢;rw[<-b]at H⊢;have A:=I.j (O.A I.size);have E0:=Z b;have bI:=Z l;clear l;clear d;clear b;refine i.l _ _ (u.l _ A) (λcE=>?_)
  try simp only[J]
  refine DH (rs:=[3,4]) κ σ ?_;refine AY rfl (λz i=>?_) (AY rfl (λz i=>?_) DE)
  ·refine YJ ρ _ _ 23 ρ 9 i0 (.string empty) 1 16 underlying23 C.l.1 C.l.2.1 C.l.2.2.1 C.l.2.2.2 rfl b0 w.heap.size ρ H _ ρ f.length _ (YS (h.z (j.j (A.A j.size))) _ _ underlying23 _) ω ω (by have:=A.size;have:=j.size;omega) ?_
   intro b l L p n E;have t:=A.j (E.A A.size);have cA:b<L.heap.size:=(p.lt _ rfl).2;refine i.l _ _ (u.l _ t) (λcF=>?_)
   try simp only[J]
   refine RD 4 rfl (λz i=>?_);go_simp;have F:=QJ L (.cells #[] 134);have r:=CJ (w:=L) (e:=134) (size:=2) (base:=w.heap.size) #[] 0 (by have:=t.size;have:=M.l;omega) σ σ;have m:=(show(L.alloc (.cells #[] 134)).heap.size=L.heap.size+1 by simp);obtain⟨y3,d⟩:∃y,y=L.alloc (.cells #[] 134):=⟨_,rfl⟩;obtain⟨U,k⟩:∃y,y=L.heap.size:=⟨_,rfl⟩;rw[<-d]at F r m⊢;rw[<-k]at r⊢;have s:=t.j (F.A t.size);have S:=Z k;have cC:=Z m;clear m;clear d;clear k;have p:=LR p F;refine i.l _ _ (u.l _ s) (λcH=>?_)
   try simp only[J]
   refine RD 7 rfl (λz i=>?_);refine YJ ρ _ _ 24 ρ 134 i1 (.agg #[.int .i64 0,.string empty]) 2 24 underlying24 D.l.1 D.l.2.1 D.l.2.2.1 D.l.2.2.2 rfl U w.heap.size ρ r _ ρ g.length _ (kg (h'.z (j.j (s.A j.size))) _ _ underlying24 _) ω ω (by have:=s.size;have:=j.size;omega) ?_;intro d m y4 N o G;have x:=s.j (G.A s.size);have p:=LR p G;refine i.l _ _ (u.l _ x) (λbT=>?_)
   try simp only[J]
   refine V 8 (.agg #[.slice (some ⟨b,0,none⟩) f.length l,.slice (some ⟨d,0,none⟩) g.length m]) rfl bT ?_;simp only[J];refine RD 9 rfl (λz i=>?_);have q:=(bR.z x).q;have k0:=q.y 0;have k1:=q.y 1;obtain⟨f0,f1⟩:=q.z2;have kl:=q.lt;go_simp;refine i.l _ _ ((u.l _ x).imp (λk=>(AP _ _ _ _ σ).j ((AP _ _ _ _ σ).j k)) (λk=>(AP _ _ _ _ σ).j ((AP _ _ _ _ σ).j k))) (λcI=>?_)
   try simp only[J]
   refine DN ?_;go_wp2_with fail;have R:=(q.set 0 σ (.slice (some ⟨b,0,none⟩) f.length l)).set 1 σ (.slice (some ⟨d,0,none⟩) g.length m);have s0:=I.size;have sz:=M.l;have W:=E0.l;have X:=S.l;have t0:=O.size;have t1:=E.size;have t2:=F.size;have t3:=G.size;have q0:=bI.l;have q2:=cC.l
   have P:b≠w.heap.size+1:=λe=>by clear p N;rcases n with n|n<;>omega
   have Q:d≠w.heap.size+1:=λe=>by rcases o with o|o<;>omega
   have gC:b≠d:=by rcases n with n|n<;>rcases o with o|o<;>omega
   clear q0 q2 sz W X;have o3:=AQ (a:=⟨w.heap.size+1,1,none⟩) (AQ (a:=⟨w.heap.size+1,0,none⟩) p (λe=>P (by injection e)) (.slice (some ⟨b,0,none⟩) f.length l)) (λe=>P (by injection e)) (.slice (some ⟨d,0,none⟩) g.length m);have o7:=AQ (a:=⟨w.heap.size+1,1,none⟩) (AQ (a:=⟨w.heap.size+1,0,none⟩) N (λe=>Q (by injection e)) (.slice (some ⟨b,0,none⟩) f.length l)) (λe=>Q (by injection e)) (.slice (some ⟨d,0,none⟩) g.length m);have W:=R.y 0;have X:=R.y 1;have hF:Below w.heap.size w ((y4.setCell ⟨w.heap.size+1,0,none⟩ (.slice (some ⟨b,0,none⟩) f.length l)).setCell ⟨w.heap.size+1,1,none⟩ (.slice (some ⟨d,0,none⟩) g.length m)):=((j.j (x.A j.size)).setCell σ _).setCell σ _;refine AI (v:=.agg #[.slice (some ⟨b,0,none⟩) f.length l,.slice (some ⟨d,0,none⟩) g.length m]) (by simp[results,results117,go_sem,W,X]) rfl ⟨b,l,d,m,rfl,o3,o7,gC,hF⟩
  go_simp
  have E:=QJ B (.cells #[] 134);have r:=CJ (w:=B) (e:=134) (size:=2) (base:=w.heap.size) #[] 0 (by have:=A.size;have:=M.l;omega) σ σ;have l:=(show(B.alloc (.cells #[] 134)).heap.size=B.heap.size+1 by simp);obtain⟨L,d⟩:∃y,y=B.alloc (.cells #[] 134):=⟨_,rfl⟩;obtain⟨U,k⟩:∃y,y=B.heap.size:=⟨_,rfl⟩;rw[<-d]at E r l⊢;rw[<-k]at r⊢;have t:=A.j (E.A A.size);have S:=Z k;have bQ:=Z l;clear l;clear d;clear k;have H:=LR H E;refine i.l _ _ (u.l _ t) (λcJ=>?_)
  try simp only[J]
  refine RD 3 rfl (λz i=>?_);refine YJ ρ _ _ 23 ρ 9 i0 (.string empty) 1 16 underlying23 C.l.1 C.l.2.1 C.l.2.2.1 C.l.2.2.2 rfl b0 w.heap.size ρ H _ ρ f.length _ (YS (h.z (j.j (t.A j.size))) _ _ underlying23 _) ω ω (by have:=t.size;have:=j.size;omega) ?_;intro b l y3 p n F;have s:=t.j (F.A t.size);have cA:b<y3.heap.size:=(p.lt _ rfl).2;have r:=LR r F;refine i.l _ _ (u.l _ s) (λcL=>?_)
  try simp only[J]
  refine RD 7 rfl (λz i=>?_);refine YJ ρ _ _ 24 ρ 134 i1 (.agg #[.int .i64 0,.string empty]) 2 24 underlying24 D.l.1 D.l.2.1 D.l.2.2.1 D.l.2.2.2 rfl U w.heap.size ρ r _ ρ g.length _ (kg (h'.z (j.j (s.A j.size))) _ _ underlying24 _) ω ω (by have:=s.size;have:=j.size;omega) ?_;intro d m y4 N o G;have x:=s.j (G.A s.size);have p:=LR p G;refine i.l _ _ (u.l _ x) (λbU=>?_)
  try simp only[J]
  refine V 8 (.agg #[.slice (some ⟨b,0,none⟩) f.length l,.slice (some ⟨d,0,none⟩) g.length m]) rfl bU ?_;simp only[J];refine RD 9 rfl (λz i=>?_);have q:=(bR.z x).q;have k0:=q.y 0;have k1:=q.y 1;obtain⟨f0,f1⟩:=q.z2;have kl:=q.lt;go_simp;refine i.l _ _ ((u.l _ x).imp (λk=>(AP _ _ _ _ σ).j ((AP _ _ _ _ σ).j k)) (λk=>(AP _ _ _ _ σ).j ((AP _ _ _ _ σ).j k))) (λcO=>?_)
  try simp only[J]
  refine DN ?_;go_wp2_with fail;have R:=(q.set 0 σ (.slice (some ⟨b,0,none⟩) f.length l)).set 1 σ (.slice (some ⟨d,0,none⟩) g.length m);have s0:=I.size;have sz:=M.l;have W:=E0.l;have X:=S.l;have t0:=O.size;have t1:=E.size;have t2:=F.size;have t3:=G.size;have q0:=bI.l;have q1:=bQ.l
  have P:b≠w.heap.size+1:=λe=>by clear p N;rcases n with n|n<;>omega
  have Q:d≠w.heap.size+1:=λe=>by rcases o with o|o<;>omega
  have gC:b≠d:=by rcases n with n|n<;>rcases o with o|o<;>omega
  clear q0 q1 sz W X;have o3:=AQ (a:=⟨w.heap.size+1,1,none⟩) (AQ (a:=⟨w.heap.size+1,0,none⟩) p (λe=>P (by injection e)) (.slice (some ⟨b,0,none⟩) f.length l)) (λe=>P (by injection e)) (.slice (some ⟨d,0,none⟩) g.length m);have o7:=AQ (a:=⟨w.heap.size+1,1,none⟩) (AQ (a:=⟨w.heap.size+1,0,none⟩) N (λe=>Q (by injection e)) (.slice (some ⟨b,0,none⟩) f.length l)) (λe=>Q (by injection e)) (.slice (some ⟨d,0,none⟩) g.length m);have W:=R.y 0;have X:=R.y 1;have hF:Below w.heap.size w ((y4.setCell ⟨w.heap.size+1,0,none⟩ (.slice (some ⟨b,0,none⟩) f.length l)).setCell ⟨w.heap.size+1,1,none⟩ (.slice (some ⟨d,0,none⟩) g.length m)):=((j.j (x.A j.size)).setCell σ _).setCell σ _;refine AI (v:=.agg #[.slice (some ⟨b,0,none⟩) f.length l,.slice (some ⟨d,0,none⟩) g.length m]) (by simp[results,results117,go_sem,W,X]) rfl ⟨b,l,d,m,rfl,o3,o7,gC,hF⟩
 obtain⟨v,b⟩:∃y,y=K.drew:=⟨_,rfl⟩
 rw[<-b];have I:Below K.heap.size K v:=by rw[b];exact(AC _ _).drew
 clear b;go_simp;have O:=QJ v (.cells #[] 134);have r:=CJ (w:=v) (e:=134) (size:=2) (base:=w.heap.size) #[] 0 (by have:=I.size;have:=M.l;omega) σ σ;have l:=(show(v.alloc (.cells #[] 134)).heap.size=v.heap.size+1 by simp);obtain⟨B,d⟩:∃y,y=v.alloc (.cells #[] 134):=⟨_,rfl⟩;obtain⟨U,k⟩:∃y,y=v.heap.size:=⟨_,rfl⟩;rw[<-d]at O r l⊢;rw[<-k]at r⊢;have A:=I.j (O.A I.size);have S:=Z k;have bI:=Z l;clear l;clear d;clear k;refine i.l _ _ (u.l _ A) (λbV=>?_)
 try simp only[J]
 refine RD 0 rfl (λz i=>?_);go_simp;have E:=QJ B (.cells #[] 9);have H:=CJ (w:=B) (e:=9) (size:=1) (base:=w.heap.size) #[] 0 (by have:=A.size;have:=M.l;omega) σ σ;have l:=(show(B.alloc (.cells #[] 9)).heap.size=B.heap.size+1 by simp);obtain⟨L,d⟩:∃y,y=B.alloc (.cells #[] 9):=⟨_,rfl⟩;obtain⟨b0,b⟩:∃y,y=B.heap.size:=⟨_,rfl⟩;rw[<-d]at E H l⊢;rw[<-b]at H⊢;have t:=A.j (E.A A.size);have E0:=Z b;have bQ:=Z l;clear l;clear d;clear b;have r:=LR r E;refine i.l _ _ (u.l _ t) (λbW=>?_)
 try simp only[J]
 refine RD 3 rfl (λz i=>?_);refine YJ ρ _ _ 23 ρ 9 i0 (.string empty) 1 16 underlying23 C.l.1 C.l.2.1 C.l.2.2.1 C.l.2.2.2 rfl b0 w.heap.size ρ H _ ρ f.length _ (YS (h.z (j.j (t.A j.size))) _ _ underlying23 _) ω ω (by have:=t.size;have:=j.size;omega) ?_;intro b l y3 p n F;have s:=t.j (F.A t.size);have cA:b<y3.heap.size:=(p.lt _ rfl).2;have r:=LR r F;refine i.l _ _ (u.l _ s) (λbY=>?_)
 try simp only[J]
 refine RD 7 rfl (λz i=>?_);refine YJ ρ _ _ 24 ρ 134 i1 (.agg #[.int .i64 0,.string empty]) 2 24 underlying24 D.l.1 D.l.2.1 D.l.2.2.1 D.l.2.2.2 rfl U w.heap.size ρ r _ ρ g.length _ (kg (h'.z (j.j (s.A j.size))) _ _ underlying24 _) ω ω (by have:=s.size;have:=j.size;omega) ?_;intro d m y4 N o G;have x:=s.j (G.A s.size);have p:=LR p G;refine i.l _ _ (u.l _ x) (λy=>?_)
 try simp only[J]
 refine V 8 (.agg #[.slice (some ⟨b,0,none⟩) f.length l,.slice (some ⟨d,0,none⟩) g.length m]) rfl y ?_;simp only[J];refine RD 9 rfl (λz i=>?_);have q:=(bR.z x).q;have k0:=q.y 0;have k1:=q.y 1;obtain⟨f0,f1⟩:=q.z2;have kl:=q.lt;go_simp;refine i.l _ _ ((u.l _ x).imp (λk=>(AP _ _ _ _ σ).j ((AP _ _ _ _ σ).j k)) (λk=>(AP _ _ _ _ σ).j ((AP _ _ _ _ σ).j k))) (λbZ=>?_)
 try simp only[J]
 refine DN ?_;go_wp2_with fail;have R:=(q.set 0 σ (.slice (some ⟨b,0,none⟩) f.length l)).set 1 σ (.slice (some ⟨d,0,none⟩) g.length m);have s0:=I.size;have sz:=M.l;have W:=E0.l;have X:=S.l;have t0:=O.size;have t1:=E.size;have t2:=F.size;have t3:=G.size;have q0:=bI.l;have q1:=bQ.l
 have P:b≠w.heap.size+1:=λe=>by clear p N;rcases n with n|n<;>omega
 have Q:d≠w.heap.size+1:=λe=>by rcases o with o|o<;>omega
 have gC:b≠d:=by rcases n with n|n<;>rcases o with o|o<;>omega
 clear q0 q1 sz W X;have o3:=AQ (a:=⟨w.heap.size+1,1,none⟩) (AQ (a:=⟨w.heap.size+1,0,none⟩) p (λe=>P (by injection e)) (.slice (some ⟨b,0,none⟩) f.length l)) (λe=>P (by injection e)) (.slice (some ⟨d,0,none⟩) g.length m);have o7:=AQ (a:=⟨w.heap.size+1,1,none⟩) (AQ (a:=⟨w.heap.size+1,0,none⟩) N (λe=>Q (by injection e)) (.slice (some ⟨b,0,none⟩) f.length l)) (λe=>Q (by injection e)) (.slice (some ⟨d,0,none⟩) g.length m);have W:=R.y 0;have X:=R.y 1;have hF:Below w.heap.size w ((y4.setCell ⟨w.heap.size+1,0,none⟩ (.slice (some ⟨b,0,none⟩) f.length l)).setCell ⟨w.heap.size+1,1,none⟩ (.slice (some ⟨d,0,none⟩) g.length m)):=((j.j (x.A j.size)).setCell σ _).setCell σ _;refine AI (v:=.agg #[.slice (some ⟨b,0,none⟩) f.length l,.slice (some ⟨d,0,none⟩) g.length m]) (by simp[results,results117,go_sem,W,X]) rfl ⟨b,l,d,m,rfl,o3,o7,gC,hF⟩
