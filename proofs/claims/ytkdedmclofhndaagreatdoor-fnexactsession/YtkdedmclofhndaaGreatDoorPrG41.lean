import Derived.Test.YtkdedmclofhndaaGreatDoorPrFnA
import Derived.Test.YtkdedmclofhndaaGreatDoorPrApS
import Derived.Test.YtkdedmclofhndaaGreatDoorPrDrvOf
set_option maxHeartbeats 16000000
set_option maxRecDepth 8000
set_option linter.all false
namespace Go.Proofs.YtkdedmclofhndaaGreatDoor
open _root_.ByteArray(empty)
open Tryz
open Go.RowKit
variable {e:yZ}{H S:Int}{ws:List (Int×yZ)}{es ss:List yZ}{cs:List qD}{X base g n:Nat}{a:xA}{v:qD}{w w':xV}
section
abbrev XR(ss:List yZ)(ws:List (Int×yZ))(frm size n:Int):Prop:=LO ss ws=true/\(1<=n/\n<=8)/\0<=frm/\0<=size/\frm<=(ss.length:Int)/\size<=(ss.length:Int)-frm
def TG(ss:List yZ)(ws:List (Int×yZ))(c b first d n:Int):Scd :=if XR ss ws c b n then NW (λk=>(Oz ws ss).getD k empty) c.toNat first n b.toNat 0 0 d empty ([],0,d) else ([],0,0)
def aw(w w':xV)(e:Ending)(x:Scd):Prop:=∃y,e=yT (.agg #[y,Z x.2.1,Z x.2.2])/\w'.ownsRow w.heap.size 9 1 y x.1.length (x.1.map Value.string)/\yX w w'
structure ScB(w0 w:xV)(RB G XB OT WS:Nat)(S:List qD)(cx:Nat)(xp:qD)(y:qD)(ents:List yZ)(u l wk wl wm:Int)(wp:yZ):Prop where
 rb:Row w RB [yI none 0 0,Z 0,Z 0]
 sec:Row w G S
 xb:Row w XB [yI (zY G 0) S.length cx,xp]
 ot:Row w OT [y,Z u,Z l]
 ws:Row w WS [Z wk,Z wl,Z wm,yQ wp]
 own:w.ownsRow w0.heap.size 9 1 y ents.length (ents.map Value.string)
 o1:w0.heap.size<=RB
 o2:RB<G
 o3:G<XB
 o4:XB<OT
 o5:OT<WS
 yo:∀k,y.ownBlock=some k->WS<k
 be:yX w0 w
section
variable {w0 w w':xV} {RB G XB OT WS:Nat} {S:List qD} {cx:Nat} {xp:qD} {y:qD} {ents:List yZ} {u l wk wl wm:Int} {wp:yZ}
theorem ScB.I(h:ScB w0 w RB G XB OT WS S cx xp y ents u l wk wl wm wp)(b:yX w w'):ScB w0 w' RB G XB OT WS S cx xp y ents u l wk wl wm wp :=⟨h.rb.I b,h.sec.I b,h.xb.I b,h.ot.I b,h.ws.I b,LZ h.own b,h.o1,h.o2,h.o3,h.o4,h.o5,h.yo,h.be.E (b.J h.be.size)⟩
theorem ScB.own_ne(h:ScB w0 w RB G XB OT WS S cx xp y ents u l wk wl wm wp){k:Nat}(b:k<=WS):y.ownBlock≠some k:=λe=>by have:=h.yo k e;omega
theorem ScB.setWas(h:ScB w0 w RB G XB OT WS S cx xp y ents u l wk wl wm wp)(d f j:Int)(k:yZ):ScB w0 ((((w.setCell (yA WS 0) (Z d)).setCell (yA WS 1) (Z f)).setCell (yA WS 2) (Z j)).setCell (yA WS 3) (yQ k)) RB G XB OT WS S cx xp y ents u l d f j k:=by
 have o:=h.o1;have p:=h.o2;have q:=h.o3;have r:=h.o4;have s:=h.o5
 have b:∀ {g:Nat} {cs:List qD},g≠WS->Row w g cs->Row ((((w.setCell (yA WS 0) (Z d)).setCell (yA WS 1) (Z f)).setCell (yA WS 2) (Z j)).setCell (yA WS 3) (yQ k)) g cs:=λc i =>
  (((i.other _ (JC c) _).other _ (JC c) _).other _ (JC c) _).other _ (JC c) _
 have c:=h.own_ne (AA WS)
 have bs:∀ {x:xV},yX w0 x->∀i v,yX w0 (x.setCell (yA WS i) v):=λm i v=>m.setCell (by show w0.heap.size<=WS;omega) _
 exact⟨b ω h.rb,b ω h.sec,b ω h.xb,b ω h.ot,(((h.ws.set 0 σ _).set 1 σ _).set 2 σ _).set 3 σ _,
  BS (BS (BS (BS h.own c _) c _) c _) c _,o,p,q,r,s,h.yo,bs (bs (bs (bs h.be _ _) _ _) _ _) _ _⟩
theorem ScB.setEnd(h:ScB w0 w RB G XB OT WS S cx xp y ents u l wk wl wm wp)(d c:Int):ScB w0 ((w.setCell (yA OT 1) (Z d)).setCell (yA OT 2) (Z c)) RB G XB OT WS S cx xp y ents d c wk wl wm wp:=by
 have k:=h.o1;have m:=h.o2;have o:=h.o3;have p:=h.o4;have q:=h.o5
 have b:∀ {g:Nat} {cs:List qD},g≠OT->Row w g cs->Row ((w.setCell (yA OT 1) (Z d)).setCell (yA OT 2) (Z c)) g cs:=λf i=>(i.other _ (JC f) _).other _ (JC f) _
 have f:=h.own_ne (k:=OT) ω
 have bs:∀ {x:xV},yX w0 x->∀i v,yX w0 (x.setCell (yA OT i) v):=λj i v=>j.setCell (by show w0.heap.size<=OT;omega) _
 exact⟨b ω h.rb,b ω h.sec,b ω h.xb,(h.ot.set 1 σ _).set 2 σ _,b ω h.ws,
  BS (BS h.own f _) f _,k,m,o,p,q,h.yo,bs (bs h.be _ _) _ _⟩
theorem ScB.push(h:ScB w0 w RB G XB OT WS S cx xp y ents u l wk wl wm wp){b:qD}{ents':List yZ}{H:Nat}(m:w'.ownsRow w0.heap.size 9 1 b ents'.length (ents'.map Value.string))(f:w.grownBy w' y.ownBlock)(o:y.ownBlock=b.ownBlock\/b.ownBlock=some H)(x:w.heap.size<=H):ScB w0 (w'.setCell (yA OT 0) b) RB G XB OT WS S cx xp b ents' u l wk wl wm wp:=by
 have p:=h.o1;have q:=h.o2;have r:=h.o3;have s:=h.o4;have t:=h.o5;have z:=h.ws.lt
 have j:∀k,b.ownBlock=some k->WS<k:=λk c=>by
  rcases o with e|e
  ·exact h.yo k (e.E c)
  rw[e]at c;cases c;omega
 have c:∀ {g:Nat} {cs:List qD},g<=WS->Row w g cs->Row w' g cs:=λd i=>i.V f (λe=>h.own_ne d e.symm)
 have d:∀ {g:Nat} {cs:List qD},g≠OT->Row w' g cs->Row (w'.setCell (yA OT 0) b) g cs:=λf i=>i.other _ (JC f) _
 have k:b.ownBlock≠some OT:=λe=>by have:=j OT e;omega
 have i:yX w0 w':=h.be.E (MF f h.be.size (λg e=>(h.own.lt g e).1))
 exact⟨d ω (c ω h.rb),d ω (c ω h.sec),d ω (c ω h.xb),(c ω h.ot).set 0 σ _,d ω (c (AA _) h.ws),
  BS m k _,p,q,r,s,t,j,i.setCell (by show w0.heap.size<=OT;omega) _⟩
end
theorem Ko(f h q:Int)(r:yZ)(k l m:Int)(p:yZ)(w:xV):Calls prog 179 #[ND f h q r,ND k l m p] w λe w'=>e=yT (yR (QE f h k l))/\yX w w':=by
 have j:∀b c,yX w ((w.alloc b).alloc c):=λb c=>(LG _ _).alloc σ _
 obtain⟨B,c⟩:∃B,QE f h k l=B:=⟨_,rfl⟩;have b:=Y c;rw[c];clear c
 by_cases t:l<h
 focus
  have e:B=false:=by rw[<-b.j];unfold QE;simp;omega
  subst e;clear b
 rotate_left
 focus
  by_cases o:k=3
  focus
   subst o
   by_cases c:f=1
   focus
    have e:B=false:=by rw[<-b.j];unfold QE;simp[c]
    subst e;clear b
   rotate_left
   focus
    have e:B=true:=by rw[<-b.j];unfold QE;simp[c];omega
    have i:(f != 1)=true:=by simp[c]
    subst e;clear b
   rotate_left
  rotate_left 2
  focus
   by_cases d:k=1\/k=2
   ·by_cases c:f=1
    focus
     by_cases i:h=l
     focus
      have e:B=true:=by rw[<-b.j];unfold QE;rcases d with rfl|rfl<;>simp[c,i]
     rotate_left
     focus
      have e:B=false:=by rw[<-b.j];unfold QE;rcases d with rfl|rfl<;>simp[c,i]
      have s:(h == l)=false:=by simp[i]
     rotate_left
    rotate_left 2
    focus
     have e:B=true:=by rw[<-b.j];unfold QE;rcases d with rfl|rfl<;>simp[c]<;>omega
     have i:(f != 1)=true:=by simp[c]
    rotate_left
    all_goals
     subst e;clear b;rcases d with rfl|rfl<;>(go_enter func179,ntmps179;go_wp2;go_ret;exact⟨rfl,j _ _⟩)
   focus
    have c:¬k=1:=λe=>d (.inl e)
    have i:¬k=2:=λe=>d (.inr e)
    have e:B=false:=by rw[<-b.j];unfold QE;simp[o,c,i]
    subst e;clear b d
   rotate_left
  rotate_left
 rotate_left 3
 all_goals
  go_enter func179,ntmps179;go_wp2;go_ret;exact⟨rfl,j _ _⟩
end
section
set_option maxHeartbeats 4000000
theorem F7:(prog.info? 9).map (λi=>(i.zero,i.size,i.bytes))=some (some (yQ empty),1,16):=κ
theorem Kh{P:Program}{e:TypeId}{z:qD}{b c:Nat}(h:(P.info? e).map (λi=>(i.zero,i.size,i.bytes))=some (some z,b,c)):∃i,P.info? e=some i/\i.zero=some z/\i.size=b/\i.bytes=c:=by
 obtain⟨i,f,d⟩:=DZ.1 h;simp only[EJ]at d;exact⟨i,f,d⟩
theorem Hr(w:xV)(cs:Array qD)(t:TypeId):∀j u,cs.toList[j]?=some u->(w.alloc (.cells cs t)).cell? (((yA w.heap.size 0):Addr).add j)=some u:=World.news_of_block (AU w (.cells cs t))
theorem Kt(k:yZ):∀u∈[yQ k],u.oneCell'=true:=by
 intro u b;simp only[DX,EW,IX]at b;subst b;rfl
def mL(N f:Nat)(y:qD)(w:xV)(c:List yZ)(i h:Int)(w':xV):Prop :=∃d,Row w' f [d,Z i,Z h]/\w'.ownsRow N 9 1 d c.length (c.map Value.string)/\(d.ownBlock=y.ownBlock\/∃H,d.ownBlock=some H/\w.heap.size<=H)/\Below N w w'/\(∀b,b<w.heap.size->b≠f->some b≠y.ownBlock->w'.heap[b]?=w.heap[b]?)
theorem Cr(N d:Nat)(y:qD)(c:List yZ)(u0 W k l m:Int)(p o:yZ)(x:Nat)(w:xV)
  (s:Row w d [y,Z u0,Z W])(E:w.ownsRow N 9 1 y c.length (c.map Value.string))(A:N<=d)(B:N<=w.heap.size)(r:y.ownBlock≠some d)(hx:x<=200)(aU:c.length<=300):Calls prog 222 #[zW d 0,ND k l m p,Z (x:Int),yQ o] w λe w'=>e=yT (.tuple #[])/\mL N d y w (if k=2 then c++[o] else c) ((x:Int)+1) l w':=by
 have aX:IntKind.i64.wrap ((x:Int)+1)=(x:Int)+1:=by simp[IntKind.wrap,IntKind.bits,IntKind.signed];omega
 obtain⟨i0,b,f,h,i⟩:=Kh F7;have Q:=Y (AG b (AG f (AG h i)));clear b f h i
 obtain⟨F,G,rfl⟩:∃F G,y=yI F c.length G:=by
  rcases MC E with ⟨b,f⟩|⟨h,i,b,_⟩
  ·exact⟨none,0,by rw[b,f]⟩
  exact⟨_,i,b⟩
 obtain⟨c0,c1,c2⟩:=s.k3;obtain⟨f0,f1,f2⟩:=s.z3;have hl:=s.lt;have aW:¬d=w.heap.size:=ω
 have K:=Y (((s.set 1 σ (Z ((x:Int)+1))).set 2 σ (Z l)).alloc (.cells #[Z k,Z l,Z m,yQ p] 127));have J:=Y ((BS (BS E r (a:=(yA d 1)) (Z ((x:Int)+1))) r (a:=(yA d 2)) (Z l)).alloc (.cells #[Z k,Z l,Z m,yQ p] 127));have t:=Y ((((AB N w).setCell (p:=(yA d 1)) A (Z ((x:Int)+1))).setCell (p:=(yA d 2)) A (Z l)).alloc (by simpa using B) (.cells #[Z k,Z l,Z m,yQ p] 127))
 have I:Hid (∀b,b<w.heap.size->b≠d->(((w.setCell (yA d 1) (Z ((x:Int)+1))).setCell (yA d 2) (Z l)).alloc (.cells #[Z k,Z l,Z m,yQ p] 127)).heap[b]?=w.heap[b]?):=λb q f=>by
  rw[JO _ _ (by simpa using q),BM _ _ _ _ f,BM _ _ _ _ f]
 by_cases D:k=2
 ·subst D
  rw[AI rfl];go_enter func222,ntmps222
  go_wp2_with (first|(at_builtin;refine QS _ rfl _ _ 27 rfl N underlying27 Q.j rfl ω _ c.length _ rfl (J.j.alloc _) (yA (w.heap.size+1) 0) 1 1 [yQ o] rfl rfl (by intro j z V;have:=Hr (((w.setCell (yA d 1) (Z ((x:Int)+1))).setCell (yA d 2) (Z l)).alloc (.cells #[Z 2,Z l,Z m,yQ p] 127)) #[yQ o] 9 j z V;simpa using this) (Kt _) τ (w.heap.size+1+1) σ ?_;intro C i aY L u M aL;have h:=(K.j.alloc (.cells #[yQ o] 9)).V u (λe=>r e.symm);have d0:=h.y 0;have e0:=h.A 0;have dl:=h.lt;have T:=Y h;have P:=Y u;have R:=Y L;have O:=Y M;clear h u L M))
  go_end0
  have U:∀z,(yI F c.length G).ownBlock=some z->N<=z/\z<w.heap.size:=λz u=>E.lt z u
  have M:¬C=d:=λe=>by
   rcases O.j with h|h
   ·exact r (h.E (by rw[e]))
   omega
  refine⟨rfl,yI (zY C 0) (c.length+1) i,T.j.set 0 σ _,?_,?_,?_,λb q f L=>?_⟩
  ·rw[AK,DA]
   exact BS R.j (by simpa[Value.ownBlock] using M) _
  ·rcases O.j with h|h
   ·exact .inl h.symm
   exact .inr ⟨C,rfl,ω⟩
  ·exact(((t.j.alloc (AJ B t.j.size) _).E (MF P.j (AJ B ξ) (λz u=>(U z u).1))).setCell A _)
  rw[BM _ _ _ _ f,P.j.block b τ L,JO _ _ τ]
  exact I.j b q f
 rw[AF D]
 have h:(k == 2)=false:=by simp[D]
 go_enter func222,ntmps222;go_wp2;go_end0;exact⟨rfl,_,K.j,J.j,.inl rfl,t.j,λb q f _=>I.j b q f⟩
end
section
def NV:List yZ->List Pr->Option (List Pr)
 | [],rs=>some rs
 | e::es,rs=>match UM e with
  | none=>none
  | some b=>if PK rs b=0 then NV es (MV rs b) else none
theorem dx:∀(es:List yZ) (rs:List Pr),LX rs=true->∀r,NV es rs=some r->LX r=true
 | [],rs,h,r,hr=>by cases hr;exact h
 | e::es,rs,h,r,hr=>by
  rw[NV]at hr
  split at hr
  ·cases hr
  split at hr
  ·rename_i hc
   exact dx es _ (Ro hc) r hr
  cases hr
theorem tF{b:List Pr}(h:UM e=none):NV (e::es) b=none:=by rw[NV,h]
theorem uW{c:List Pr}{b:List Ch}(h:UM e=some b)(d:PK c b≠0):NV (e::es) c=none:=by rw[NV,h];simp only;rw[AF d]
theorem oU{c:List Pr}{b:List Ch}(h:UM e=some b)(d:PK c b=0):NV (e::es) c=NV es (MV c b):=by rw[NV,h];simp only;rw[AI d]
theorem VB:LX []=true:=δ
theorem UN{b:List Pr}(h:LX b=true):b.length<=100/\∀x∈b,x.1.size<=1048576/\x.2.size<=1048576:=by
 obtain⟨f,i,k⟩:=(P0 b).1 h;refine⟨f,λx j=>?_⟩;obtain⟨c,d⟩:=i x j;unfold PC at c;unfold OB at d;simp at c d;omega
theorem nM{b:List Ch}(h:OM b=true):b.length<=20/\∀x∈b,x.1.size<=1048576/\x.2.1.size<=1048576:=by
 obtain⟨j,f⟩:=XW h;refine⟨ω,λx i=>?_⟩;obtain⟨c,d⟩:=Rq (f x i);unfold PC at c;unfold OB at d;simp at c d;omega
def WC(x:RtT):Prop:=(0<=x.1/\x.1<=1000000000)/\(0<=x.2.1/\x.2.1<=1)/\(1<=x.2.2.1/\x.2.2.1<=999999000)/\(0<=x.2.2.2/\x.2.2.2<=60000)
theorem vG{s:yZ}{a n:Int}{x:RtT}(h:NT s a n=some x):WC x:=by
 unfold NT at h
 split at h
 ·cases h
 rename_i k l m p i
 have j:=UJ i
 split at h
 ·rename_i f
  cases h
  obtain⟨o,b,q⟩:=f
  have d:UT (RL p) (QW p):=by
   by_cases e:UT (RL p) (QW p)
   ·exact e
   exfalso
   unfold OS at b;rw[AF e]at b;have c:=j.1;rw[<-b]at c;exact absurd c δ
  unfold UT at d;unfold WC;simp only;omega
 cases h
theorem qE{b:RtT}{o:Option RtT}(c:WC b)(d:∀x,o=some x->WC x):WC (TL b o):=by
 unfold TL
 split
 ·exact c
 rename_i r
 split
 ·exact d _ rfl
 exact c
theorem Lg(c d:yZ)(n:Int):WC (ik c d n):=by
 unfold ik;exact qE (qE (by unfold WC;simp) (λx b=>vG b)) (λx b=>vG b)
theorem fg{n:Int}(h:LO ss ws=true/\1<=n/\n<=8):WC (MQ ss ws n):=by
 unfold MQ;rw[AI h];exact Lg _ _ _
def OA(ss:List yZ)(ws:List (Int×yZ))(n:Int):Scd:=TG ss ws (2+(MQ ss ws n).2.1*hv ss.length) (hv ss.length) (MQ ss ws n).2.2.1 (MQ ss ws n).2.2.2 n
theorem Fy(h:8<=S/\S<=200):2+2*hv S<=S:=by unfold hv;rw[AI h];omega
theorem oy{q:Int}(h:0<=H/\H<=1)(b:0<=q):0<=H*q/\H*q<=q:=by
 have:H=0\/H=1:=ω
 rcases this with rfl|rfl<;>omega
theorem Jc{n:Int}(h:LO ss ws=true/\1<=n/\n<=8):XR ss ws (2+(MQ ss ws n).2.1*hv ss.length) (hv ss.length) n:=by
 have b:=fg h;obtain⟨⟨d,f,i⟩,c,m⟩:=OV h.1;have j:=PG (S:=(ss.length:Int)) ω;have k:=Fy (S:=(ss.length:Int)) ω;have l:=oy b.2.1 (q:=hv ss.length) ω;exact⟨h.1,h.2,ω,ω,ω,ω⟩
theorem mz{n:Int}(h:LO ss ws=true/\1<=n/\n<=8):(0<=(OA ss ws n).2.1/\(OA ss ws n).2.1<=hv ss.length)/\(0<=(OA ss ws n).2.2/\(OA ss ws n).2.2<=60000)/\(OA ss ws n).1.length<=99/\∀e∈(OA ss ws n).1,e.size<=6336:=by
 have f:=fg h;have b:=Jc h;obtain⟨⟨l,m,o⟩,j,p⟩:=OV h.1;have c:=PG (S:=(ss.length:Int)) ω;unfold OA TG;rw[AI b];obtain⟨q,i⟩:∃q:Nat,hv ss.length=(q:Int):=⟨(hv ss.length).toNat,ω⟩;rw[i]at c⊢;simp only[DS];have u1:=vr (λk=>(Oz ws ss).getD k empty) (2+(MQ ss ws n).2.1*(q:Int)).toNat (MQ ss ws n).2.2.1 n q 0 0 (MQ ss ws n).2.2.2 empty ([],0,(MQ ss ws n).2.2.2) σ;have u2:=xu (λk=>(Oz ws ss).getD k empty) (2+(MQ ss ws n).2.1*(q:Int)).toNat (MQ ss ws n).2.2.1 n q 0 0 (MQ ss ws n).2.2.2 empty ([],0,(MQ ss ws n).2.2.2);have u3:=mH (λk=>(Oz ws ss).getD k empty) (2+(MQ ss ws n).2.1*(q:Int)).toNat (MQ ss ws n).2.2.1 n q 0 0 (MQ ss ws n).2.2.2 empty ([],0,(MQ ss ws n).2.2.2) 6336 (by show 0+64*q<=6336;omega) (by intro e d;cases d);simp only[AT]at u3
 refine⟨ω,?_,ω,u3.1⟩;have:=f.2.2.2;rcases u2 with u2|u2
 ·rw[u2];exact this
 omega
def NM(ss:List yZ)(ws:List (Int×yZ))(n:Int):Dd :=if LO ss ws=true/\1<=n/\n<=8 then
  match NV (OA ss ws n).1 [] with
  | none=>LJ 2
  | some rs =>
   if 60000<(OA ss ws n).2.2+1 then LJ 3
   else if hv ss.length-1<MG (MK rs) n then LJ 4
   else if hv ss.length<=(OA ss ws n).2.1 then OH n ss.length ((OA ss ws n).2.2+1) (MQ ss ws n).1 (MQ ss ws n).2.1 (MQ ss ws n).2.2.1 rs
   else ⟨0,n,ss.length,(OA ss ws n).2.2+1,(MQ ss ws n).1,(MQ ss ws n).2.1,(MQ ss ws n).2.2.1,(MQ ss ws n).2.2.2,(OA ss ws n).2.1+1,0,rs,
    [(false,2+(MQ ss ws n).2.1*hv ss.length+(OA ss ws n).2.1,MJ 3 ((OA ss ws n).2.2+1) ((MQ ss ws n).2.2.1+(OA ss ws n).2.1) empty n),(true,0,empty)]⟩
 else LJ 1
section
variable {ss:List yZ} {ws:List (Int×yZ)} {n T H F R U L:Int} {es:List yZ} {rs:List Pr}
theorem ic(h:¬(LO ss ws=true/\1<=n/\n<=8)):NM ss ws n=LJ 1:=by unfold NM;rw[AF h]
theorem xz(h:LO ss ws=true/\1<=n/\n<=8)(b:OA ss ws n=(es,U,L))(c:NV es []=none):NM ss ws n=LJ 2:=by
 unfold NM;rw[AI h,b];simp only;rw[c]
theorem zg(h:LO ss ws=true/\1<=n/\n<=8)(b:OA ss ws n=(es,U,L))(c:NV es []=some rs)(d:60000<L+1):NM ss ws n=LJ 3:=by
 unfold NM;rw[AI h,b];simp only;rw[c];simp only;rw[AI d]
theorem uq(h:LO ss ws=true/\1<=n/\n<=8)(b:OA ss ws n=(es,U,L))(c:NV es []=some rs)(d:¬60000<L+1)(f:hv ss.length-1<MG (MK rs) n):NM ss ws n=LJ 4:=by
 unfold NM;rw[AI h,b];simp only;rw[c];simp only;rw[AF d,AI f]
theorem se(h:LO ss ws=true/\1<=n/\n<=8)(b:MQ ss ws n=(T,H,F,R))(c:OA ss ws n=(es,U,L))(d:NV es []=some rs)(f:¬60000<L+1)(i:¬hv ss.length-1<MG (MK rs) n)(j:hv ss.length<=U):NM ss ws n=OH n ss.length (L+1) T H F rs:=by
 unfold NM;rw[AI h,c,b];simp only;rw[d];simp only;rw[AF f,AF i,AI j]
theorem td(h:LO ss ws=true/\1<=n/\n<=8)(b:MQ ss ws n=(T,H,F,R))(c:OA ss ws n=(es,U,L))(d:NV es []=some rs)(f:¬60000<L+1)(i:¬hv ss.length-1<MG (MK rs) n)(j:¬hv ss.length<=U):NM ss ws n=⟨0,n,ss.length,L+1,T,H,F,R,U+1,0,rs,[(false,2+H*hv ss.length+U,MJ 3 (L+1) (F+U) empty n),(true,0,empty)]⟩:=by
 unfold NM;rw[AI h,c,b];simp only;rw[d];simp only;rw[AF f,AF i,AF j]
end
theorem Li{W L T F:Int}{b:List Pr}(f:b.length<=1048576)(c:XD W S L T H F b):(OH W S L T H F b).rs.length<=1048576/\(OH W S L T H F b).ops.length<=1000:=by
 unfold OH
 cases h2:XO S T F with
 | false=>simp[LJ]
 | true =>
  obtain⟨⟨j,i⟩,d,k,l,m,o,p⟩:=c;have q:=PG d;have h:=gq L (F+hv S) W.toNat (56-W.toNat) ω ω ω (MK b);rw[show((W.toNat:Nat):Int)=W by omega]at h;simp only[IU,WU,AK,QZ];refine⟨f,?_⟩;simp;omega
theorem qn(ss:List yZ)(ws:List (Int×yZ))(n:Int):(NM ss ws n).rs.length<=1048576/\(NM ss ws n).ops.length<=1000:=by
 by_cases h:LO ss ws=true/\1<=n/\n<=8
 ·obtain⟨T,H,F,R,f⟩:∃T H F R,MQ ss ws n=(T,H,F,R):=⟨_,_,_,_,rfl⟩
  obtain⟨es,U,L,b⟩:∃es U L,OA ss ws n=(es,U,L):=⟨_,_,_,rfl⟩;have c:=fg h;have k:=mz h;rw[f]at c;rw[b]at k;unfold WC at c;simp only at c k;obtain⟨⟨m,o,p⟩,_,_⟩:=OV h.1
  cases hf:NV es [] with
  | none=>rw[xz h b hf];simp[LJ]
  | some l =>
   have q:=(UN (dx es [] VB l hf)).1
   by_cases d:60000<L+1
   ·rw[zg h b hf d];simp[LJ]
   by_cases i:hv ss.length-1<MG (MK l) n
   ·rw[uq h b hf d i];simp[LJ]
   by_cases j:hv ss.length<=U
   ·rw[se h f b hf d i j]
    exact Li ω ⟨h.2,ω,ω,c.1,c.2.1,c.2.2.1,ω⟩
   rw[td h f b hf d i j]
   simp;omega
 rw[ic h];simp[LJ]
end
def YK(w w':xV)(e:Ending)(b:List Pr)(d:Int):Prop:=∃a c,e=yT (.tuple #[LR a b.length c,Z d])/\b.length<=c/\OwnS w' a (LN b)/\(∀g,blk a b.length=some g->w.heap.size<=g)/\yX w w'
theorem az{e:Ending}{c:Nat}{b:Int}(f:e=yT (.tuple #[LR a 0 c,Z b]))(d:yX w w'):YK w w' e [] b:=⟨a,c,f,AL _,.inl rfl,λg h=>(by cases h),d⟩
theorem OwnS.setA(h:OwnS w a cs)(p:Addr)(c:∀g,a=zY g 0->cs≠[]->p.block≠g)(v:qD):OwnS (w.setCell p v) a cs:=by
 by_cases b:cs=[]
 ·exact .inl b
 obtain⟨g,rfl,d⟩:=h.resolve_left b
 exact .inr ⟨g,rfl,d.other p (c g rfl b) v⟩
theorem OwnS.prsA{b:List Pr}(h:OwnS w a (LN b)):Prs w a b:=by
 rcases h with h|⟨g,rfl,h⟩
 ·exact .inl (by have:=BC List.length h;rw[WY,AT]at this;exact AD ω)
 exact h.prs
theorem tj{b:List Pr}(h:LN b≠[]):b.length≠0:=λe=>h (by rw[AD e];rfl)
theorem zF(a:xA)(d:List Pr)(c:Nat)(O:xA)(b:List Ch)(V:Nat)(w:xV)(h:Prs w a d)(hl:d.length<=1048576)(hs:∀x∈d,x.1.size<=1048576/\x.2.size<=1048576)(r:Chs w O b)(cS:b.length<=1048576)(cX:∀x∈b,x.1.size<=1048576/\x.2.1.size<=1048576):Calls prog 137 #[LR a d.length c,yI O b.length V] w λe w'=>YK w w' e (PH d b) (PK d b):=by
 have m:∀f i,yX w ((w.alloc f).alloc i):=λf i=>(LG _ _).alloc σ _
 have E:=Y (λw' j=>ew a d c w' j hl hs);have L:=Y (λw' j=>pi O b V w' j cS cX);unfold LR;unfold PH PK
 cases hok:LX d with
 | false =>
  rw[hok]at E;simp only[Bool.false_and,FA,JA];rw[AF ω];go_enter func137,ntmps137;go_wp2_with (go_at_call 82;refine(E.j _ (h.I (m _ _))).J ?_;rintro e G ⟨rfl,f⟩;have i:G.cell? (yA (w.heap.size+1) 0)=some (yI none 0 0):=NF f γ σ;have q:G.frozen? (yA (w.heap.size+1) 0)=false:=RW f γ σ;have y:w.heap.size+1<G.heap.size:=AC σ f.size);refine AE (v:=.tuple #[LR none 0 0,Z 1]) (by simp[results,results137,go_sem,LR,i]) rfl (az rfl ?_);exact((m _ _).E (f.J τ)).setCell (p:=(yA (w.heap.size+1) 0)) (by show w.heap.size<=w.heap.size+1;omega) _
 | true =>
  rw[hok]at E;simp only[GK]
  cases hokb:OM b with
  | false =>
   rw[hokb]at L;simp only[FA,JA];rw[AF ω];go_enter func137,ntmps137
   go_wp2_with (first|(go_at_call 82;refine(E.j _ (h.I (m _ _))).J ?_;rintro e G ⟨rfl,f⟩;have u:=Y f;clear f)|(go_at_call 136;refine(L.j _ (r.I ((m _ _).E (u.j.J τ)))).J ?_;rintro e t ⟨rfl,l⟩;have f:=u.j;have k:=f.E (l.J f.size);have i:t.cell? (yA (w.heap.size+1) 0)=some (yI none 0 0):=NF k γ σ;have q:t.frozen? (yA (w.heap.size+1) 0)=false:=RW k γ σ;have y:w.heap.size+1<t.heap.size:=AC σ k.size))
   refine AE (v:=.tuple #[LR none 0 0,Z 1]) (by simp[results,results137,go_sem,LR,i]) rfl (az rfl ?_);exact((m _ _).E (k.J τ)).setCell (p:=(yA (w.heap.size+1) 0)) (by show w.heap.size<=w.heap.size+1;omega) _
  | true =>
   rw[hokb]at L;simp only[IU];have dL:d.length<=100:=(ZM hok).1;have cT:b.length<=20:=(XW hokb).1.2;have bI:=Y (λw' j=>dp a d c w' j hl);unfold gp LR at bI;have cC:=Y (Sk d b);go_enter func137,ntmps137
   go_wp2_with (first|(go_at_call 82;refine(E.j _ (h.I (m _ _))).J ?_;rintro e G ⟨rfl,f⟩;have u:=Y f;clear f)|(go_at_call 136;refine(L.j _ (r.I ((m _ _).E (u.j.J τ)))).J ?_;rintro e t ⟨rfl,l⟩;have B:=Y (u.j.E (l.J u.j.size));clear l;have q0:t.cell? (yA w.heap.size 0)=some (yI a d.length c):=NF B.j γ τ)|(go_at_call 84;refine(bI.j _ (h.I ((m _ _).E (B.j.J τ)))).J ?_;rintro e j ⟨a5,c5,rfl,cO,o,k,i⟩;have bH:=Y (B.j.E (i.J B.j.size));have bJ:=Y o;have bC:=cO;have bZ:=Y k;have aY:=Y i.size;clear o k i))
   have dM:w.heap.size+1<t.heap.size:=by have:=B.j.size;simp at this;omega
   have dN:t.heap.size<=j.heap.size:=aY.j;have x:Hid (yX w j):=(m _ _).E (bH.j.J τ)
   have cE:Hid (∀w',yX j w'->Row w' (w.heap.size+1) [yI none 0 0]):=λw' p=>((ey (w:=w.alloc (.cells #[yI a d.length c] 37)) (A:=#[yI none 0 0]) (t:=37) (g:=w.heap.size+1) σ).I bH.j).I p
   go_loopw [7] (λi wr=>∃k:Nat,k<=b.length/\i=Z (k:Int)/\∃o s,Row wr j.heap.size [yI o (MV d (b.take k)).length s]/\(MV d (b.take k)).length<=s/\OwnS wr o (LN (MV d (b.take k)))/\(∀g,blk o (MV d (b.take k)).length=some g->w.heap.size+1<g/\g≠j.heap.size)/\yX j wr) (λi _=>b.length-(intOf i).toNat)
   case atStart=>exact⟨0,AL _,rfl,a5,c5,LS j _ _,bC,bJ.j.I (LG _ _),λg l=>by have h1:=bZ.j g l;have r:=bJ.j.lt d.length (λh e=>h (by have:=BC List.length e;rw[WY,AT]at this;omega)) g l;omega,LG _ _⟩
   case round =>
    obtain⟨k,hk,rfl,o,s,f,T,y,q,i⟩:=hrel;have hN:=cC.j k;have bV:=f.y 0;have dB:=f.A 0;have dH:=f.lt;have cY:=i.size;have R:=Y f;have J:=Y y;have I:=Y q;have C:=Y i;clear f y q i
    by_cases U:k<b.length
    ·obtain⟨f,i,z,A,y,rfl,cL,cM,cN,F⟩:=(r.I (x.j.E (C.j.J x.j.size))).at U
     have P:f<w.heap.size:=by
      rcases r with h|⟨q,D,h1,r,_⟩
      ·subst h;simp at U
      cases h1;exact r
     have cV:(k:Int)<(b.length:Int):=ω
     have dF:(0:Int)<=(k:Int):=ω
     have M:MV d (b.take (k+1))=OJ (z,A,y) (MV d (b.take k)):=by rw[mo b k (empty,empty,false) U,Qe,<-F.j]
     have D:=Y M;have Q:=Y (λW (hW:Prs W o (MV d (b.take k)))=>Jg o (MV d (b.take k)) s z A y W hW ω);obtain⟨q,K⟩:∃q,q=MV d (b.take k):=⟨_,rfl⟩;rw[<-K]at D Q R J I bV hN T;clear M K F;unfold LR gp at Q
     have N:Hid (∀w',Below w.heap.size wr w'->w'.cell? (yA f (i+k*3))=some (yQ z)/\w'.cell? (yA f (i+k*3+1))=some (yQ A)/\w'.cell? (yA f (i+k*3+2))=some (yR y)):=λw' p=>⟨(p.cell (p:=(yA f (i+k*3))) P).E cL,(p.cell (p:=(yA f (i+k*3+1))) P).E cM,(p.cell (p:=(yA f (i+k*3+2))) P).E cN⟩
     have bY:w.heap.size<=wr.heap.size:=ω
     go_wp2_with fail;refine AN (S:=λw'=>w'.cell? (yA f (i+k*3))=some (yQ z)/\w'.cell? (yA f (i+k*3+1))=some (yQ A)/\w'.cell? (yA f (i+k*3+2))=some (yR y)) κ (N.j _ (AB _ _).drew) (λF=>?_);refine TY 1 (yI (zY f i) b.length V) rfl F (TY 2 (Z (k:Int)) rfl F (TY 3 (zW f (i+k*3)) rfl F (TY 4 (.agg #[yQ z,yQ A,yR y]) rfl F ?_)));simp only[PS];refine RD 0 rfl (λK p=>?_);go_simp;refine p.j _ _ F (λ_=>?_);clear p K
     try simp only[PS]
     refine RD 5 rfl (λK p=>?_);refine LI ρ 187 #[.agg #[yI o q.length s],.agg #[yQ z,yQ A,yR y]] γ (Q.j _ ((J.j.I (AB _ _).drew).prsA)) ?_;rintro e w7 ⟨a7,c7,rfl,cP,cW,bR,cJ⟩;refine⟨_,rfl,?_⟩;have F:yX wr w7:=(AB _ _).drew.E cJ;have M:=R.j.I F;have q7:=M.y 0;have f7:=M.A 0;have l7:=M.lt;refine p.j _ _ (N.j _ (F.J bY)) (λcH=>?_);clear p K
     try simp only[PS]
     refine RD 6 rfl (λK p=>?_);go_simp;refine p.j _ _ (N.j _ ((F.J bY).setCell (p:=(yA j.heap.size 0)) (by show w.heap.size<=j.heap.size;omega) _)) (λcI=>?_);clear p K
     try simp only[PS]
     refine DN ?_;go_wp2;refine⟨⟨k+1,ω,ν,a7,c7,?_,?_,?_,?_,?_⟩,by simp[intOf];omega⟩
     ·rw[D.j];exact M.set 0 σ _
     ·rw[D.j];exact cP
     ·rw[D.j];exact cW.setA _ (λg l p=>by have:wr.heap.size<=g:=bR g (by subst l;exact ML _ _ _ (tj p));show j.heap.size≠g;omega) _
     ·rw[D.j];exactλg l=>by have:wr.heap.size<=g:=bR g l;omega
     exact(C.j.E (F.J cY)).setCell (p:=(yA j.heap.size 0)) (AA _) _
    have D:k=b.length:=ω
    subst D;have f:=cE.j _ C.j;have i:=f.y 0;have q:=f.A 0;have y:=f.lt;have K:w.heap.size+1≠j.heap.size:=ω
    have F:¬j.heap.size=w.heap.size+1:=ω
    rw[DF]at bV T R J I;clear f hN
    by_cases f:(MV d b).length<=100
    ·have A:=Y f
     have z:((MV d b).length:Int)<=100:=ω
     clear f;go_wp2_with fail;refine AE (v:=.tuple #[LR o (MV d b).length s,Z 0]) (by simp[results,results137,go_sem,LR,i]) rfl ⟨o,s,rfl,T,?_,λg l=>by have:=(I.j g l).1;omega,?_⟩
     ·exact J.j.setA _ (λg l p=>by have:=(I.j g (by subst l;exact ML _ _ _ (tj p))).1;show w.heap.size+1≠g;omega) _
     exact(x.j.E (C.j.J x.j.size)).setCell (p:=(yA (w.heap.size+1) 0)) (by show w.heap.size<=w.heap.size+1;omega) _
    have A:=Y f
    have z:¬((MV d b).length:Int)<=100:=ω
    clear f;go_wp2_with fail;refine AE (v:=.tuple #[LR none 0 0,Z 2]) (by simp[results,results137,go_sem,LR,i]) rfl (az rfl ?_);exact(x.j.E (C.j.J x.j.size)).setCell (p:=(yA (w.heap.size+1) 0)) (by show w.heap.size<=w.heap.size+1;omega) _
def PJ(W S L T H F R U O:Int)(c:List Pr)(b:List Ch):Dd :=if (NX W S L T H F R U O c && OM b)=true then
  if PK c b=0 then
   if MG (MK (PH c b)) W<=hv S-1 then
    if OO (MA b).size W<=hv S-U then
     ⟨0,W,S,L,T,H,F,R,U+OO (MA b).size W,O+OO (MA b).size W,PH c b,MM (2+H*hv S+U) (OC (MA b) L (F+U) W.toNat (56-W.toNat))⟩
    else LJ 4
   else LJ 3
  else LJ 2
 else LJ 1
theorem xH(s:yZ)(l f:Int)(n m:Nat)(j:n+m=56)(c:1<=n)(d:n<=8)(i:1<=l/\l<=60000)(h:1<=f)(b:f+OO s.size (n:Int)<=1000000001):((OC s l f n m).length:Int)=OO s.size (n:Int):=by
 have e:(56-(n:Int)).toNat=m:=ω
 unfold OO at b⊢;rw[AI ω,e]at b⊢;rw[pw rfl ω,pn]
theorem mM(l:Nat)(n:Int)(b:1<=n)(c:n<=8):0<=OO l n/\OO l n<=(l:Int) / 48+1:=by
 unfold OO;rw[AI ⟨b,c⟩];unfold PX
 split
 ·rename_i h;subst h;simp
 have d:48<=(56-n).toNat:=ω
 have:(l-1) / (56-n).toNat<=l / 48:=AJ (Nat.div_le_div_right ω) (Nat.div_le_div_left d ω);obtain⟨z,f⟩:∃z,z=(l-1) / (56-n).toNat:=⟨_,rfl⟩;rw[<-f]at this⊢;omega
theorem WV{W L T F R U O:Int}{b:List Pr}(h:NX W S L T H F R U O b=true):(1<=W/\W<=8)/\(8<=S/\S<=200)/\(1<=L/\L<=60000)/\(0<=T/\T<=1000000000)/\(0<=H/\H<=1)/\(1<=F/\F<=999999000)/\(0<=U/\U<=hv S)/\(0<=O/\O<=U)/\LX b=true:=by
 unfold NX SY at h;simp only[BD,BG]at h;obtain⟨⟨⟨⟨⟨⟨⟨c,d⟩,f⟩,⟨⟨i,_⟩,j⟩,k⟩,l⟩,m⟩,o⟩,_⟩:=h;exact⟨c,d,f,i,j,k,l,m,o⟩
theorem ro(d:List Pr)(b:List Ch):(PH d b).length<=100:=by
 unfold PH
 by_cases c:PK d b=0
 ·rw[AI c]
  unfold PK at c
  by_cases f:(LX d && OM b)=true
  ·rw[AI f]at c
   by_cases h:(MV d b).length<=100
   ·exact h
   rw[AF h]at c;omega
  rw[AF f]at c;omega
 rw[AF c];simp
theorem mG(c:Ch):∀(d:List Pr) (k:Nat),k=d.length->∀x∈(chW c d).2,x∈d\/x=(c.1,c.2.1)
 | d,0,hk=>by rw[AD hk.symm];simp[chW]
 | d,k+1,hk=>by
  obtain⟨p,bs,rfl⟩:∃b bs,d=bs++[b]:=by
   rcases GJ d with h|⟨l,a,h⟩
   ·subst h;simp at hk
   exact⟨a,l,by simpa using h⟩
  have f:=mG c bs k (by simp at hk;omega);rw[Rr];generalize chW c bs=j at f⊢;intro x b;unfold P1 at b
  have i:x∈j.2\/x=(c.1,c.2.1)\/x=p:=by
   split at b
   ·split at b
    ·rcases BZ.1 b with h|h
     ·exact .inl h
     exact .inr (.inl (DK.1 h))
    exact .inl b
   split at b
   ·rcases BZ.1 b with h|h
    ·rcases BZ.1 h with h|h
     ·exact .inl h
     exact .inr (.inl (DK.1 h))
    exact .inr (.inr (DK.1 h))
   rcases BZ.1 b with h|h
   ·exact .inl h
   exact .inr (.inr (DK.1 h))
  rcases i with h|h|h
  ·rcases f x h with h|h
   ·exact .inl (by simp[h])
   exact .inr h
  ·exact .inr h
  exact .inl (by simp[h])
theorem Gv(o:List Pr)(P:Pr->Prop)(h:∀x∈o,P x):∀(b:List Ch),(∀c∈b,P (c.1,c.2.1))->∀x∈MV o b,P x:=by
 intro b;obtain⟨k,m⟩:∃k,k=b.length:=⟨_,rfl⟩
 induction k generalizing b with
 | zero=>intro _;rw[AD m.symm];exact h
 | succ k p =>
  intro j
  obtain⟨c,bs,rfl⟩:∃c bs,b=bs++[c]:=by
   rcases GJ b with h|⟨l,a,h⟩
   ·subst h;simp at m
   exact⟨a,l,by simpa using h⟩
  have i:=p bs (by simp at m;omega) (λc d=>j c (by simp[d]));rw[Qe];intro x d;unfold OJ at d
  split at d
  ·rcases mG c _ _ rfl x d with f|f
   ·exact i x f
   rw[f];exact j c σ
  rw[BZ]at d
  rcases d with d|d
  ·rcases mG c _ _ rfl x d with f|f
   ·exact i x f
   rw[f];exact j c σ
  simp at d;rw[d];exact j c σ
theorem pC(d:List Pr)(b:List Ch)(P:Pr->Prop)(h:∀x∈d,P x)(f:∀c∈b,P (c.1,c.2.1)):∀x∈PH d b,P x:=by
 unfold PH
 split
 ·exact Gv d P h b f
 simp
theorem E9(W S L T H F R U O:Int)(c:List Pr)(b:List Ch):(PJ W S L T H F R U O c b).rs.length<=1048576/\(PJ W S L T H F R U O c b).ops.length<=1000:=by
 unfold PJ
 split
 ·rename_i d
  rw[BD]at d;obtain⟨h,f,i,j,k,l,m,o,p⟩:=WV d.1;have r:=PG f
  split
  ·split
   ·split
    ·rename_i q
     refine⟨by have:=ro c b;simp;omega,?_⟩;simp only[QZ];have:=yO (MA b) L (F+U) W.toNat (56-W.toNat) ω ω ω;rw[show((W.toNat:Nat):Int)=W by omega]at this;omega
    simp[LJ]
   simp[LJ]
  simp[LJ]
 simp[LJ]
def RK(d:List yZ×List (Int×yZ))(o:Bool×Int×yZ):List yZ×List (Int×yZ) :=if o.1=true then (Oz d.2 d.1,[]) else if PE d.1.length o.2=true/\d.2.length<300 then (d.1,d.2++[o.2]) else d
def OD:List (Bool×Int×yZ)->List yZ×List (Int×yZ)->List yZ×List (Int×yZ)
 | [],d=>d
 | o::r,d=>OD r (RK d o)
theorem yY(d:List yZ×List (Int×yZ))(x:Int×yZ):RK d (true,x)=(Oz d.2 d.1,[]):=by simp[RK]
theorem zG(d:List yZ×List (Int×yZ))(x:Int×yZ)(h:PE d.1.length x=true)(b:d.2.length<300):RK d (false,x)=(d.1,d.2++[x]):=by simp[RK,h,b]
theorem qz(d:List yZ×List (Int×yZ))(x:Int×yZ)(h:PE d.1.length x=false\/¬d.2.length<300):RK d (false,x)=d:=by
 unfold RK;rw[AF σ,AF];rintro⟨b,c⟩;rcases h with h|h
 ·rw[h]at b;cases b
 exact h c
theorem lQ(d:List yZ×List (Int×yZ))(o:Bool×Int×yZ):(RK d o).1.length=d.1.length:=by
 unfold RK
 split
 ·exact Pa _ _
 split<;>rfl
theorem rV:∀(ws:List (Int×yZ)) (ss:List yZ),(∀s∈ss,(s.size:Int)=64)->(∀x∈ws,(x.2.size:Int)=64)->∀s∈Oz ws ss,(s.size:Int)=64
 | [],ss,h,_=>h
 | x::r,ss,h,hw=>rV r _ (λs hs=>by
   rcases EZ hs with h3|h3
   ·exact h s h3
   ·rw[h3];exact hw x (EM ..)) (λy hy=>hw y (DJ _ hy))
theorem dm{x:Int×yZ}(h:PE n x=true):(0<=x.1/\x.1<(n:Int))/\(x.2.size:Int)=64:=by
 have:=AW h;omega
theorem sP(b:8<=ss.length/\ss.length<=200/\ws.length<=300)(c:∀s∈ss,(s.size:Int)=64)(d:∀x∈ws,PE ss.length x=true):LO ss ws=true:=by
 unfold LO;rw[BD,BD];exact⟨⟨AM b,DH.2 λs f=>AM (c s f)⟩,DH.2 d⟩
theorem tk(d:List yZ×List (Int×yZ))(o:Bool×Int×yZ)(h:LO d.1 d.2=true):LO (RK d o).1 (RK d o).2=true:=by
 obtain⟨j,c,f⟩:=OV h;unfold RK
 split
 ·refine sP ?_ (rV _ _ c λx b=>(dm (f x b)).2) (λx b=>by simp at b)
  show 8<=(Oz d.2 d.1).length/\(Oz d.2 d.1).length<=200/\0<=300;rw[Pa];omega
 split
 ·rename_i i
  refine sP ?_ c (λx b=>?_)
  ·show 8<=d.1.length/\d.1.length<=200/\(d.2++[o.2]).length<=300
   rw[AK];have:=i.2;simp;omega
  rcases BZ.1 b with b|b
  ·exact f x b
  rw[DK.1 b];exact i.1
 exact h
theorem Gr(x y:List Int)(b:x.length=64)(c:y.length=64):Qk 64 x y=x:=by
 unfold Qk;rw[AR ω,DY ω,FQ]
structure DV(w:xV)(base X g n:Nat)(v:qD)(ps:List (List Int))(hs:List (Int×List Int)):Prop where
 rx:Row w X [yI (zY g 0) n n,v]
 pr:PR w g ps
 own:w.ownsRow base 145 65 v hs.length (Ot hs)
 nx:v.ownBlock≠some X
 ng:v.ownBlock≠some g
 xg:X≠g
 bx:base<=X
 bg:base<=g
theorem DV.I{d:List (List Int)}{c:List (Int×List Int)}(h:DV w base X g n v d c)(b:yX w w'):DV w' base X g n v d c :=⟨h.rx.I b,h.pr.I b,LZ h.own b,h.nx,h.ng,h.xg,h.bx,h.bg⟩
theorem OwnS.hld{b:List (Int×List Int)}(h:OwnS w a (Ot b))(c:∀p∈b,p.2.length=64):Hld w a b:=by
 rcases h with h|⟨g,rfl,d⟩
 ·refine .inl (AD ?_)
  have:=BC List.length h;rw[P5 b c,AT]at this;omega
 exact d.hld c
theorem jy(h:∀x∈ws,x.2.size=64):∀p∈LP ws,p.2.length=64:=λp b=>by
 obtain⟨x,c,rfl⟩:=DT.1 b;show(LF x.2).length=64;rw[MR,h x c]
def ZW:List (Int×List Int)->List (List Int)->List (List Int)
 | [],ps=>ps
 | x::r,ps=>ZW r (ps.set x.1.toNat x.2)
theorem Cq(ws:List (Int×yZ)):∀(ss:List yZ),ZW (LP ws) (ss.map LF)=(Oz ws ss).map LF:=by
 induction ws with
 | nil=>intro ss;rfl
 | cons x r b =>
  intro ss;have:=b (ss.set x.1.toNat x.2);rw[KE]at this;exact this
theorem DV.lay{i b:List (List Int)}{d:List (Int×List Int)}(h:DV w base X g n v i d)(c:w.grownBy w' (some g))(f:PR w' g b):DV w' base X g n v b d :=⟨h.rx.V c (λe=>h.xg (by injection e)),f,h.own.kept c (.inr h.ng),h.nx,h.ng,h.xg,h.bx,h.bg⟩
set_option maxRecDepth 100000 in
theorem Bz(base X g n:Nat)(v:qD)(r:List (List Int))(c:List (Int×List Int))(w:xV)(h:DV w base X g n v r c)(hn:r.length=n)(bE:n<=200)(hl:c.length<=300)(K:∀p∈c,p.2.length=64)(L:∀p∈c,0<=p.1/\p.1<(n:Int))(M:base<=w.heap.size):Calls prog 291 #[zW X 0] w λe w'=>(∃x,e=yT x)/\DV w' base X g n (yI none 0 0) (ZW c r) []/\Below base w w':=by
 obtain⟨p,F⟩:∃p,Hid (p=ZW c r):=⟨_,Y rfl⟩;rw[<-F.j]
 obtain⟨s,O,hv,bH⟩:∃s O,v=yI s c.length O/\(c=[]\/∃l,s=zY l 0/\v.ownBlock=some l):=by
  rcases MC h.own with ⟨e,i⟩|⟨l,d,e,u,y,o⟩
  ·exact⟨none,0,by rw[e,i],.inl (AD i)⟩
  exact⟨_,d,e,.inr ⟨l,rfl,by rw[e];rfl⟩⟩
 have b:=h.rx.y 1;rw[hv]at b;go_enter func291,ntmps291;go_wp2;have d:=Y h;have E:=Y K;have T:=Y L;clear h K L b;go_loopw [3,9] (λ_ i wr=>∃(k:Nat) (j:List (List Int)),k<=c.length/\i=Z k/\j.length=n/\Hid (ZW (c.drop k) j=p)/\DV wr base X g n v j c/\Below base w wr) (λ_ i _=>c.length-(intOf i).toNat)
 case atStart=>exact⟨0,r,AL _,rfl,hn,by show _=_;rw[FH,F.j],d.j,AB _ _⟩
 case round =>
  clear d;obtain⟨k,j,P,rfl,N,C,f,t⟩:=hrel
  by_cases z:k<c.length
  ·obtain⟨b,bC,m⟩:∃b,s=zY b 0/\Row wr b (Ot c):=by
    rcases MC f.own with ⟨e,i⟩|⟨l,d,e,u,y,o⟩
    ·omega
    rw[hv]at e
    injection e with q A B;exact⟨l,q,o⟩
   subst bC;obtain⟨V,o,q,x,d,bG,A,D⟩:=(m.hld E.j).at (k:=k) z
   obtain⟨rfl,rfl⟩:b=V/\o=0:=by cases d;exact⟨rfl,rfl⟩
   clear d m;rw[BK]at A;have G:Hid ((q,x)∈c):=by show _∈_;rw[D.j];simp[List.getD,z]
   have B:x.length=64:=E.j (q,x) G.j
   obtain⟨m,rfl,hm⟩:∃m:Nat,q=(m:Int)/\m<n:=by
    have:=T.j (q,x) G.j;exact⟨q.toNat,by simp at this;omega,by simp at this;omega⟩
   have i:(Z (m:Int)::x.map (Value.int .u8)).length=65:=by simp[B]
   have u:Hid ((prog.info? 145).map (·.size)=some (Z (m:Int)::x.map (Value.int .u8)).length):=by rw[i];show _=_;kernel_rfl
   have W:=Y i.symm;have bI:=Qo;have d:=Y f;clear i f
   go_wp2_with (first|(with_reducible refine YO 145 _ rfl ?_;refine AZ rfl 145 _ rfl b (k*65) rfl (Z (m:Int)::x.map (Value.int .u8)) _ A underlying145 rfl u.j ?_)|(with_reducible refine YO 145 _ rfl ?_;refine AZ rfl 145 _ rfl wr.heap.size 0 rfl (Z (m:Int)::x.map (Value.int .u8)) _ J.range underlying145 rfl u.j ?_)|(with_reducible refine WJ 145 _ _ rfl ?_;refine Ox rfl 145 _ _ rfl (Z (m:Int)::x.map (Value.int .u8)) (Qg (m:Int) x) rfl rfl _ _ (by rw[<-W.j];kernel_rfl) u.j ?_;intro wx J i bF)|(go_at_call 257;refine(Wu X g n n (yI none 0 0) j m x 64 _ ((d.j.I i).rx.y 0) d.j.xg (d.j.I i).pr N hm bE (AA _) B (AA _)).J ?_;rintro e w4 ⟨rfl,I,y⟩))
   have R:=Y ((d.j.I i).lay y I);have Q:=Y ((t.E (i.J (AJ M t.size))).E (MF y (AJ M (AJ t.size i.size)) (λk P=>by cases P;exact d.j.bg)))
   have U:Hid (ZW (c.drop (k+1)) (j.set m (Qk 64 x (j.getD m [])))=p):=by
    show _=_;rw[Gr x _ B (Pw d.j.pr.len ω),<-C.j,YG c k (0,[]) z,<-D.j,ZW,DS]
   clear y I i J A bF;go_wp2;go_roundw
   case rel=>exact⟨k+1,_,ω,ν,by simp[N],U,R.j,Q.j⟩
   case measure=>simp[intOf];omega
  have i:Hid (j=p):=by
   have:=C.j;rw[DY ω]at this;exact this
  rw[i.j]at f;have d:=Y f;have b:=f.rx.y 1;have m:=f.rx.A 1;clear f;go_wp2;go_end0;refine⟨⟨_,rfl⟩,⟨d.j.rx.set 1 σ _,d.j.pr.other _ d.j.xg _,BT _ _ _ _,by simp[Value.ownBlock],by simp[Value.ownBlock],d.j.xg,d.j.bx,d.j.bg⟩,t.setCell d.j.bx _⟩
set_option maxRecDepth 100000 in
theorem L9(base X g n:Nat)(v:qD)(ss:List yZ)(ws:List (Int×yZ))(m:Int)(d:yZ)(w:xV)(h:DV w base X g n v (ss.map LF) (LP ws))(j:ss.length=n)(q:LO ss ws=true)(f:base<=w.heap.size):Calls prog 256 #[zW X 0,.agg #[yR true,Z m,yQ d]] w λe w'=>(∃x,e=yT x)/\DV w' base X g n (yI none 0 0) ((Oz ws ss).map LF) []/\Below base w w':=by
 obtain⟨⟨s,t,u⟩,r,k⟩:=OV q
 have b:∀o,yX w (w.alloc o):=λo=>LG _ _
 have l:=Y (λ(o:Obj)=>Bz base X g n v (ss.map LF) (LP ws) (w.alloc o) (h.I (b o)) (by simp[j]) ω (by rw[QL];omega) (jy (λx c=>by have:=(dm (k x c)).2;omega)) (λp i=>by
  obtain⟨x,c,rfl⟩:=DT.1 i;have:=(dm (k x c)).1;rw[j]at this
  exact this) (AJ f (b o).size))
 go_enter func256,ntmps256;go_wp2_with (go_at_call 291;refine(l.j _).J ?_;rintro e y ⟨⟨x,rfl⟩,i,p⟩);go_end0;rw[Cq]at i;exact⟨⟨_,rfl⟩,i,((b _).J f).E p⟩
set_option maxRecDepth 100000 in
theorem sB(base X g n:Nat)(v:qD)(ss:List yZ)(ws:List (Int×yZ))(f:Int)(d:yZ)(w:xV)(h:DV w base X g n v (ss.map LF) (LP ws))(s:ss.length=n)(p:LO ss ws=true)(r:d.size<=1048576)(m:PE ss.length (f,d)=false\/¬ws.length<300)(l:base<=w.heap.size):Calls prog 256 #[zW X 0,.agg #[yR false,Z f,yQ d]] w λe w'=>(∃x,e=yT x)/\DV w' base X g n v (ss.map LF) (LP ws)/\Below base w w':=by
 obtain⟨⟨x,y,z⟩,t,C⟩:=OV p
 have i:∀o,yX w (w.alloc o):=λo=>LG _ _
 obtain⟨A,B,rfl⟩:∃a c,v=yI a ws.length c:=by
  rw[<-QL];rcases MC h.own with ⟨e,b⟩|⟨g,c,e,_⟩
  ·exact⟨_,_,by rw[e,b]⟩
  exact⟨_,_,e⟩
 have D:=h.rx.y 0;have E:=h.rx.y 1;have u:=h.rx.lt;have j:=Y h;subst s
 have k:∀b,PE ss.length (f,d)=b->∀w',Calls prog 146 #[Z (ss.length:Int),Z f,yQ d] w' λe o=>e=yT (yR b)/\o=w':=λb q w'=>by
  have:=mm ss.length f d w' r ω;rw[q]at this;exact this
 cases hc:PE ss.length (f,d) with
 | false =>
  go_enter func256,ntmps256;go_wp2_with fail;go_quiet ((go_at_call 146;exact Calls.quiet_of_same (k false hc _)));go_wp2;go_end0;exact⟨⟨_,rfl⟩,j.j.I (below_drewN (i _) _),(below_drewN (i _) _).J l⟩
 | true =>
  have o:(decide ((ws.length:Int)<300))=false:=by
   rcases m with b|b
   ·rw[hc]at b;cases b
   exact AH ω
  go_enter func256,ntmps256;go_wp2_with fail;go_quiet ((go_at_call 146;exact Calls.quiet_of_same (k true hc _)));go_wp2;go_end0;exact⟨⟨_,rfl⟩,j.j.I (below_drewN (i _) _),(below_drewN (i _) _).J l⟩
theorem DV.push{c:xV}{H g9 cap:Nat}{k:List (List Int)}{x:Int×yZ}(h:DV w base X g n v k (LP ws))(d:c.ownsRow base 145 65 (yI (zY g9 0) ((LP ws).length+1) cap) ((LP ws).length+1) (Ot (LP ws)++Z x.1::(LF x.2).map (Value.int .u8)))(i:w.grownBy c v.ownBlock)(f:v.ownBlock=some g9\/g9=H)(r:X<H)(s:g<H):DV (c.setCell (yA X 1) (yI (zY g9 0) (ws.length+1) cap)) base X g n (yI (zY g9 0) (ws.length+1) cap) k (LP (ws++[x])):=by
 have m:LP (ws++[x])=LP ws++[(x.1,LF x.2)]:=by simp[LP]
 have o:(LP (ws++[x])).length=ws.length+1:=by rw[QL];simp
 have p:Ot (LP (ws++[x]))=Ot (LP ws)++Z x.1::(LF x.2).map (Value.int .u8):=by rw[m,Qu];simp[Ot]
 have j:g9≠X:=by rcases f with b|b;exactλe=>h.nx (by rw[b,e]);omega
 have l:g9≠g:=by rcases f with b|b;exactλe=>h.ng (by rw[b,e]);omega
 rw[QL]at d;have q:=d.kept (w':=c.setCell (yA X 1) (yI (zY g9 0) (ws.length+1) cap)) (row:=some X) (NA (AY _ _) _ _) (.inr (λe=>j (by injection e)));refine⟨(h.rx.V i (λe=>h.nx e.symm)).set 1 σ _,(h.pr.V i (λe=>h.ng e.symm)).other _ h.xg _,?_,λe=>j (by injection e),λe=>l (by injection e),h.xg,h.bx,h.bg⟩;rw[o,p];exact q
set_option maxRecDepth 100000 in
theorem Ol(base X g n:Nat)(v:qD)(ss:List yZ)(ws:List (Int×yZ))(b:Int)(d:yZ)(w:xV)(h:DV w base X g n v (ss.map LF) (LP ws))(hn:ss.length=n)(F:LO ss ws=true)(z:PE ss.length (b,d)=true)(bU:ws.length<300)(q:base<=w.heap.size):Calls prog 256 #[zW X 0,.agg #[yR false,Z b,yQ d]] w λe w'=>(∃x,e=yT x)/\(∃c,DV w' base X g n c (ss.map LF) (LP (ws++[(b,d)])))/\Below base w w':=by
 obtain⟨i0,c,f,i,j⟩:=O5 vH;have m:=Y (AG c (AG f (AG i j)));clear c f i j;obtain⟨⟨cH,cI,cJ⟩,l,t⟩:=OV F;have y:d.size=64:=by have h1:(d.size:Int)=64:=(dm z).2;omega
 have s:(LF d).length=64:=by rw[MR,y]
 have V:∀o,yX w (w.alloc o):=λo=>LG _ _
 obtain⟨E,G,hv⟩:∃a c,v=yI a ws.length c:=by
  rw[<-QL];rcases MC h.own with ⟨e,f⟩|⟨g,c,e,_⟩
  ·exact⟨_,_,by rw[e,f]⟩
  exact⟨_,_,e⟩
 have o:=h.rx.y 0;have u:=h.rx.y 1;subst hv;have cE:=h.rx.lt;have i:=Y h;subst hn
 have k:∀w',Calls prog 146 #[Z (ss.length:Int),Z b,yQ d] w' λe f=>e=yT (yR true)/\f=w':=λw'=>by
  have:=mm ss.length b d w' ω ω;rw[z]at this;exact this
 have cF:(decide ((ws.length:Int)<300))=true:=AM ω;go_enter func256,ntmps256;go_wp2_with fail;go_quiet ((go_at_call 146;exact Calls.quiet_of_same (k _)));go_wp2_with fail;have p:Hid (yX w ((w.alloc (.cells #[yR false,Z b,yQ d] 136)).drewN nq)):=below_drewN (V _) _;obtain⟨j,f⟩:∃j,j=(w.alloc (.cells #[yR false,Z b,yQ d] 136)).drewN nq:=⟨_,rfl⟩;have bY:j.cell? (yA w.heap.size 1)=some (Z b):=by rw[f];simp[go_sem]
 have cL:j.cell? (yA w.heap.size 2)=some (yQ d):=by rw[f];simp[go_sem]
 have W:w.heap.size<j.heap.size:=by rw[f];simp
 rw[<-f]at p⊢;clear f;have r:=Y (i.j.I p.j);clear o u;have q1:=r.j.rx.y 1;have q2:=r.j.rx.A 1;have bZ:=Qo;have N:=Py;have O:=Sz;have K:=Sf (Z b) ((LF d).map (Value.int .u8)) Ra (by rw[Py,BO,s]);have J:=Se (Z b) ((LF d).map (Value.int .u8)) 65 (by rw[BO,s]);have D:(LP ws).length=ws.length:=QL ws;have o:Hid (DV j.drew base X g ss.length (yI E ws.length G) (ss.map LF) (LP ws)):=r.j.I ((AB _ _).drew);have T:=Y bY;have u:=Y W;have M:=Y y;clear i h F k t l
 go_region_law (first|(refine step_append_lies _ ρ _ _ _ ρ base 145 i0 (.agg Ra) 65 72 underlying108 m.j.1 m.j.2.1 m.j.2.2.1 m.j.2.2.2 κ ω (yI E ws.length G) (LP ws).length (Ot (LP ws)) ρ I.j (yA i.heap.size 0) 1 1 (Z b::(LF d).map (Value.int .u8)) ρ (by simp[s]) (World.news_of_block (AU i _)) (Qg b (LF d)) ω (by rw[D];unfold maxLen;omega) (by rw[D];omega) ξ (i.heap.size+1) σ ?_;intro g9 t w3 x k C bV;have q4:=(f.j.rx.V k (λe=>f.j.nx e.symm)).y 1;have q5:=(f.j.rx.V k (λe=>f.j.nx e.symm)).A 1;have q6:=(f.j.rx.V k (λe=>f.j.nx e.symm)).lt;have R:=Y x;have B:=Y k;have P:=Y C;clear x k C)|(refine LI ρ 208 #[yQ d] γ (im d _ M.j) ?_;rintro e i ⟨rfl,l⟩;refine⟨_,rfl,?_⟩;have y0:=(l.cell (p:=(yA w.heap.size 1)) u.j).E T.j;have y1:=(o.j.I l).rx.y 1;have y2:=(o.j.I l).rx.lt;have y3:w.heap.size<i.heap.size:=AC u.j l.size;have A:=Y l;have f:=Y ((o.j.I l).I (Oq i (.cells (Z b::(LF d).map (Value.int .u8)).toArray 145)));have I:=Y f.j.own))
 all_goals
  have cC:g<i.heap.size:=(o.j.I A.j).pr.lt;have L:=Y (f.j.push (x:=(b,d)) R.j B.j P.j ω ω)
  have Q:Hid (Below base w (w3.setCell (yA X 1) (yI (zY g9 0) (ws.length+1) t))):=by
   have x:Below base w i:=(p.j.J q).E (((AB j.heap.size j).drew.E A.j).J (AJ q p.j.size));have C:=x.E ((Oq i (.cells (Z b::(LF d).map (Value.int .u8)).toArray 145)).J (AJ q x.size));have U:=C.E (MF B.j (AJ q C.size) (λk hk=>(f.j.own.lt k hk).1));exact U.setCell f.j.bx _
  clear K J N O bZ;go_wp2;go_end0;exact⟨⟨_,rfl⟩,⟨_,L.j⟩,Q.j⟩
theorem Ops.take{c:List (Bool×Int×yZ)}(h:Ops w a c)(m:Nat):Ops w a (c.take m):=by
 rcases h with h|⟨b,o,f,j,k⟩
 ·exact .inl (by rw[h];simp)
 refine .inr ⟨b,o,f,j,λi l=>?_⟩
 have d:i<c.length/\i<m:=by simp at l;omega
 have e:(c.take m).getD i (false,0,empty)=c.getD i (false,0,empty):=by simp[List.getD,FO,d.2]
 rw[e];exact k i d.1
theorem Row.lowB{R:Nat}(h:Row w R cs)(b:Below base w w')(c:R<base):Row w' R cs :=⟨AC h.lt b.size,λi v hv=>(b.cell (p:=(yA R i)) c).E (h.cell i v hv),λi d=>(b.frozen (p:=(yA R i)) c).E (h.froz i d)⟩
theorem OwnS.setp(h:OwnS w a cs)(p:Addr)(f:∀g,a=zY g 0->cs≠[]->p.block≠g)(v:qD):OwnS (w.setCell p v) a cs:=by
 rcases h with h|⟨g,b,d⟩
 ·exact .inl h
 by_cases c:cs=[]
 ·exact .inl c
 exact .inr ⟨g,b,d.other p (f g b c) v⟩
theorem oK(ss:List yZ):O4 (ss.map LF)=ss:=by
 unfold O4;rw[IM];exact KT (λs=>UA s) ss
theorem qZ(ws:List (Int×yZ)):Qf (LP ws)=ws:=by
 unfold Qf LP;rw[IM];exact KT (λx=>by show(x.1,strOfNums (LF x.2))=x;rw[UA]) ws
theorem DV.form{j:List (List Int)}{b:List (Int×List Int)}(h:DV w base X g n v j b)(f:∀p∈b,p.2.length=64):∃a c,v=yI a b.length c/\Hld w a b:=by
 rcases MC h.own with ⟨e,d⟩|⟨g,c,e,_,_,i⟩
 ·exact⟨_,_,by rw[e,d],.inl (AD d)⟩
 exact⟨_,_,e,i.hld f⟩
theorem s8:∀(l:List (Bool×Int×yZ)) (d:List yZ×List (Int×yZ)),(OD l d).1.length=d.1.length
 | [],_=>rfl
 | o::r,d=>by rw[OD,s8 r,lQ]
theorem pI:∀(l:List (Bool×Int×yZ)) (d:List yZ×List (Int×yZ)),LO d.1 d.2=true->LO (OD l d).1 (OD l d).2=true
 | [],_,h=>h
 | o::r,d,h=>pI r _ (tk d o h)
theorem Fs(base X g n:Nat)(v:qD)(ss:List yZ)(ws:List (Int×yZ))(s:Bool)(b:Int)(d:yZ)(w:xV)(h:DV w base X g n v (ss.map LF) (LP ws))(m:ss.length=n)(k:LO ss ws=true)(o:d.size<=1048576)(j:base<=w.heap.size):Calls prog 256 #[zW X 0,.agg #[yR s,Z b,yQ d]] w λe w'=>(∃x,e=yT x)/\(∃c,DV w' base X g n c ((RK (ss,ws) (s,b,d)).1.map LF) (LP (RK (ss,ws) (s,b,d)).2))/\Below base w w':=by
 cases s with
 | true =>
  rw[yY];refine(L9 base X g n v ss ws b d w h m k j).J ?_;rintro e w' ⟨c,f,i⟩;exact⟨c,⟨_,f⟩,i⟩
 | false =>
  cases hc:PE ss.length (b,d) with
  | false =>
   rw[qz (ss,ws) (b,d) (.inl hc)];refine(sB base X g n v ss ws b d w h m k o (.inl hc) j).J ?_;rintro e w' ⟨c,f,i⟩;exact⟨c,⟨_,f⟩,i⟩
  | true =>
   by_cases l:ws.length<300
   ·rw[zG (ss,ws) (b,d) hc l]
    exact Ol base X g n v ss ws b d w h m k hc l j
   rw[qz (ss,ws) (b,d) (.inr l)]
   refine(sB base X g n v ss ws b d w h m k o (.inr l) j).J ?_;rintro e w' ⟨c,f,i⟩;exact⟨c,⟨_,f⟩,i⟩
def QO(z:Int)(n:Nat):Nat:=min z.toNat n
theorem sZ(z:Int)(n:Nat):QO z n<=n:=Nat.min_le_right _ _
set_option maxRecDepth 100000 in
theorem Gu(a:xA)(ss:List yZ)(c:Nat)(B:xA)(ws:List (Int×yZ))(N:Nat)(f:xA)(j:List (Bool×Int×yZ))(P:Nat)(z:Int)(m:Nat)(w:xV)(h:Strs w a ss)(h':Wrs w B ws)(hz:Ops w f j)(dV:j.length<=P)(eG:j.length<=1048576)(cN:QO z j.length=m)(dH:∀x∈j,x.2.2.size<=1048576)(bI:LO ss ws=true):Calls prog 212 #[LM a ss.length c B ws.length N,yI f j.length P,Z z] w λe w'=>∃p O q L,e=yT (LM p (OD (j.take (m)) (ss,ws)).1.length O q (OD (j.take (m)) (ss,ws)).2.length L)/\OwnD w' p (OD (j.take (m)) (ss,ws)).1 q (OD (j.take (m)) (ss,ws)).2/\(∀g,blk p (OD (j.take (m)) (ss,ws)).1.length=some g->w.heap.size<=g)/\(∀g,blk q (OD (j.take (m)) (ss,ws)).2.length=some g->w.heap.size<=g)/\yX w w':=by
 obtain⟨⟨eK,cH,cZ⟩,bW,hw⟩:=OV bI
 have aW:∀b d,yX w ((w.alloc b).alloc d):=λb d=>(LG _ _).alloc σ _
 have eJ:m<=j.length:=by rw[<-cN];exact sZ _ _
 obtain⟨l,J⟩:∃l,Hid (l=j.take (m)):=⟨_,Y rfl⟩;have E:l.length=m:=by rw[J.j];simp;omega
 have cO:Ops w f l:=by rw[J.j];exact hz.take (m)
 have cX:Hid (∀x∈l,x.2.2.size<=1048576):=λx t=>dH x (by rw[J.j]at t;exact DM t)
 rw[<-J.j];obtain⟨C,U⟩:∃C,Hid (C=OD l (ss,ws)):=⟨_,Y rfl⟩;rw[<-U.j];go_enter func212,ntmps212;go_wp2_with fail;refine(WA a ss c B ws N _ (h.I (aW _ _)) (h'.I (aW _ _)) ω ω (λs k=>by have:=bW s k;omega) (λx t=>by have:=AW (hw x t);omega)).J ?_;rw[bI];rintro e w1 ⟨rfl,i⟩;have r:=(aW _ _).E (i.J τ);obtain⟨o,y⟩:=pq i;have b:=(NZ (w.alloc (.cells #[yI a ss.length c,yI B ws.length N] 32)) #[yI none 0 0,yI none 0 0] 32 (w.heap.size+1) σ).I i;have A:=Y b;have d:=Y r;clear b i r;go_wp2_with fail;refine(gw a ss c B ws N _ (h.I d.j) (h'.I d.j) cH cZ (λs k=>by have:=bW s k;omega) (λx t=>by have:=AW (hw x t);omega)).J ?_;rintro e r ⟨g,v,rfl,u,b,s,i⟩;clear o y;have y:=Y (A.j.I i);have aU:Hid (w.heap.size+1+1<=g):=by have:=A.j.lt;show _<=_;omega
 have D:=Y (Below.then d.j (AA _) i);have eB:g<r.heap.size:=u.lt;have eE:=aU.j;rw[<-QL]at b
 have o:∀k,v.ownBlock=some k->g+1<=k/\k<r.heap.size:=λk hk=>b.lt k hk
 have F:DV (r.alloc (.cells #[yI (zY g 0) ss.length ss.length,v] 110)) (w.heap.size+1+1) r.heap.size g ss.length v (ss.map LF) (LP ws) :=⟨LS _ _ _,u.I (Oq _ _),(LZ b (Oq _ _)).J ω,λe=>by have:=o _ e;omega,λe=>by have:=o _ e;omega,ω,ω,ω⟩
 have V:w.heap.size+1+1<=(r.alloc (.cells #[yI (zY g 0) ss.length ss.length,v] 110)).heap.size:=τ
 have K:=Y F;have I:=Y (y.j.alloc (.cells #[yI (zY g 0) ss.length ss.length,v] 110));have G:=Y (Below.then D.j (AA _) (Oq r (.cells #[yI (zY g 0) ss.length ss.length,v] 110)))
 obtain⟨av,cv,hv⟩:∃a c,v=yI a ws.length c:=by
  rw[<-QL];rcases MC b with ⟨e,M⟩|⟨g,c,e,_⟩
  ·exact⟨_,_,by rw[e,M]⟩
  exact⟨_,_,e⟩
 subst hv;have cW:=Y bI;clear F u b i d A D y o;go_upto_region 4 with fail;obtain⟨wq,b⟩:∃wq,wq=r.alloc (.cells #[yI (zY g 0) ss.length ss.length,yI av ws.length cv] 110):=⟨_,rfl⟩;rw[<-b]at K I G V⊢;go_cut [22,23,24] from 16 to 24 (λo i d u=>o=yI f m P/\i=Z (m:Int)/\d=Z 0/\u=wq)
 case first =>
  clear K I G V cO b;unfold QO at cN;have i:¬((P:Int)<(m:Int)):=ω
  by_cases M:z<0
  focus
   obtain rfl:m=0:=ω
  rotate_left
  focus
   have o:0<=z:=ω
   by_cases T:z<(j.length:Int)
   focus
    obtain⟨d,rfl⟩:∃d:Nat,z=(d:Int):=⟨z.toNat,ω⟩;obtain rfl:m=d:=ω
   rotate_left
   focus
    obtain rfl:m=j.length:=ω
    by_cases d:z=(j.length:Int)
    focus
     subst d
    rotate_left
    focus
     have u:(j.length:Int)<z:=ω
    rotate_left
   rotate_left 2
  rotate_left 3
  all_goals
   go_wp2_with fail;go_meet
   exact⟨by first|rfl|(congr 1;omega),by first|rfl|(congr 1;omega),rfl,rfl⟩
 case rest =>
  obtain⟨rfl,rfl,rfl,dL⟩:=hcut;clear b;subst dL;go_wp2;go_loopw [9,24] (λ_ i wr=>∃(k:Nat) (d:List yZ×List (Int×yZ)) (v:qD),k<=m/\i=Z k/\d.1.length=ss.length/\Hid (LO d.1 d.2=true)/\Hid (OD (l.drop k) d=C)/\Hid (DV wr (w.heap.size+1+1) r.heap.size g ss.length v (d.1.map LF) (LP d.2))/\Hid (Row wr (w.heap.size+1) [yI none 0 0,yI none 0 0])/\Hid (yX w wr)/\w.heap.size+1+1<=wr.heap.size) (λ_ i _=>m-(intOf i).toNat)
  case atStart =>
   exact⟨0,(ss,ws),_,AL _,rfl,rfl,cW,by show _=_;rw[FH,U.j],K,I,G,V⟩
  case round =>
   obtain⟨k,d,v,hk,rfl,M,W,T,y,A,F,cM⟩:=hrel
   by_cases bC:k<m
   ·obtain⟨b,o,R,Q,D,rfl,dQ,dR,dU,HS⟩:=(cO.I F.j).at (k:=k) (by rw[E];exact bC)
    have bF:(R,Q,D)∈l:=by rw[HS.j];simp[List.getD,E,bC]
    have dB:D.size<=1048576:=cX.j _ bF
    have bB:∀u,yX wr (wr.alloc u):=λu=>Oq _ _
    have cQ:=Y (λu=>Fs (w.heap.size+1+1) r.heap.size g ss.length v d.1 d.2 R Q D (wr.alloc u) (y.j.I (bB u)) M W.j dB (AJ cM (bB u).size));go_wp2_with (go_at_call 256;refine(cQ.j _).J ?_;rintro e w4 ⟨⟨x,rfl⟩,⟨v',bZ⟩,u⟩);have aT:=Y bZ;have bT:=Y (((bB (.cells #[yR R,Z Q,yQ D] 136)).J cM).E u)
    have cS:Hid (OD (l.drop (k+1)) (RK d (R,Q,D))=C):=by
     show _=_;rw[<-T.j,YG l k (false,0,empty) (by rw[E];exact bC),<-HS.j,OD]
    have dF:=u.size;clear bZ u;go_wp2;go_roundw
    case rel =>
     exact⟨k+1,_,v',ω,ν,by rw[lQ];exact M,tk d _ W.j,cS,aT,A.j.lowB bT.j ω,F.j.E (bT.j.J ω),by simp at dF;omega⟩
    case measure =>
     simp[intOf];omega
   have bP:Hid (d=C):=by
    have:=T.j;rw[DY (by rw[E];omega)]at this;exact this
   clear T U K I G;obtain rfl:=bP.j;obtain⟨⟨I,eH,eI⟩,D,u⟩:=OV W.j;have G:=Y (jy (ws:=d.2) λx t=>by have:=AW (u x t);omega);obtain⟨U,c2,hv,b⟩:=y.j.form G.j;rw[QL]at hv;have R:=y.j.rx.y 0;have o:=y.j.rx.y 1;rw[hv]at o;have cT:=Y b;clear I D u b;go_wp2_with fail;refine(Rl (zY g 0) (d.1.map LF) ss.length ss.length U (LP d.2) d.2.length c2 (by simp[M]) (QL _) _ y.j.pr.plt cT.j cH ω y.j.pr.len G.j).J ?_;rintro e w5 ⟨p,O,q,L,rfl,u,D,Q,t⟩;rw[oK,qZ]at u;have b:=A.j.I t;have r0:=b.y 0;have r1:=b.y 1;obtain⟨dM,dN⟩:=b.z2;have cP:=Y (Below.then F.j (AA _) t);have cV:=Y u;have dP:=F.j.size
   have I:Hid (∀g,blk p ss.length=some g->w.heap.size+1<g):=λg s=>by have T:=D g s;omega
   have K:Hid (∀g,blk q d.2.length=some g->w.heap.size+1<g):=λg s=>by have T:=Q g s;omega
   clear u D Q t b R o;go_wp2;rw[M];have dZ:d.1.length≠0:=ω
   have R:∀(D:xV) (u:qD) (i:Nat),OwnD D p d.1 q d.2->OwnD (D.setCell (yA (w.heap.size+1) i) u) p d.1 q d.2:=λD u i t=>by
    refine⟨t.s.setp _ (λb o Q e=>?_) _,t.p.setp _ (λb o Q e=>?_) _,t.ne⟩
    ·have:=I.j b (by rw[o];exact ML b 0 _ ω)
     have t:w.heap.size+1=b:=e;omega
    have:=K.j b (by rw[o];exact ML b 0 _ (λt=>Q (by rw[AD t];rfl)))
    have t:w.heap.size+1=b:=e;omega
   refine AE (v:=LM p ss.length O q d.2.length L) (by simp[results,results212,go_sem,r0,r1]) rfl ⟨p,O,q,L,rfl,R _ _ _ (R _ _ _ cV.j),λg s=>by have:=I.j g s;omega,λg s=>by have:=K.j g s;omega,?_⟩;exact(cP.j.setCell (by show w.heap.size<=w.heap.size+1;omega) _).setCell (by show w.heap.size<=w.heap.size+1;omega) _
theorem Hv(a:xA)(ss:List yZ)(c:Nat)(d:xA)(ws:List (Int×yZ))(l:Nat)(f:xA)(b:List (Bool×Int×yZ))(k:Nat)(z:Int)(w:xV)(h:Strs w a ss)(t:Wrs w d ws)(u:Ops w f b)(o:b.length<=k)(p:b.length<=1048576)(r:∀x∈b,x.2.2.size<=1048576)(q:LO ss ws=true):Calls prog 212 #[LM a ss.length c d ws.length l,yI f b.length k,Z z] w λe w'=>∃i s j m,e=yT (LM i (OD (b.take (QO z b.length)) (ss,ws)).1.length s j (OD (b.take (QO z b.length)) (ss,ws)).2.length m)/\OwnD w' i (OD (b.take (QO z b.length)) (ss,ws)).1 j (OD (b.take (QO z b.length)) (ss,ws)).2/\(∀g,blk i (OD (b.take (QO z b.length)) (ss,ws)).1.length=some g->w.heap.size<=g)/\(∀g,blk j (OD (b.take (QO z b.length)) (ss,ws)).2.length=some g->w.heap.size<=g)/\yX w w':=by
 exact Gu a ss c d ws l f b k z _ w h t u o p rfl r q
theorem Ly(a:xA)(ss:List yZ)(c:Nat)(b:xA)(ws:List (Int×yZ))(j:Nat)(v z:qD)(w:xV)(h:Strs w a ss)(p:Wrs w b ws)(q:ss.length<=1048576)(l:ws.length<=1048576)(r:∀s∈ss,s.size<=1048576)(o:∀x∈ws,x.2.size<=1048576)(m:LO ss ws=false):Calls prog 212 #[LM a ss.length c b ws.length j,v,z] w λe w'=>e=yT (LM none 0 0 none 0 0)/\yX w w':=by
 have f:∀d i,yX w ((w.alloc d).alloc i):=λd i=>(LG _ _).alloc σ _
 go_enter func212,ntmps212;go_wp2_with fail;refine(WA a ss c b ws j _ (h.I (f _ _)) (p.I (f _ _)) q l r o).J ?_;rw[m];rintro e y ⟨rfl,i⟩;have k:=Y ((f _ _).E (i.J τ));have d:=(NZ (w.alloc (.cells #[yI a ss.length c,yI b ws.length j] 32)) #[yI none 0 0,yI none 0 0] 32 (w.heap.size+1) σ).I i;have s:=d.y 0;have t:=d.y 1;obtain⟨u,x⟩:=d.z2;clear d i;go_wp2;exact AE (v:=LM none 0 0 none 0 0) (by simp[results,results212,go_sem,s,t]) rfl ⟨rfl,(k.j.setCell (by show w.heap.size<=w.heap.size+1;omega) _).setCell (by show w.heap.size<=w.heap.size+1;omega) _⟩
