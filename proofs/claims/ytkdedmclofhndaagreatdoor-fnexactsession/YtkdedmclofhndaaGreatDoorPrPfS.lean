import Derived.Test.YtkdedmclofhndaaGreatDoorPrG42
set_option maxHeartbeats 16000000
namespace Go.Proofs.YtkdedmclofhndaaGreatDoor
open Tryz
open Go.RowKit
set_option linter.all false
variable {ws:List (Int×yZ)}{ss:List yZ}{X b base c cv g n:Nat}{w:xV}
theorem M5{P:Program}{q:Array Oper}{o:Oper}{a:Act}{K:Act->xV->Prop}{Q:Exit->Act->xV->Prop}{E:Prop}(C:o.guard=none)(s x:Operand)(t:TypeId)
  (G:o.op=.call { callee:=.builtin .append,args:=#[s,x],argTypes:=#[t,t] })
  (base:Nat)(e:TypeId)(i:TypeInfo)(z:qD)(f p:Nat)(r:P.underlying t=some (.slice e))(M:P.info? e=some i)(S:i.zero=some z)
  (y:i.size=f)(B:i.bytes=p)(I:z.cells.size=f)
  (b:Nat)(N:a.eval s=yI (zY b 0) 0 0)
  (k:Addr)(n c:Nat)(d:List qD)(R:a.eval x=yI (some k) n c)(l:d.length=n*f)(v:∀j u,d[j]?=some u->w.cell? (k.add j)=some u)(J:∀u∈d,u.oneCell'=true)
  (V:0<n)(U:n<=1048576)(T:n*p<=140737488355328)(u:base<=w.heap.size)(H:Nat)(L:w.heap.size=H)
  (h:∀j m,m.ownsRow base e f (yI (zY H 0) n j) n d->w.grownBy m none->K (a.put o.dst (yI (zY H 0) n j)) m):if Region.wanted o (yielded q a.tmps)=true then Oper.wp P o a w K Q else E:=by
 have O:Region.wanted o (yielded q a.tmps)=true:=by simp[Region.wanted,C]
 rw[AI O];subst y B L;have A:Src P i.size t (yI (some k) n c) n d w:=Src.ofSlice w r k n c d l v J;have j:(Builtin.firstCells i.size 0 (yI (zY b 0) 0 0)).run P w.drew=.ok ([]:List qD).toArray w.drew:=GI w.drew i.size 0 _ 0 0 [] σ σ;have m:=run_append_grow_src (P:=P) w t t o.type e i z r M S (zY b 0) 0 0 [] j (yI (some k) n c) n d A ω ω (by rw[BK,vh n ω];omega);unfold Oper.wp;simp[execOp,G,resolve,invoke,builtin,N,R,m,Result.andThen];have D:=JL w n 0 e;have F:=IQ w n 0 e (by unfold maxLen;omega);refine h _ _ ⟨l,.inr ⟨w.heap.size,_,_,rfl,u,AU w.drew _,D,F,?_,?_⟩⟩ (ki none ((AB _ _).drew.alloc (AA _) _))
 ·simp[KJ,l,I]
  rw[<-IW]
  congr 1
  omega
 simp[l]
structure SV(w:xV)(base X g n c b cv:Nat)(ss:List yZ)(ws:List (Int×yZ)):Prop where
 rx:Row w X [yI (zY g 0) n c,yI (zY b 0) ws.length cv]
 rs:Row w g (ss.map Value.string)
 pd:(ws=[]/\cv=0)\/(w.ownsRow base 147 2 (yI (zY b 0) ws.length cv) ws.length (MH ws)/\b≠X/\b≠g)
 xg:X≠g
 bx:base<=X
 bg:base<=g
theorem SV.I{d:xV}(h:SV w base X g n c b cv ss ws)(a:yX w d):SV d base X g n c b cv ss ws :=⟨h.rx.I a,h.rs.I a,h.pd.imp id (λk=>⟨LZ k.1 a,k.2⟩),h.xg,h.bx,h.bg⟩
theorem SV.own(h:SV w base X g n c b cv ss ws):OwnS w (zY b 0) (MH ws)/\(MH ws≠[]->b≠g/\b≠X/\base<=b):=by
 rcases h.pd with ⟨rfl,_⟩|⟨k,j,l⟩
 ·exact⟨.inl rfl,λe=>absurd rfl e⟩
 rcases MC k with ⟨e,q⟩|⟨p,d,e,f,_,i⟩
 ·cases e
 injection e with a m o
 injection a with a;injection a with a;subst a;exact⟨.inr ⟨b,rfl,i⟩,λ_=>⟨l,j,f⟩⟩
theorem SV.sync{a:xV}{x:Nat}{d:List yZ}(h:SV w base X g n c b cv ss ws)(i:Row a g (d.map Value.string))(f:w.grownBy a (some g)):SV ((a.setCell (yA X 0) (yI (zY g 0) n c)).setCell (yA X 1) (yI (zY x 0) 0 0)) base X g n c x 0 d [] :=⟨((h.rx.V f (λe=>h.xg (by injection e))).set 0 σ _).set 1 σ _,(i.other _ h.xg _).other _ h.xg _,.inl ⟨rfl,rfl⟩,h.xg,h.bx,h.bg⟩
theorem SV.push{a:xV}{g9 cap:Nat}{x:Int×yZ}{row:Option Nat}(h:SV w base X g n c b cv ss ws)(j:a.ownsRow base 147 2 (yI (zY g9 0) (ws.length+1) cap) (ws.length+1) (MH ws++[Z x.1,yQ x.2]))(d:w.grownBy a row)(p:row≠some X)(m:row≠some g)(i:g9≠X)(k:g9≠g):SV (a.setCell (yA X 1) (yI (zY g9 0) (ws.length+1) cap)) base X g n c g9 cap ss (ws++[x]):=by
 have f:(ws++[x]).length=ws.length+1:=σ
 have l:MH (ws++[x])=MH ws++[Z x.1,yQ x.2]:=by simp[MH]
 have o:=j.kept (w':=a.setCell (yA X 1) (yI (zY g9 0) (ws.length+1) cap)) (row:=some X) (NA (AY _ _) _ _) (.inr (λe=>i (by injection e)));refine⟨?_,(h.rs.V d (λe=>m e.symm)).other _ h.xg _,.inr ⟨?_,i,k⟩,h.xg,h.bx,h.bg⟩
 ·rw[f];exact(h.rx.V d (λe=>p e.symm)).set 1 σ _
 rw[f,l];exact o
set_option maxRecDepth 100000 in
theorem Iy(a:xA)(ss:List yZ)(c:Nat)(T:xA)(ws:List (Int×yZ))(c':Nat)(f:xA)(o:List (Bool×Int×yZ))(cf:Nat)(z:Int)(w:xV)(h:Strs w a ss)(h':Wrs w T ws)(hz:Ops w f o)(gH:o.length<=1048576)(fA:∀x∈o,x.2.2.size<=1048576)(cN:LO ss ws=true):Calls prog 93 #[LM a ss.length c T ws.length c',yI f o.length cf,Z z] w λe t=>∃F q L bB,e=yT (LM F (OD (o.take (QO z o.length)) (ss,ws)).1.length q L (OD (o.take (QO z o.length)) (ss,ws)).2.length bB)/\OwnD t F (OD (o.take (QO z o.length)) (ss,ws)).1 L (OD (o.take (QO z o.length)) (ss,ws)).2/\(∀g,blk F (OD (o.take (QO z o.length)) (ss,ws)).1.length=some g->w.heap.size<=g)/\(∀g,blk L (OD (o.take (QO z o.length)) (ss,ws)).2.length=some g->w.heap.size<=g)/\yX w t:=by
 obtain⟨i0,d,i,j,k⟩:=O5 yy;have N:=Y (AG d (AG i (AG j k)));clear d i j k;obtain⟨⟨eR,eT,eV⟩,dZ,hw⟩:=OV cN
 have cE:∀d i,yX w ((w.alloc d).alloc i):=λd i=>(LG _ _).alloc σ _
 obtain⟨m,HM⟩:∃m,Hid (m=QO z o.length):=⟨_,Y rfl⟩;have gL:m<=o.length:=by rw[HM.j];exact sZ _ _
 have eQ:Hid (m=o.length\/((m:Int)<o.length/\¬(m:Int)<z)):=by show _\/_;rw[HM.j];unfold QO;omega
 have eP:Hid (∀k:Nat,k<m->(k:Int)<z):=λk M=>by rw[HM.j]at M;unfold QO at M;omega
 rw[<-HM.j];obtain⟨O,bY⟩:∃O,Hid (O=o.take m):=⟨_,Y rfl⟩;have bC:O.length=m:=by rw[bY.j];simp;omega
 rw[<-bY.j];obtain⟨W,aT⟩:∃W,Hid (W=OD O (ss,ws)):=⟨_,Y rfl⟩;rw[<-aT.j];go_enter func93,ntmps93;go_wp2_with fail;refine(WH a ss c T ws c' _ (h.I (cE _ _)) (h'.I (cE _ _)) ω ω (λs d=>by have:=dZ s d;omega) (λx hx=>by have:=AW (hw x hx);omega)).J ?_;rw[cN];rintro e w1 ⟨rfl,i⟩;have j:=(cE _ _).E (i.J τ);obtain⟨B,p⟩:=pq i;have l:=(NZ (w.alloc (.cells #[yI a ss.length c,yI T ws.length c'] 32)) #[yI none 0 0,yI none 0 0] 32 (w.heap.size+1) σ).I i;have D:=Y l;have d:=Y j;clear l i j;go_wp2_with fail;refine(Tu a ss c T ws c' _ (h.I d.j) (h'.I d.j) eT eV).J ?_;rintro e r ⟨g,q,b,cv,rfl,j,y,E,A,i⟩;clear B p;have v:=Y (D.j.I i);have fC:w.heap.size+1<w1.heap.size:=D.j.lt;have eH:=y g (ML g 0 _ ω);have fX:g<r.heap.size:=j.s.lt ss.length (λ_=>ir ω) g (ML g 0 _ ω)
 have B:Row r g (ss.map Value.string):=by
  rcases j.s with p|⟨C,e,l⟩
  ·exact absurd p (ir ω)
  injection e with e;injection e with e;rw[e];exact l
 have fE:=i.size
 have C:SV (r.alloc (.cells #[yI (zY g 0) ss.length q,yI (zY b 0) ws.length cv] 32)) (w.heap.size+1+1) r.heap.size g ss.length q b cv ss ws:=by
  refine⟨LS _ _ _,B.alloc _,?_,ω,ω,ω⟩;rcases A with k|k
  ·exact .inl k
  refine .inr ⟨(LZ k.1 (Oq _ _)).J ω,?_,?_⟩
  ·have:=(k.1.lt b rfl).2;omega
  intro e
  subst e;rcases j.ne with u|u|u
  ·rw[ML _ 0 _ ω]at u;cases u
  ·rw[ML _ 0 _ k.2]at u;cases u
  rw[ML _ 0 _ ω,ML _ 0 _ k.2]at u;exact u rfl
 have bG:w.heap.size+1+1<=(r.alloc (.cells #[yI (zY g 0) ss.length q,yI (zY b 0) ws.length cv] 32)).heap.size:=τ
 have s:=Y C;have p:=Y (v.j.alloc (.cells #[yI (zY g 0) ss.length q,yI (zY b 0) ws.length cv] 32));have l:=Y (Below.then (Below.then d.j (AA _) i) (AA _) (Oq r (.cells #[yI (zY g 0) ss.length q,yI (zY b 0) ws.length cv] 32)));have dV:=Y cN;clear C j y E A i d D v B;go_wp2;obtain⟨wq,d⟩:∃wq,wq=r.alloc (.cells #[yI (zY g 0) ss.length q,yI (zY b 0) ws.length cv] 32):=⟨_,rfl⟩;rw[<-d]at s p l bG⊢;clear d;go_loopw [8] (λi wr=>∃(k:Nat) (d:List yZ×List (Int×yZ)) (b cv:Nat),k<=m/\i=Z k/\d.1.length=ss.length/\Hid (LO d.1 d.2=true)/\Hid (OD (O.drop k) d=W)/\Hid (SV wr (w.heap.size+1+1) r.heap.size g ss.length q b cv d.1 d.2)/\Hid (Row wr (w.heap.size+1) [yI none 0 0,yI none 0 0])/\Hid (yX w wr)/\w.heap.size+1+1<=wr.heap.size) (λi _=>m-(intOf i).toNat)
 case atStart =>
  exact⟨0,(ss,ws),b,cv,AL _,rfl,rfl,dV,by show _=_;rw[FH,aT.j],s,p,l,bG⟩
 case round =>
  clear s p l;obtain⟨k,d,b,cv,M,rfl,bQ,cS,HK,i,D,I,cP⟩:=hrel;obtain⟨⟨gI,gJ,gK⟩,eM,eO⟩:=OV cS.j
  by_cases cL:k<m
  ·have eK:(k:Int)<z:=eP.j k cL
   have S:k<o.length:=ω
   obtain⟨s,v,Q,l,j,rfl,fW,C,E,HS⟩:=(hz.I I.j).at S;have cM:(Q,l,j)∈o:=by rw[HS.j];simp[List.getD,S]
   have eX:j.size<=1048576:=fA _ cM
   have gM:s<w.heap.size:=by
    rcases hz with p|⟨A,B,u,y,_⟩
    ·rw[p]at S;simp at S
    injection u with u;injection u with u _;rw[u];exact y
   have J:Hid (OD (O.drop (k+1)) (RK d (Q,l,j))=W):=by
    show _=_;have e:O.getD k (false,0,ByteArray.empty)=(Q,l,j):=by rw[HS.j,bY.j];simp[List.getD,FO,cL]
    rw[<-HK.j,YG O k (false,0,ByteArray.empty) (by rw[bC];exact cL),e,OD]
   have H:(RK d (Q,l,j)).1.length=ss.length:=by rw[lQ];exact bQ
   have G:Hid (LO (RK d (Q,l,j)).1 (RK d (Q,l,j)).2=true):=tk d _ cS.j;have U:=i.j.rx.y 0;have V:=i.j.rx.y 1;have fS:=i.j.rx.lt;have fV:=I.j.size
   cases Q with
   | true =>
    rw[yY]at J H G;have y:=Y (Tp g b d.1 q d.2 cv wr i.j.rs i.j.own.1 (λe=>(i.j.own.2 e).1) ω ω (λx hx=>(dm (eO x hx)).1));rw[bQ]at y;obtain⟨fI,fJ⟩:=i.j.rx.z2;go_wp2_with (go_at_call 135;refine y.j.J ?_;rintro e w4 ⟨x,rfl,gQ,K,A,p⟩;have P:=(i.j.rx.V p (λe=>i.j.xg (by injection e))).y 0;have R:=(i.j.rx.V p (λe=>i.j.xg (by injection e))).y 1;have y2:=(i.j.rx.V p (λe=>i.j.xg (by injection e))).A 0;have y3:=(i.j.rx.V p (λe=>i.j.xg (by injection e))).A 1;have y4:=(i.j.rx.V p (λe=>i.j.xg (by injection e))).lt);have B:=Y (i.j.sync (x:=x) A p);have u:=Y (((MF p cP (λk M=>by cases M;exact i.j.bg)).setCell (p:=(yA r.heap.size 0)) i.j.bx (yI (zY g 0) ss.length q)).setCell (p:=(yA r.heap.size 1)) i.j.bx (yI (zY x 0) 0 0))
    have gN:=u.j.size;clear A p P R y2 y3 y4;go_roundw
    case rel =>
     exact⟨k+1,_,x,0,ω,ν,H,G,J,B,D.j.lowB u.j ω,I.j.E (u.j.J ω),by simp only[yA,yI]at*;omega⟩
    case measure =>
     simp[intOf];omega
   | false =>
    have bI:=Y (λt=>yK (zY g 0) ss.length q (zY b 0) d.2.length cv l j t eX ω)
    have R:Hid (∀t,yX wr t->t.cell? (yA r.heap.size 0)=some (yI (zY g 0) ss.length q)/\t.cell? (yA r.heap.size 1)=some (yI (zY b 0) d.2.length cv)/\t.cell? (yA s (v+k*3+1))=some (Z l)/\t.cell? (yA s (v+k*3+2))=some (yQ j)):=λt p=>⟨(i.j.I p).rx.y 0,(i.j.I p).rx.y 1,(p.cell (p:=(yA s (v+k*3+1))) (by show s<_;omega)).E C,(p.cell (p:=(yA s (v+k*3+2))) (by show s<_;omega)).E E⟩
    have fY:(0:Int)<=(k:Int):=ω
    have fZ:(k:Int)<(o.length:Int):=ω
    cases hc:PE ss.length (l,j) with
    | false =>
     rw[qz d (l,j) (.inl (by rw[bQ];exact hc))]at J H G;rw[hc]at bI;go_wp2_with fail;clear U V C E;refine AN (S:=λt=>t.cell? (yA r.heap.size 0)=some (yI (zY g 0) ss.length q)/\t.cell? (yA r.heap.size 1)=some (yI (zY b 0) d.2.length cv)/\t.cell? (yA s (v+k*3+1))=some (Z l)/\t.cell? (yA s (v+k*3+2))=some (yQ j)) κ (R.j _ (AB _ _).drew) (λp=>?_);refine TY 0 (.agg #[yI (zY g 0) ss.length q,yI (zY b 0) d.2.length cv]) rfl p (TY 1 (yI (zY s v) o.length cf) rfl p (TY 2 (Z (k:Int)) rfl p (TY 3 (zW s (v+k*3)) rfl p (TY 4 (zW s (v+k*3+1)) rfl p (TY 5 (Z l) rfl p (TY 6 (yI (zY s v) o.length cf) rfl p (TY 7 (Z (k:Int)) rfl p (TY 8 (zW s (v+k*3)) rfl p (TY 9 (zW s (v+k*3+2)) rfl p (TY 10 (yQ j) rfl p ?_))))))))))
     simp only[PS];refine RD 11 rfl (λK u=>?_);refine LI ρ 133 #[.agg #[yI (zY g 0) ss.length q,yI (zY b 0) d.2.length cv],Z l,yQ j] γ (bI.j _) ?_;rintro e A ⟨rfl,P⟩;refine⟨_,rfl,?_⟩;refine u.j _ _ (R.j _ ((AB _ _).drew.E P)) (λB=>?_);clear u K
     try simp only[PS]
     refine TY 12 (yR false) rfl B (TK 13 (undef) rfl (IS ⟨κ,rfl⟩) B (TK 14 (undef) rfl (IS ⟨κ,rfl⟩) B (TK 15 (undef) rfl (IS ⟨κ,rfl⟩) B (TK 16 (undef) rfl (IS ⟨κ,rfl⟩) B (TY 17 (yR false) rfl B ?_)))));simp only[PS];refine DN ?_;have y:=Y ((AB wr.heap.size wr).drew.E P);have eY:=y.j.size;clear p P;go_wp2;go_roundw
     case rel =>
      exact⟨k+1,_,b,cv,ω,ν,H,G,J,i.j.I y.j,D.j.I y.j,Below.then I.j (AA _) y.j,ω⟩
     case measure =>
      simp[intOf];omega
    | true =>
     rw[hc]at bI
     by_cases dB:d.2.length<300
     focus
      have cJ:(d.2.length:Int)<300:=ω
      rw[zG d (l,j) (by rw[bQ];exact hc) dB]at J H G
     rotate_left
     focus
      have cJ:¬(d.2.length:Int)<300:=ω
      rw[qz d (l,j) (.inr dB)]at J H G
     rotate_left
     all_goals
      go_wp2_with fail;clear U V C E;refine AN (S:=λt=>t.cell? (yA r.heap.size 0)=some (yI (zY g 0) ss.length q)/\t.cell? (yA r.heap.size 1)=some (yI (zY b 0) d.2.length cv)/\t.cell? (yA s (v+k*3+1))=some (Z l)/\t.cell? (yA s (v+k*3+2))=some (yQ j)) κ (R.j _ (AB _ _).drew) (λp=>?_);refine TY 0 (.agg #[yI (zY g 0) ss.length q,yI (zY b 0) d.2.length cv]) rfl p (TY 1 (yI (zY s v) o.length cf) rfl p (TY 2 (Z (k:Int)) rfl p (TY 3 (zW s (v+k*3)) rfl p (TY 4 (zW s (v+k*3+1)) rfl p (TY 5 (Z l) rfl p (TY 6 (yI (zY s v) o.length cf) rfl p (TY 7 (Z (k:Int)) rfl p (TY 8 (zW s (v+k*3)) rfl p (TY 9 (zW s (v+k*3+2)) rfl p (TY 10 (yQ j) rfl p ?_))))))))))
      simp only[PS];refine RD 11 rfl (λK u=>?_);refine LI ρ 133 #[.agg #[yI (zY g 0) ss.length q,yI (zY b 0) d.2.length cv],Z l,yQ j] γ (bI.j _) ?_;rintro e A ⟨rfl,P⟩;refine⟨_,rfl,?_⟩;refine u.j _ _ (R.j _ ((AB _ _).drew.E P)) (λB=>?_);clear u K
      try simp only[PS]
      refine TY 12 (yR true) rfl B (TY 13 (zW r.heap.size 1) rfl B (TY 14 (yI (zY b 0) d.2.length cv) rfl B (TY 15 (Z (d.2.length:Int)) rfl B ?_)));simp only[PS]
     focus
      refine TY 16 (yR true) rfl B (TY 17 (yR true) rfl B ?_)
     rotate_left
     focus
      refine TY 16 (yR false) rfl B (TY 17 (yR false) rfl B ?_)
     rotate_left
     all_goals
      simp only[PS];refine DN ?_;have y:=Y ((AB wr.heap.size wr).drew.E P);have eY:=y.j.size
     ·have eR:=(R.j _ y.j).2.2.1
      have eU:=(R.j _ y.j).2.2.2;have eE:=(i.j.I y.j).rx.y 1;have fO:=(i.j.I y.j).rx.A 1;have eF:=(i.j.I y.j).rx.lt;have eJ:=(i.j.I y.j).rs.lt;clear p P;go_wp2_with fail;have C:=Y ((i.j.I y.j).I (((AB A.heap.size A).drew).alloc (AA _) (.cells #[Z l,yQ j] 147)));rcases C.j.pd with hE|hO
      ·have eB:Hid (d.2=[]/\cv=0):=hE
       obtain⟨t,eG⟩:=eB.j;have dU:=Y t;have K:d.2.length=0:=by rw[t];rfl
       clear hE t;subst eG;rw[K]at eE⊢
       go_region_law (first|(refine M5 ρ _ _ _ ρ (w.heap.size+1+1) 147 i0 _ 2 24 underlying30 N.j.1 N.j.2.1 N.j.2.2.1 N.j.2.2.2 κ b ρ (yA A.heap.size 0) 1 1 [Z l,yQ j] ρ σ (World.news_of_block (AU A.drew (.cells #[Z l,yQ j] 147))) (λu hu=>by simp at hu;rcases hu with rfl|rfl<;>rfl) ω ω ω τ (A.heap.size+1) σ ?_;intro t w5 U E;have q4:=(C.j.rx.V E σ).y 1;have q5:=(C.j.rx.V E σ).A 1;have q6:=(C.j.rx.V E σ).lt;have bV:=Y U;have V:=Y E;clear U E))
       all_goals
        have U:Hid (SV (w5.setCell (yA r.heap.size 1) (yI (zY (A.heap.size+1) 0) 1 t)) (w.heap.size+1+1) r.heap.size g ss.length q (A.heap.size+1) t d.1 (d.2++[(l,j)])):=by
         have e:=C.j.push (g9:=(A.heap.size+1)) (cap:=t) (row:=none) (x:=(l,j)) (by rw[dU.j];exact bV.j) V.j σ σ ω ω;rw[K]at e;exact e
        have E:Hid (Below (w.heap.size+1+1) wr w5):=(y.j.J cP).E ((((AB A.heap.size A).drew.alloc (AA _) (.cells #[Z l,yQ j] 147)).J ω).E (MF V.j τ (λk M=>by cases M)));have eZ:=E.j.size;go_wp2;go_roundw
        case rel=>exact⟨k+1,(d.1,d.2++[(l,j)]),(A.heap.size+1),t,ω,ν,H,G,J,U,D.j.lowB (E.j.setCell (p:=(yA r.heap.size 1)) C.j.bx _) ω,I.j.E ((E.j.setCell (p:=(yA r.heap.size 1)) C.j.bx _).J ω),τ⟩
        case measure=>simp[intOf];omega
      have K:=Y hO
      clear hO
      go_region_law (first|(refine step_append_lies _ ρ _ _ _ ρ (w.heap.size+1+1) 147 i0 _ 2 24 underlying30 N.j.1 N.j.2.1 N.j.2.2.1 N.j.2.2.2 κ ω (yI (zY b 0) d.2.length cv) d.2.length (MH d.2) ρ K.j.1 (yA A.heap.size 0) 1 1 [Z l,yQ j] ρ σ (World.news_of_block (AU A.drew (.cells #[Z l,yQ j] 147))) (λu hu=>by simp at hu;rcases hu with rfl|rfl<;>rfl) ω (by unfold maxLen;omega) ω τ (A.heap.size+1) σ ?_;intro g9 t w5 U E cX eL;have q4:=(C.j.rx.V E (λe=>K.j.2.1 (by injection e with e;exact e.symm))).y 1;have q5:=(C.j.rx.V E (λe=>K.j.2.1 (by injection e with e;exact e.symm))).A 1;have q6:=(C.j.rx.V E (λe=>K.j.2.1 (by injection e with e;exact e.symm))).lt;have bV:=Y U;have V:=Y E;have cQ:=Y cX;clear U E cX))
      all_goals
       have U:Hid (SV (w5.setCell (yA r.heap.size 1) (yI (zY g9 0) (d.2.length+1) t)) (w.heap.size+1+1) r.heap.size g ss.length q g9 t d.1 (d.2++[(l,j)])):=by
        have e:=C.j.push (g9:=g9) (cap:=t) (row:=some b) (x:=(l,j)) bV.j V.j (λe=>K.j.2.1 (by injection e)) (λe=>K.j.2.2 (by injection e)) (by have u:=cQ.j;have E:=K.j.2.1;simp[Value.ownBlock]at u;omega) (by have u:=cQ.j;have E:=K.j.2.2;simp[Value.ownBlock]at u;omega);exact e
       have E:Hid (Below (w.heap.size+1+1) wr w5):=(y.j.J cP).E ((((AB A.heap.size A).drew.alloc (AA _) (.cells #[Z l,yQ j] 147)).J ω).E (MF V.j τ (λk M=>(K.j.1.lt k M).1)));have eZ:=E.j.size;go_wp2;go_roundw
       case rel=>exact⟨k+1,(d.1,d.2++[(l,j)]),g9,t,ω,ν,H,G,J,U,D.j.lowB (E.j.setCell (p:=(yA r.heap.size 1)) C.j.bx _) ω,I.j.E ((E.j.setCell (p:=(yA r.heap.size 1)) C.j.bx _).J ω),τ⟩
       case measure=>simp[intOf];omega
     clear p P
     go_wp2;go_roundw
     case rel =>
      exact⟨k+1,_,b,cv,ω,ν,H,G,J,i.j.I y.j,D.j.I y.j,Below.then I.j (AA _) y.j,ω⟩
     case measure =>
      simp[intOf];omega
  have V:k=m:=ω
  have A:Hid (d=W):=by
   have:=HK.j;rw[DY (by rw[bC];omega)]at this;exact this
  clear HK aT;obtain rfl:=A.j;have q0:=i.j.rx.y 0;have B:=i.j.rx.y 1;have E:=D.j.y 0;have G:=D.j.y 1;obtain⟨H,J⟩:=D.j.z2;have gF:=D.j.lt;have R:=I.j.size;have P:=i.j.xg;have Q:=i.j.bg
  have y:∃F bB L u,LM (zY g 0) ss.length q (zY b 0) d.2.length cv=LM F ss.length bB L d.2.length u/\OwnD ((wr.setCell (yA (w.heap.size+1) 0) (yI (zY g 0) ss.length q)).setCell (yA (w.heap.size+1) 1) (yI (zY b 0) d.2.length cv)) F d.1 L d.2/\(∀g,blk F ss.length=some g->w.heap.size<=g)/\(∀g,blk L d.2.length=some g->w.heap.size<=g):=by
   have t:=i.j.own;refine⟨_,_,_,_,rfl,⟨.inr ⟨g,rfl,(i.j.rs.other _ (by show w.heap.size+1≠g;omega) _).other _ (by show w.heap.size+1≠g;omega) _⟩,(t.1.setp _ (λv j s e=>?_) _).setp _ (λv j s e=>?_) _,?_⟩,λC l=>?_,λC l=>?_⟩
   ·have:=t.2 s;injection j with j;injection j with j;have p:w.heap.size+1=v:=e;omega
   ·have:=t.2 s;injection j with j;injection j with j;have p:w.heap.size+1=v:=e;omega
   ·by_cases p:d.2.length=0
    ·exact .inr (.inl (by simp[blk,p]))
    have s:MH d.2≠[]:=λe=>p (by have:=BC List.length e;rw[cj,AT]at this;omega)
    refine .inr (.inr (λe=>?_));rw[ML g 0 _ ω,ML b 0 _ p]at e;injection e with e;exact(t.2 s).1 e.symm
   ·have:=ML g 0 ss.length ω;rw[this]at l;injection l with l;omega
   by_cases p:d.2.length=0
   ·simp[blk,p]at l
   have s:MH d.2≠[]:=λe=>p (by have:=BC List.length e;rw[cj,AT]at this;omega)
   rw[ML b 0 _ p]at l;injection l with l;have:=(t.2 s).2.2;omega
  have U:=Y y;have l:=Y ((I.j.setCell (p:=(yA (w.heap.size+1) 0)) (by show w.heap.size<=w.heap.size+1;omega) (yI (zY g 0) ss.length q)).setCell (p:=(yA (w.heap.size+1) 1)) (by show w.heap.size<=w.heap.size+1;omega) (yI (zY b 0) d.2.length cv));clear y;rcases eQ.j with hx|⟨hx,K⟩
  focus
   have S:¬(k:Int)<(o.length:Int):=ω
  rotate_left
  focus
   have S:(k:Int)<(o.length:Int):=ω
   have eK:¬(k:Int)<z:=ω
  rotate_left
  all_goals
   go_wp2;refine AE (v:=LM (zY g 0) ss.length q (zY b 0) d.2.length cv) (by simp[results,results93,go_sem,E,G]) rfl ?_;obtain⟨F,bB,L,u,p,s,j,t⟩:=U.j;exact⟨F,bB,L,⟨u,by rw[p]⟩,s,j,t,l.j⟩
theorem Ak(a:xA)(ss:List yZ)(c:Nat)(d:xA)(ws:List (Int×yZ))(k:Nat)(v z:qD)(w:xV)(h:Strs w a ss)(q:Wrs w d ws)(r:ss.length<=1048576)(m:ws.length<=1048576)(t:∀s∈ss,s.size<=1048576)(p:∀x∈ws,x.2.size<=1048576)(o:LO ss ws=false):Calls prog 93 #[LM a ss.length c d ws.length k,v,z] w λe f=>e=yT (LM none 0 0 none 0 0)/\yX w f:=by
 have i:∀f j,yX w ((w.alloc f).alloc j):=λf j=>(LG _ _).alloc σ _
 go_enter func93,ntmps93;go_wp2_with fail;refine(WH a ss c d ws k _ (h.I (i _ _)) (q.I (i _ _)) r m t p).J ?_;rw[o];rintro e A ⟨rfl,j⟩;have l:=Y ((i _ _).E (j.J τ));have f:=(NZ (w.alloc (.cells #[yI a ss.length c,yI d ws.length k] 32)) #[yI none 0 0,yI none 0 0] 32 (w.heap.size+1) σ).I j;have s:=f.y 0;have u:=f.y 1;obtain⟨x,y⟩:=f.z2;clear f j;go_wp2;exact AE (v:=LM none 0 0 none 0 0) (by simp[results,results93,go_sem,s,u]) rfl ⟨rfl,(l.j.setCell (by show w.heap.size<=w.heap.size+1;omega) _).setCell (by show w.heap.size<=w.heap.size+1;omega) _⟩
theorem Gp(a:xA)(ss:List yZ)(c:Nat)(i:xA)(ws:List (Int×yZ))(l:Nat)(f:xA)(d:List (Bool×Int×yZ))(p:Nat)(z:Int)(w:xV)(h:Strs w a ss)(q:Wrs w i ws)(C:Ops w f d)(t:d.length<=1048576)(v:∀x∈d,x.2.2.size<=1048576)(A:ss.length<=1048576)(r:ws.length<=1048576)(B:∀s∈ss,s.size<=1048576)(u:∀x∈ws,x.2.size<=1048576):Calls prog 93 #[LM a ss.length c i ws.length l,yI f d.length p,Z z] w λe o=>∃j y k m,e=yT (LM j (NU ss ws d z).1.length y k (NU ss ws d z).2.length m)/\OwnD o j (NU ss ws d z).1 k (NU ss ws d z).2/\(∀g,blk j (NU ss ws d z).1.length=some g->w.heap.size<=g)/\(∀g,blk k (NU ss ws d z).2.length=some g->w.heap.size<=g)/\yX w o:=by
 by_cases j:LO ss ws=true
 ·have k:NU ss ws d z=OD (d.take (QO z d.length)) (ss,ws):=by simp[NU,j]
  rw[k];exact Iy a ss c i ws l f d p z w h q C t v j
 have k:NU ss ws d z=([],[]):=by simp[NU,j]
 rw[k];refine(Ak a ss c i ws l _ _ w h q A r B u (by simpa using j)).J ?_;rintro e o ⟨rfl,s⟩;exact⟨none,0,none,0,rfl,⟨.inl rfl,.inl rfl,.inl rfl⟩,(λg m=>by cases m),(λg m=>by cases m),s⟩
