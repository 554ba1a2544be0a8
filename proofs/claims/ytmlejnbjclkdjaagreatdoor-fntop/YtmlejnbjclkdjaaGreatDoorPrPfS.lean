import Derived.Test.YtmlejnbjclkdjaaGreatDoorPrG31
set_option maxHeartbeats 16000000
namespace Go.Proofs.YtmlejnbjclkdjaaGreatDoor
open Tryz
open Go.RowKit
set_option linter.all false
variable {ws:List (Int×Y)}{ss:List Y}{X b base c cv g n:Nat}{w:Nb}
theorem Kr{P:Program}{q:Array Oper}{o:Oper}{a:Act}{K:Act->Nb->Prop}{Q:Exit->Act->Nb->Prop}{E:Prop}(C:o.guard=none)(s x:Operand)(t:TypeId)
  (G:o.op=.call { callee:=.builtin .append,args:=#[s,x],argTypes:=#[t,t] })
  (base:Nat)(e:TypeId)(i:TypeInfo)(z:Nc)(f p:Nat)(r:P.underlying t=some (.slice e))(M:P.info? e=some i)(S:i.zero=some z)
  (y:i.size=f)(B:i.bytes=p)(I:z.cells.size=f)
  (b:Nat)(N:a.eval s=.slice (Mw b 0) 0 0)
  (k:Addr)(n c:Nat)(d:List Nc)(R:a.eval x=.slice (some k) n c)(l:d.length=n*f)(v:∀j u,d[j]?=some u->w.cell? (k.add j)=some u)(J:∀u∈d,u.oneCell'=true)
  (V:0<n)(U:n<=1048576)(T:n*p<=140737488355328)(u:base<=w.heap.size)(H:Nat)(L:w.heap.size=H)
  (h:∀j m,m.ownsRow base e f (.slice (Mw H 0) n j) n d->w.grownBy m none->K (a.put o.dst (.slice (Mw H 0) n j)) m):if Region.wanted o (yielded q a.tmps)=true then Oper.wp P o a w K Q else E:=by
 have O:Region.wanted o (yielded q a.tmps)=true:=by simp[Region.wanted,C]
 rw[AE O];subst y B L;have A:Src P i.size t (.slice (some k) n c) n d w:=Src.ofSlice w r k n c d l v J;have j:(Builtin.firstCells i.size 0 (.slice (Mw b 0) 0 0)).run P w.drew=.ok ([]:List Nc).toArray w.drew:=GI w.drew i.size 0 _ 0 0 [] σ σ;have m:=run_append_grow_src (P:=P) w t t o.type e i z r M S (Mw b 0) 0 0 [] j (.slice (some k) n c) n d A ω ω (by rw[BG,uc n ω];omega);unfold Oper.wp;simp[execOp,G,resolve,invoke,builtin,N,R,m,Result.andThen];have D:=JG w n 0 e;have F:=IG w n 0 e (by unfold maxLen;omega);refine h _ _ ⟨l,.inr ⟨w.heap.size,_,_,rfl,u,AU w.drew _,D,F,?_,?_⟩⟩ (UA none ((AB _ _).drew.alloc (AA _) _))
 ·simp[KF,l,I]
  rw[<-GJ]
  congr 1
  omega
 simp[l]
structure SV(w:Nb)(base X g n c b cv:Nat)(ss:List Y)(ws:List (Int×Y)):Prop where
 rx:Row w X [.slice (Mw g 0) n c,.slice (Mw b 0) ws.length cv]
 rs:Row w g (ss.map Value.string)
 pd:(ws=[]/\cv=0)\/(w.ownsRow base 133 2 (.slice (Mw b 0) ws.length cv) ws.length (NP ws)/\b≠X/\b≠g)
 xg:X≠g
 bx:base<=X
 bg:base<=g
theorem SV.I{d:Nb}(h:SV w base X g n c b cv ss ws)(a:Below w.heap.size w d):SV d base X g n c b cv ss ws :=⟨h.rx.I a,h.rs.I a,h.pd.imp id (λk=>⟨NC k.1 a,k.2⟩),h.xg,h.bx,h.bg⟩
theorem SV.own(h:SV w base X g n c b cv ss ws):OwnS w (Mw b 0) (NP ws)/\(NP ws≠[]->b≠g/\b≠X/\base<=b):=by
 rcases h.pd with ⟨rfl,_⟩|⟨k,j,l⟩
 ·exact⟨.inl rfl,λe=>absurd rfl e⟩
 rcases NU k with ⟨e,q⟩|⟨p,d,e,f,_,i⟩
 ·cases e
 injection e with a m o
 injection a with a;injection a with a;subst a;exact⟨.inr ⟨b,rfl,i⟩,λ_=>⟨l,j,f⟩⟩
theorem SV.sync{a:Nb}{x:Nat}{d:List Y}(h:SV w base X g n c b cv ss ws)(i:Row a g (d.map Value.string))(f:w.grownBy a (some g)):SV ((a.setCell ⟨X,0,none⟩ (.slice (Mw g 0) n c)).setCell ⟨X,1,none⟩ (.slice (Mw x 0) 0 0)) base X g n c x 0 d [] :=⟨((h.rx.J f (λe=>h.xg (by injection e))).set 0 σ _).set 1 σ _,(i.other _ h.xg _).other _ h.xg _,.inl ⟨rfl,rfl⟩,h.xg,h.bx,h.bg⟩
theorem SV.push{a:Nb}{g9 cap:Nat}{x:Int×Y}{row:Option Nat}(h:SV w base X g n c b cv ss ws)(j:a.ownsRow base 133 2 (.slice (Mw g9 0) (ws.length+1) cap) (ws.length+1) (NP ws++[.int .i64 x.1,Mz x.2]))(d:w.grownBy a row)(p:row≠some X)(m:row≠some g)(i:g9≠X)(k:g9≠g):SV (a.setCell ⟨X,1,none⟩ (.slice (Mw g9 0) (ws.length+1) cap)) base X g n c g9 cap ss (ws++[x]):=by
 have f:(ws++[x]).length=ws.length+1:=σ
 have l:NP (ws++[x])=NP ws++[.int .i64 x.1,Mz x.2]:=by simp[NP]
 have o:=j.kept (w':=a.setCell ⟨X,1,none⟩ (.slice (Mw g9 0) (ws.length+1) cap)) (row:=some X) (QC (BY _ _) _ _) (.inr (λe=>i (by injection e)));refine⟨?_,(h.rs.J d (λe=>m e.symm)).other _ h.xg _,.inr ⟨?_,i,k⟩,h.xg,h.bx,h.bg⟩
 ·rw[f];exact(h.rx.J d (λe=>p e.symm)).set 1 σ _
 rw[f,l];exact o
set_option maxRecDepth 100000 in
theorem Fy(a:M6)(ss:List Y)(c:Nat)(T:M6)(ws:List (Int×Y))(c':Nat)(f:M6)(o:List (Bool×Int×Y))(cf:Nat)(z:Int)(w:Nb)(h:Strs w a ss)(h':Wrs w T ws)(hz:Ops w f o)(gI:o.length<=1048576)(fF:∀x∈o,x.2.2.size<=1048576)(cO:LE ss ws=true):Calls prog 76 #[LF a ss.length c T ws.length c',.slice f o.length cf,.int .i64 z] w λe t=>∃F q L bC,e=M3 (LF F (LP (o.take (RC z o.length)) (ss,ws)).1.length q L (LP (o.take (RC z o.length)) (ss,ws)).2.length bC)/\OwnD t F (LP (o.take (RC z o.length)) (ss,ws)).1 L (LP (o.take (RC z o.length)) (ss,ws)).2/\(∀g,blk F (LP (o.take (RC z o.length)) (ss,ws)).1.length=some g->w.heap.size<=g)/\(∀g,blk L (LP (o.take (RC z o.length)) (ss,ws)).2.length=some g->w.heap.size<=g)/\Below w.heap.size w t:=by
 obtain⟨i0,d,i,j,k⟩:=MK UK;have N:=Z (AH d (AH i (AH j k)));clear d i j k;obtain⟨⟨eX,eY,fA⟩,eG,hw⟩:=LK cO
 have cF:∀d i,Below w.heap.size w ((w.alloc d).alloc i):=λd i=>(LO _ _).alloc σ _
 obtain⟨m,HM⟩:∃m,Hid (m=RC z o.length):=⟨_,Z rfl⟩;have gM:m<=o.length:=by rw[HM.l];exact qB _ _
 have eV:Hid (m=o.length\/((m:Int)<o.length/\¬(m:Int)<z)):=by show _\/_;rw[HM.l];unfold RC;omega
 have eU:Hid (∀k:Nat,k<m->(k:Int)<z):=λk M=>by rw[HM.l]at M;unfold RC at M;omega
 rw[<-HM.l];obtain⟨O,cA⟩:∃O,Hid (O=o.take m):=⟨_,Z rfl⟩;have bE:O.length=m:=by rw[cA.l];simp;omega
 rw[<-cA.l];obtain⟨W,aT⟩:∃W,Hid (W=LP O (ss,ws)):=⟨_,Z rfl⟩;rw[<-aT.l];go_enter func76,ntmps76;go_wp2_with fail;refine(NG a ss c T ws c' _ (h.I (cF _ _)) (h'.I (cF _ _)) ω ω (λs d=>by have:=eG s d;omega) (λx hx=>by have:=AV (hw x hx);omega)).z ?_;rw[cO];rintro e w1 ⟨rfl,i⟩;have j:=(cF _ _).j (i.z τ);obtain⟨B,p⟩:=UT i;have l:=(LM (w.alloc (.cells #[.slice a ss.length c,.slice T ws.length c'] 26)) #[.slice none 0 0,.slice none 0 0] 26 (w.heap.size+1) σ).I i;have D:=Z l;have d:=Z j;clear l i j;go_wp2_with fail;refine(qQ a ss c T ws c' _ (h.I d.l) (h'.I d.l) eY fA).z ?_;rintro e r ⟨g,q,b,cv,rfl,j,y,E,A,i⟩;clear B p;have v:=Z (D.l.I i);have fG:w.heap.size+1<w1.heap.size:=D.l.lt;have eL:=y g (NT g 0 _ ω);have gD:g<r.heap.size:=j.s.lt ss.length (λ_=>ig ω) g (NT g 0 _ ω)
 have B:Row r g (ss.map Value.string):=by
  rcases j.s with p|⟨C,e,l⟩
  ·exact absurd p (ig ω)
  injection e with e;injection e with e;rw[e];exact l
 have fH:=i.size
 have C:SV (r.alloc (.cells #[.slice (Mw g 0) ss.length q,.slice (Mw b 0) ws.length cv] 26)) (w.heap.size+1+1) r.heap.size g ss.length q b cv ss ws:=by
  refine⟨MT _ _ _,B.alloc _,?_,ω,ω,ω⟩;rcases A with k|k
  ·exact .inl k
  refine .inr ⟨(NC k.1 (LD _ _)).z ω,?_,?_⟩
  ·have:=(k.1.lt b rfl).2;omega
  intro e
  subst e;rcases j.ne with u|u|u
  ·rw[NT _ 0 _ ω]at u;cases u
  ·rw[NT _ 0 _ k.2]at u;cases u
  rw[NT _ 0 _ ω,NT _ 0 _ k.2]at u;exact u rfl
 have bI:w.heap.size+1+1<=(r.alloc (.cells #[.slice (Mw g 0) ss.length q,.slice (Mw b 0) ws.length cv] 26)).heap.size:=τ
 have s:=Z C;have l:=Z (v.l.alloc (.cells #[.slice (Mw g 0) ss.length q,.slice (Mw b 0) ws.length cv] 26));have p:=Z (Below.then (Below.then d.l (AA _) i) (AA _) (LD r (.cells #[.slice (Mw g 0) ss.length q,.slice (Mw b 0) ws.length cv] 26)));have eF:=Z cO;clear C j y E A i d D v B;go_wp2;obtain⟨wq,d⟩:∃wq,wq=r.alloc (.cells #[.slice (Mw g 0) ss.length q,.slice (Mw b 0) ws.length cv] 26):=⟨_,rfl⟩;rw[<-d]at s l p bI⊢;clear d;go_loopw [8] (λi wr=>∃(k:Nat) (d:List Y×List (Int×Y)) (b cv:Nat),k<=m/\i=.int .i64 k/\d.1.length=ss.length/\Hid (LE d.1 d.2=true)/\Hid (LP (O.drop k) d=W)/\Hid (SV wr (w.heap.size+1+1) r.heap.size g ss.length q b cv d.1 d.2)/\Hid (Row wr (w.heap.size+1) [.slice none 0 0,.slice none 0 0])/\Hid (Below w.heap.size w wr)/\w.heap.size+1+1<=wr.heap.size) (λi _=>m-(intOf i).toNat)
 case atStart =>
  exact⟨0,(ss,ws),b,cv,AM _,rfl,rfl,eF,by show _=_;rw[FD,aT.l],s,l,p,bI⟩
 case round =>
  clear s l p;obtain⟨k,d,b,cv,M,rfl,bU,cT,HK,i,D,I,cQ⟩:=hrel;obtain⟨⟨gJ,gK,gL⟩,eQ,eT⟩:=LK cT.l
  by_cases cM:k<m
  ·have eO:(k:Int)<z:=eU.l k cM
   have S:k<o.length:=ω
   obtain⟨s,v,Q,l,j,rfl,fZ,C,E,HS⟩:=(hz.I I.l).at S;have cN:(Q,l,j)∈o:=by rw[HS.l];simp[List.getD,S]
   have fB:j.size<=1048576:=fF _ cN
   have gN:s<w.heap.size:=by
    rcases hz with p|⟨A,B,u,y,_⟩
    ·rw[p]at S;simp at S
    injection u with u;injection u with u _;rw[u];exact y
   have J:Hid (LP (O.drop (k+1)) (SP d (Q,l,j))=W):=by
    show _=_;have e:O.getD k (false,0,ByteArray.empty)=(Q,l,j):=by rw[HS.l,cA.l];simp[List.getD,FY,cM]
    rw[<-HK.l,YI O k (false,0,ByteArray.empty) (by rw[bE];exact cM),e,LP]
   have H:(SP d (Q,l,j)).1.length=ss.length:=by rw[SQ];exact bU
   have G:Hid (LE (SP d (Q,l,j)).1 (SP d (Q,l,j)).2=true):=UM d _ cT.l;have U:=i.l.rx.y 0;have V:=i.l.rx.y 1;have fV:=i.l.rx.lt;have fY:=I.l.size
   cases Q with
   | true =>
    rw[MX]at J H G;have y:=Z (qx g b d.1 q d.2 cv wr i.l.rs i.l.own.1 (λe=>(i.l.own.2 e).1) ω ω (λx hx=>(QK (eT x hx)).1));rw[bU]at y;obtain⟨fQ,fS⟩:=i.l.rx.z2;go_wp2_with (go_at_call 132;refine y.l.z ?_;rintro e w4 ⟨x,rfl,gR,K,A,p⟩;have P:=(i.l.rx.J p (λe=>i.l.xg (by injection e))).y 0;have R:=(i.l.rx.J p (λe=>i.l.xg (by injection e))).y 1;have y2:=(i.l.rx.J p (λe=>i.l.xg (by injection e))).A 0;have y3:=(i.l.rx.J p (λe=>i.l.xg (by injection e))).A 1;have y4:=(i.l.rx.J p (λe=>i.l.xg (by injection e))).lt);have B:=Z (i.l.sync (x:=x) A p);have u:=Z (((NR p cQ (λk M=>by cases M;exact i.l.bg)).setCell (p:=⟨r.heap.size,0,none⟩) i.l.bx (.slice (Mw g 0) ss.length q)).setCell (p:=⟨r.heap.size,1,none⟩) i.l.bx (.slice (Mw x 0) 0 0))
    have gQ:=u.l.size;clear A p P R y2 y3 y4;go_roundw
    case rel =>
     exact⟨k+1,_,x,0,ω,ν,H,G,J,B,D.l.lowB u.l ω,I.l.j (u.l.z ω),ω⟩
    case measure =>
     simp[intOf];omega
   | false =>
    have bQ:=Z (λt=>YP (Mw g 0) ss.length q (Mw b 0) d.2.length cv l j t fB ω)
    have R:Hid (∀t,Below wr.heap.size wr t->t.cell? ⟨r.heap.size,0,none⟩=some (.slice (Mw g 0) ss.length q)/\t.cell? ⟨r.heap.size,1,none⟩=some (.slice (Mw b 0) d.2.length cv)/\t.cell? ⟨s,v+k*3+1,none⟩=some (.int .i64 l)/\t.cell? ⟨s,v+k*3+2,none⟩=some (Mz j)):=λt p=>⟨(i.l.I p).rx.y 0,(i.l.I p).rx.y 1,(p.cell (p:=⟨s,v+k*3+1,none⟩) (by show s<_;omega)).j C,(p.cell (p:=⟨s,v+k*3+2,none⟩) (by show s<_;omega)).j E⟩
    have gE:(0:Int)<=(k:Int):=ω
    have gF:(k:Int)<(o.length:Int):=ω
    cases hc:PL ss.length (l,j) with
    | false =>
     rw[SR d (l,j) (.inl (by rw[bU];exact hc))]at J H G;rw[hc]at bQ;go_wp2_with fail;clear U V C E;refine AN (S:=λt=>t.cell? ⟨r.heap.size,0,none⟩=some (.slice (Mw g 0) ss.length q)/\t.cell? ⟨r.heap.size,1,none⟩=some (.slice (Mw b 0) d.2.length cv)/\t.cell? ⟨s,v+k*3+1,none⟩=some (.int .i64 l)/\t.cell? ⟨s,v+k*3+2,none⟩=some (Mz j)) κ (R.l _ (AB _ _).drew) (λp=>?_);refine TY 0 (.agg #[.slice (Mw g 0) ss.length q,.slice (Mw b 0) d.2.length cv]) rfl p (TY 1 (.slice (Mw s v) o.length cf) rfl p (TY 2 (.int .i64 (k:Int)) rfl p (TY 3 (Mv s (v+k*3)) rfl p (TY 4 (Mv s (v+k*3+1)) rfl p (TY 5 (.int .i64 l) rfl p (TY 6 (.slice (Mw s v) o.length cf) rfl p (TY 7 (.int .i64 (k:Int)) rfl p (TY 8 (Mv s (v+k*3)) rfl p (TY 9 (Mv s (v+k*3+2)) rfl p (TY 10 (Mz j) rfl p ?_))))))))))
     simp only[PS];refine RD 11 rfl (λK u=>?_);refine LW ρ 77 #[.agg #[.slice (Mw g 0) ss.length q,.slice (Mw b 0) d.2.length cv],.int .i64 l,Mz j] γ (bQ.l _) ?_;rintro e A ⟨rfl,P⟩;refine⟨_,rfl,?_⟩;refine u.l _ _ (R.l _ ((AB _ _).drew.j P)) (λB=>?_);clear u K
     try simp only[PS]
     refine TY 12 (M0 false) rfl B (TK 13 (undef) rfl (GD ⟨κ,rfl⟩) B (TK 14 (undef) rfl (GD ⟨κ,rfl⟩) B (TK 15 (undef) rfl (GD ⟨κ,rfl⟩) B (TK 16 (undef) rfl (GD ⟨κ,rfl⟩) B (TY 17 (M0 false) rfl B ?_)))));simp only[PS];refine DN ?_;have y:=Z ((AB wr.heap.size wr).drew.j P);have fC:=y.l.size;clear p P;go_wp2;go_roundw
     case rel =>
      exact⟨k+1,_,b,cv,ω,ν,H,G,J,i.l.I y.l,D.l.I y.l,Below.then I.l (AA _) y.l,ω⟩
     case measure =>
      simp[intOf];omega
    | true =>
     rw[hc]at bQ
     by_cases dM:d.2.length<300
     focus
      have cL:(d.2.length:Int)<300:=ω
      rw[OX d (l,j) (by rw[bU];exact hc) dM]at J H G
     rotate_left
     focus
      have cL:¬(d.2.length:Int)<300:=ω
      rw[SR d (l,j) (.inr dM)]at J H G
     rotate_left
     all_goals
      go_wp2_with fail;clear U V C E;refine AN (S:=λt=>t.cell? ⟨r.heap.size,0,none⟩=some (.slice (Mw g 0) ss.length q)/\t.cell? ⟨r.heap.size,1,none⟩=some (.slice (Mw b 0) d.2.length cv)/\t.cell? ⟨s,v+k*3+1,none⟩=some (.int .i64 l)/\t.cell? ⟨s,v+k*3+2,none⟩=some (Mz j)) κ (R.l _ (AB _ _).drew) (λp=>?_);refine TY 0 (.agg #[.slice (Mw g 0) ss.length q,.slice (Mw b 0) d.2.length cv]) rfl p (TY 1 (.slice (Mw s v) o.length cf) rfl p (TY 2 (.int .i64 (k:Int)) rfl p (TY 3 (Mv s (v+k*3)) rfl p (TY 4 (Mv s (v+k*3+1)) rfl p (TY 5 (.int .i64 l) rfl p (TY 6 (.slice (Mw s v) o.length cf) rfl p (TY 7 (.int .i64 (k:Int)) rfl p (TY 8 (Mv s (v+k*3)) rfl p (TY 9 (Mv s (v+k*3+2)) rfl p (TY 10 (Mz j) rfl p ?_))))))))))
      simp only[PS];refine RD 11 rfl (λK u=>?_);refine LW ρ 77 #[.agg #[.slice (Mw g 0) ss.length q,.slice (Mw b 0) d.2.length cv],.int .i64 l,Mz j] γ (bQ.l _) ?_;rintro e A ⟨rfl,P⟩;refine⟨_,rfl,?_⟩;refine u.l _ _ (R.l _ ((AB _ _).drew.j P)) (λB=>?_);clear u K
      try simp only[PS]
      refine TY 12 (M0 true) rfl B (TY 13 (Mv r.heap.size 1) rfl B (TY 14 (.slice (Mw b 0) d.2.length cv) rfl B (TY 15 (.int .i64 (d.2.length:Int)) rfl B ?_)));simp only[PS]
     focus
      refine TY 16 (M0 true) rfl B (TY 17 (M0 true) rfl B ?_)
     rotate_left
     focus
      refine TY 16 (M0 false) rfl B (TY 17 (M0 false) rfl B ?_)
     rotate_left
     all_goals
      simp only[PS];refine DN ?_;have y:=Z ((AB wr.heap.size wr).drew.j P);have fC:=y.l.size
     ·have eX:=(R.l _ y.l).2.2.1
      have eZ:=(R.l _ y.l).2.2.2;have eI:=(i.l.I y.l).rx.y 1;have fT:=(i.l.I y.l).rx.A 1;have eJ:=(i.l.I y.l).rx.lt;have eN:=(i.l.I y.l).rs.lt;clear p P;go_wp2_with fail;have C:=Z ((i.l.I y.l).I (((AB A.heap.size A).drew).alloc (AA _) (.cells #[.int .i64 l,Mz j] 133)));rcases C.l.pd with hE|hO
      ·have eH:Hid (d.2=[]/\cv=0):=hE
       obtain⟨t,eK⟩:=eH.l;have eC:=Z t;have K:d.2.length=0:=by rw[t];rfl
       clear hE t;subst eK;rw[K]at eI⊢
       go_region_law (first|(refine Kr ρ _ _ _ ρ (w.heap.size+1+1) 133 i0 _ 2 24 underlying24 N.l.1 N.l.2.1 N.l.2.2.1 N.l.2.2.2 κ b ρ ⟨A.heap.size,0,none⟩ 1 1 [.int .i64 l,Mz j] ρ σ (World.news_of_block (AU A.drew (.cells #[.int .i64 l,Mz j] 133))) (λu hu=>by simp at hu;rcases hu with rfl|rfl<;>rfl) ω ω ω τ (A.heap.size+1) σ ?_;intro t w5 U E;have q4:=(C.l.rx.J E σ).y 1;have q5:=(C.l.rx.J E σ).A 1;have q6:=(C.l.rx.J E σ).lt;have bZ:=Z U;have V:=Z E;clear U E))
       all_goals
        have U:Hid (SV (w5.setCell ⟨r.heap.size,1,none⟩ (.slice (Mw (A.heap.size+1) 0) 1 t)) (w.heap.size+1+1) r.heap.size g ss.length q (A.heap.size+1) t d.1 (d.2++[(l,j)])):=by
         have e:=C.l.push (g9:=(A.heap.size+1)) (cap:=t) (row:=none) (x:=(l,j)) (by rw[eC.l];exact bZ.l) V.l σ σ ω ω;rw[K]at e;exact e
        have E:Hid (Below (w.heap.size+1+1) wr w5):=(y.l.z cQ).j ((((AB A.heap.size A).drew.alloc (AA _) (.cells #[.int .i64 l,Mz j] 133)).z ω).j (NR V.l τ (λk M=>by cases M)));have fE:=E.l.size;go_wp2;go_roundw
        case rel=>exact⟨k+1,(d.1,d.2++[(l,j)]),(A.heap.size+1),t,ω,ν,H,G,J,U,D.l.lowB (E.l.setCell (p:=⟨r.heap.size,1,none⟩) C.l.bx _) ω,I.l.j ((E.l.setCell (p:=⟨r.heap.size,1,none⟩) C.l.bx _).z ω),τ⟩
        case measure=>simp[intOf];omega
      have K:=Z hO
      clear hO
      go_region_law (first|(refine step_append_lies _ ρ _ _ _ ρ (w.heap.size+1+1) 133 i0 _ 2 24 underlying24 N.l.1 N.l.2.1 N.l.2.2.1 N.l.2.2.2 κ ω (.slice (Mw b 0) d.2.length cv) d.2.length (NP d.2) ρ K.l.1 ⟨A.heap.size,0,none⟩ 1 1 [.int .i64 l,Mz j] ρ σ (World.news_of_block (AU A.drew (.cells #[.int .i64 l,Mz j] 133))) (λu hu=>by simp at hu;rcases hu with rfl|rfl<;>rfl) ω (by unfold maxLen;omega) ω τ (A.heap.size+1) σ ?_;intro g9 t w5 U E cZ eP;have q4:=(C.l.rx.J E (λe=>K.l.2.1 (by injection e with e;exact e.symm))).y 1;have q5:=(C.l.rx.J E (λe=>K.l.2.1 (by injection e with e;exact e.symm))).A 1;have q6:=(C.l.rx.J E (λe=>K.l.2.1 (by injection e with e;exact e.symm))).lt;have bZ:=Z U;have V:=Z E;have cS:=Z cZ;clear U E cZ))
      all_goals
       have U:Hid (SV (w5.setCell ⟨r.heap.size,1,none⟩ (.slice (Mw g9 0) (d.2.length+1) t)) (w.heap.size+1+1) r.heap.size g ss.length q g9 t d.1 (d.2++[(l,j)])):=by
        have e:=C.l.push (g9:=g9) (cap:=t) (row:=some b) (x:=(l,j)) bZ.l V.l (λe=>K.l.2.1 (by injection e)) (λe=>K.l.2.2 (by injection e)) (by have u:=cS.l;have E:=K.l.2.1;simp[Value.ownBlock]at u;omega) (by have u:=cS.l;have E:=K.l.2.2;simp[Value.ownBlock]at u;omega);exact e
       have E:Hid (Below (w.heap.size+1+1) wr w5):=(y.l.z cQ).j ((((AB A.heap.size A).drew.alloc (AA _) (.cells #[.int .i64 l,Mz j] 133)).z ω).j (NR V.l τ (λk M=>(K.l.1.lt k M).1)));have fE:=E.l.size;go_wp2;go_roundw
       case rel=>exact⟨k+1,(d.1,d.2++[(l,j)]),g9,t,ω,ν,H,G,J,U,D.l.lowB (E.l.setCell (p:=⟨r.heap.size,1,none⟩) C.l.bx _) ω,I.l.j ((E.l.setCell (p:=⟨r.heap.size,1,none⟩) C.l.bx _).z ω),τ⟩
       case measure=>simp[intOf];omega
     clear p P
     go_wp2;go_roundw
     case rel =>
      exact⟨k+1,_,b,cv,ω,ν,H,G,J,i.l.I y.l,D.l.I y.l,Below.then I.l (AA _) y.l,ω⟩
     case measure =>
      simp[intOf];omega
  have V:k=m:=ω
  have A:Hid (d=W):=by
   have:=HK.l;rw[ED (by rw[bE];omega)]at this;exact this
  clear HK aT;obtain rfl:=A.l;have q0:=i.l.rx.y 0;have B:=i.l.rx.y 1;have E:=D.l.y 0;have G:=D.l.y 1;obtain⟨H,J⟩:=D.l.z2;have gH:=D.l.lt;have R:=I.l.size;have P:=i.l.xg;have Q:=i.l.bg
  have y:∃F bC L u,LF (Mw g 0) ss.length q (Mw b 0) d.2.length cv=LF F ss.length bC L d.2.length u/\OwnD ((wr.setCell ⟨w.heap.size+1,0,none⟩ (.slice (Mw g 0) ss.length q)).setCell ⟨w.heap.size+1,1,none⟩ (.slice (Mw b 0) d.2.length cv)) F d.1 L d.2/\(∀g,blk F ss.length=some g->w.heap.size<=g)/\(∀g,blk L d.2.length=some g->w.heap.size<=g):=by
   have t:=i.l.own;refine⟨_,_,_,_,rfl,⟨.inr ⟨g,rfl,(i.l.rs.other _ (by show w.heap.size+1≠g;omega) _).other _ (by show w.heap.size+1≠g;omega) _⟩,(t.1.setp _ (λv j s e=>?_) _).setp _ (λv j s e=>?_) _,?_⟩,λC l=>?_,λC l=>?_⟩
   ·have:=t.2 s;injection j with j;injection j with j;have p:w.heap.size+1=v:=e;omega
   ·have:=t.2 s;injection j with j;injection j with j;have p:w.heap.size+1=v:=e;omega
   ·by_cases p:d.2.length=0
    ·exact .inr (.inl (by simp[blk,p]))
    have s:NP d.2≠[]:=λe=>p (by have:=CX List.length e;rw[ca,AR]at this;omega)
    refine .inr (.inr (λe=>?_));rw[NT g 0 _ ω,NT b 0 _ p]at e;injection e with e;exact(t.2 s).1 e.symm
   ·have:=NT g 0 ss.length ω;rw[this]at l;injection l with l;omega
   by_cases p:d.2.length=0
   ·simp[blk,p]at l
   have s:NP d.2≠[]:=λe=>p (by have:=CX List.length e;rw[ca,AR]at this;omega)
   rw[NT b 0 _ p]at l;injection l with l;have:=(t.2 s).2.2;omega
  have U:=Z y;have t:=Z ((I.l.setCell (p:=⟨w.heap.size+1,0,none⟩) (by show w.heap.size<=w.heap.size+1;omega) (.slice (Mw g 0) ss.length q)).setCell (p:=⟨w.heap.size+1,1,none⟩) (by show w.heap.size<=w.heap.size+1;omega) (.slice (Mw b 0) d.2.length cv));clear y;rcases eV.l with hx|⟨hx,K⟩
  focus
   have S:¬(k:Int)<(o.length:Int):=ω
  rotate_left
  focus
   have S:(k:Int)<(o.length:Int):=ω
   have eO:¬(k:Int)<z:=ω
  rotate_left
  all_goals
   go_wp2;refine AJ (v:=LF (Mw g 0) ss.length q (Mw b 0) d.2.length cv) (by simp[results,results76,go_sem,E,G]) rfl ?_;obtain⟨F,bC,L,u,l,p,j,s⟩:=U.l;exact⟨F,bC,L,⟨u,by rw[l]⟩,p,j,s,t.l⟩
theorem xN(a:M6)(ss:List Y)(c:Nat)(d:M6)(ws:List (Int×Y))(k:Nat)(v z:Nc)(w:Nb)(h:Strs w a ss)(q:Wrs w d ws)(r:ss.length<=1048576)(m:ws.length<=1048576)(t:∀s∈ss,s.size<=1048576)(p:∀x∈ws,x.2.size<=1048576)(o:LE ss ws=false):Calls prog 76 #[LF a ss.length c d ws.length k,v,z] w λe f=>e=M3 (LF none 0 0 none 0 0)/\Below w.heap.size w f:=by
 have i:∀f j,Below w.heap.size w ((w.alloc f).alloc j):=λf j=>(LO _ _).alloc σ _
 go_enter func76,ntmps76;go_wp2_with fail;refine(NG a ss c d ws k _ (h.I (i _ _)) (q.I (i _ _)) r m t p).z ?_;rw[o];rintro e A ⟨rfl,j⟩;have l:=Z ((i _ _).j (j.z τ));have f:=(LM (w.alloc (.cells #[.slice a ss.length c,.slice d ws.length k] 26)) #[.slice none 0 0,.slice none 0 0] 26 (w.heap.size+1) σ).I j;have s:=f.y 0;have u:=f.y 1;obtain⟨x,y⟩:=f.z2;clear f j;go_wp2;exact AJ (v:=LF none 0 0 none 0 0) (by simp[results,results76,go_sem,s,u]) rfl ⟨rfl,(l.l.setCell (by show w.heap.size<=w.heap.size+1;omega) _).setCell (by show w.heap.size<=w.heap.size+1;omega) _⟩
theorem Dj(a:M6)(ss:List Y)(c:Nat)(i:M6)(ws:List (Int×Y))(l:Nat)(f:M6)(d:List (Bool×Int×Y))(p:Nat)(z:Int)(w:Nb)(h:Strs w a ss)(q:Wrs w i ws)(C:Ops w f d)(t:d.length<=1048576)(v:∀x∈d,x.2.2.size<=1048576)(A:ss.length<=1048576)(r:ws.length<=1048576)(B:∀s∈ss,s.size<=1048576)(u:∀x∈ws,x.2.size<=1048576):Calls prog 76 #[LF a ss.length c i ws.length l,.slice f d.length p,.int .i64 z] w λe o=>∃j y k m,e=M3 (LF j (OQ ss ws d z).1.length y k (OQ ss ws d z).2.length m)/\OwnD o j (OQ ss ws d z).1 k (OQ ss ws d z).2/\(∀g,blk j (OQ ss ws d z).1.length=some g->w.heap.size<=g)/\(∀g,blk k (OQ ss ws d z).2.length=some g->w.heap.size<=g)/\Below w.heap.size w o:=by
 by_cases j:LE ss ws=true
 ·have k:OQ ss ws d z=LP (d.take (RC z d.length)) (ss,ws):=by simp[OQ,j]
  rw[k];exact Fy a ss c i ws l f d p z w h q C t v j
 have k:OQ ss ws d z=([],[]):=by simp[OQ,j]
 rw[k];refine(xN a ss c i ws l _ _ w h q A r B u (by simpa using j)).z ?_;rintro e o ⟨rfl,s⟩;exact⟨none,0,none,0,rfl,⟨.inl rfl,.inl rfl,.inl rfl⟩,(λg m=>by cases m),(λg m=>by cases m),s⟩
