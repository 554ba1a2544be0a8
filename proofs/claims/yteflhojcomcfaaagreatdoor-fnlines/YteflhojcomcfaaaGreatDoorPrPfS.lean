import Derived.Test.YteflhojcomcfaaaGreatDoorPrG33
set_option maxHeartbeats 16000000
namespace Go.Proofs.YteflhojcomcfaaaGreatDoor
open Tryz
open Go.RowKit
set_option linter.all false
variable {ws:List (Int×Q4)}{ss:List Q4}{X b base c cv g n:Nat}{w:Q9}
theorem O5{P:Program}{y:Array Oper}{o:Oper}{a:Act}{K:Act->Q9->Prop}{Q:Exit->Act->Q9->Prop}{E:Prop}(L:o.guard=none)(s x:Operand)(t:TypeId)
  (O:o.op=.call { callee:=.builtin .append,args:=#[s,x],argTypes:=#[t,t] })
  (base:Nat)(e:TypeId)(i:TypeInfo)(f:Ra)(l v:Nat)(A:P.underlying t=some (.slice e))(U:P.info? e=some i)(D:i.zero=some f)
  (F:i.size=l)(J:i.bytes=v)(R:f.cells.size=l)
  (b:Nat)(V:a.eval s=Y (Hw b 0) 0 0)
  (m:Addr)(n c:Nat)(k:List Ra)(C:a.eval x=Y (some m) n c)(q:k.length=n*l)(B:∀h u,k[h]?=some u->w.cell? (m.add h)=some u)(S:∀u∈k,u.oneCell'=true)
  (hm:0<n)(aP:n<=1048576)(G:n*v<=140737488355328)(u:base<=w.heap.size)(H:Nat)(T:w.heap.size=H)
  (h:∀p r,r.ownsRow base e l (Y (Hw H 0) n p) n k->w.grownBy r none->K (a.put o.dst (Y (Hw H 0) n p)) r):if Region.wanted o (yielded y a.tmps)=true then Oper.wp P o a w K Q else E:=by
 have W:Region.wanted o (yielded y a.tmps)=true:=by simp[Region.wanted,L]
 rw[AI W];subst F J T;have I:Src P i.size t (Y (some m) n c) n k w:=Src.ofSlice w A m n c k q B S;have p:(Builtin.firstCells i.size 0 (Y (Hw b 0) 0 0)).run P w.drew=.ok ([]:List Ra).toArray w.drew:=GI w.drew i.size 0 _ 0 0 [] j j;have r:=run_append_grow_src (P:=P) w t t o.type e i f A U D (Hw b 0) 0 0 [] p (Y (some m) n c) n k I d d (by rw[BK,nB n d];omega);unfold Oper.wp;simp[execOp,O,resolve,invoke,builtin,V,C,r,Result.andThen];have M:=JL w n 0 e;have N:=IR w n 0 e (by unfold maxLen;omega);refine h _ _ ⟨q,.inr ⟨w.heap.size,_,_,z,u,AV w.drew _,M,N,?_,?_⟩⟩ (VS none ((AB).drew.alloc AA _))
 .simp[KJ,q,R]
  rw[<-ID]
  congr 1
  omega
 simp[q]
structure SV(w:Q9)(base X g n c b cv:Nat)(ss:List Q4)(ws:List (Int×Q4)):Prop where
 rx:Row w X [Y (Hw g 0) n c,Y (Hw b 0) ws.length cv]
 rs:Row w g (ss.map Value.string)
 pd:(ws=[]/\cv=0)\/(w.ownsRow base 125 2 (Y (Hw b 0) ws.length cv) ws.length (MZ ws)/\b≠X/\b≠g)
 xg:X≠g
 bx:base<=X
 bg:base<=g
theorem SV.I{d:Q9}(h:SV w base X g n c b cv ss ws)(a:Q3 w d):SV d base X g n c b cv ss ws :=⟨h.rx.I a,h.rs.I a,h.pd.imp id (λk=>⟨MK k.1 a,k.2⟩),h.xg,h.bx,h.bg⟩
theorem SV.own(h:SV w base X g n c b cv ss ws):OwnS w (Hw b 0) (MZ ws)/\(MZ ws≠[]->b≠g/\b≠X/\base<=b):=by
 rcases h.pd with ⟨rfl,_⟩|⟨k,j,l⟩
 .exact⟨.inl rfl,λe=>absurd rfl e⟩
 rcases MS k with ⟨e,q⟩|⟨p,d,e,f,_,i⟩
 .cases e
 injection e with a m o
 injection a with a;injection a with a;subst a;exact⟨.inr ⟨b,rfl,i⟩,λ_=>⟨l,j,f⟩⟩
theorem SV.sync{a:Q9}{x:Nat}{d:List Q4}(h:SV w base X g n c b cv ss ws)(i:Row a g (d.map Value.string))(f:w.grownBy a (some g)):SV ((a.setCell (Ki X 0) (Y (Hw g 0) n c)).setCell (Ki X 1) (Y (Hw x 0) 0 0)) base X g n c x 0 d [] :=⟨((h.rx.V f (λe=>h.xg (by injection e))).set 0 σ _).set 1 σ _,(i.other _ h.xg _).other _ h.xg _,.inl ⟨rfl,rfl⟩,h.xg,h.bx,h.bg⟩
theorem SV.push{a:Q9}{g9 cap:Nat}{x:Int×Q4}{row:Option Nat}(h:SV w base X g n c b cv ss ws)(j:a.ownsRow base 125 2 (Y (Hw g9 0) (ws.length+1) cap) (ws.length+1) (MZ ws++[Z x.1,Ow x.2]))(d:w.grownBy a row)(p:row≠some X)(m:row≠some g)(i:g9≠X)(k:g9≠g):SV (a.setCell (Ki X 1) (Y (Hw g9 0) (ws.length+1) cap)) base X g n c g9 cap ss (ws++[x]):=by
 have f:(ws++[x]).length=ws.length+1:=σ
 have l:MZ (ws++[x])=MZ ws++[Z x.1,Ow x.2]:=by simp[MZ]
 have o:=j.kept (w':=a.setCell (Ki X 1) (Y (Hw g9 0) (ws.length+1) cap)) (row:=some X) (NZ (BC _ _) _ _) (.inr (λe=>i (by injection e)));refine⟨?_,(h.rs.V d (λe=>m e.symm)).other _ h.xg _,.inr ⟨?_,i,k⟩,h.xg,h.bx,h.bg⟩
 .rw[f];exact(h.rx.V d (λe=>p e.symm)).set 1 σ _
 rw[f,l];exact o
set_option maxRecDepth 100000 in
theorem Kt(a:Q5)(ss:List Q4)(c:Nat)(a':Q5)(ws:List (Int×Q4))(c':Nat)(t:Q5)(B:List (Bool×Int×Q4))(cf:Nat)(p:Int)(w:Q9)(v:Strs w a ss)(h':Wrs w a' ws)(hz:Ops w t B)(gH:B.length<=1048576)(fA:∀r∈B,r.2.2.size<=1048576)(cN:LT ss ws=true):Calls prog 117 #[LR a ss.length c a' ws.length c',Y t B.length cf,Z p] w λe L=>∃S F u bB,e=Q2 (LR S (PL (B.take (SR p B.length)) (ss,ws)).1.length F u (PL (B.take (SR p B.length)) (ss,ws)).2.length bB)/\OwnD L S (PL (B.take (SR p B.length)) (ss,ws)).1 u (PL (B.take (SR p B.length)) (ss,ws)).2/\(∀g,blk S (PL (B.take (SR p B.length)) (ss,ws)).1.length=some g->w.heap.size<=g)/\(∀g,blk u (PL (B.take (SR p B.length)) (ss,ws)).2.length=some g->w.heap.size<=g)/\Q3 w L:=by
 obtain⟨i0,i,k,m,o⟩:=LY o7;have x:=LE (AG i (AG k (AG m o)));clear i k m o;obtain⟨⟨eR,eT,eV⟩,dZ,hw⟩:=QH cN
 have cE:∀i k,Q3 w ((w.alloc i).alloc k):=λi k=>(LH _ _).alloc j _
 obtain⟨m,HM⟩:=nHz (SR p B.length);have gL:m<=B.length:=by rw[HM.j];exact wD _ _
 have eQ:Hid (m=B.length\/((m:Int)<B.length/\¬(m:Int)<p)):=by show _\/_;rw[HM.j];unfold SR;omega
 have eP:Hid (∀k:Nat,k<m->(k:Int)<p):=λk l=>by rw[HM.j]at l;unfold SR at l;omega
 rw[<-HM.j];obtain⟨RS,bY⟩:=nHz (B.take m);have bC:RS.length=m:=by rw[bY.j];simp;omega
 rw[<-bY.j];obtain⟨aZ,aT⟩:=nHz (PL RS (ss,ws));rw[<-aT.j];go_enter func117,ntmps117;go_wp2_with fail;refine(ZX a ss c a' ws c' _ (v.I (cE _ _)) (h'.I (cE _ _)) d d (λs i=>by have:=dZ s i;omega) (λr hx=>by have:=AW (hw r hx);omega)).J ?_;rw[cN];rintro e w1 ⟨rfl,i⟩;have s:=(cE _ _).E (i.J q);obtain⟨O,A⟩:=vi i;have y:=(OY (w.alloc (.cells #[Y a ss.length c,Y a' ws.length c'] 37)) #[Y none 0 0,Y none 0 0] 37 (w.heap.size+1) j).I i;have Q:=LE y;have o:=LE s;clear y i s;go_wp2_with fail;refine(WX a ss c a' ws c' _ (v.I o.j) (h'.I o.j) eT eV).J ?_;rintro e G ⟨g,F,b,cv,rfl,y,M,R,N,s⟩;clear O A;have K:=LE (Q.j.I s);have fC:w.heap.size+1<w1.heap.size:=Q.j.lt;have eH:=M g (ND g 0 _ d);have fX:g<G.heap.size:=y.s.lt ss.length (λ_=>ph d) g (ND g 0 _ d)
 have O:Row G g (ss.map Value.string):=by
  rcases y.s with E|⟨P,e,i⟩
  .exact absurd E (ph d)
  injection e with e;injection e with e;rw[e];exact i
 have fE:=s.size
 have P:SV (G.alloc (.cells #[Y (Hw g 0) ss.length F,Y (Hw b 0) ws.length cv] 37)) (w.heap.size+1+1) G.heap.size g ss.length F b cv ss ws:=by
  refine⟨LZ _ _ _,O.alloc _,?_,d,d,d⟩;rcases N with k|k
  .exact .inl k
  refine .inr ⟨(MK k.1 (MI _ _)).J d,?_,?_⟩
  .have:=(k.1.lt b z).2;omega
  intro e
  subst e;rcases y.ne with i|i|i
  .rw[ND _ 0 _ d]at i;cases i
  .rw[ND _ 0 _ k.2]at i;cases i
  rw[ND _ 0 _ d,ND _ 0 _ k.2]at i;exact i z
 have bG:w.heap.size+1+1<=(G.alloc (.cells #[Y (Hw g 0) ss.length F,Y (Hw b 0) ws.length cv] 37)).heap.size:=q
 have J:=LE P;have E:=LE (K.j.alloc (.cells #[Y (Hw g 0) ss.length F,Y (Hw b 0) ws.length cv] 37));have A:=LE (Below.then (Below.then o.j AA s) AA (MI G (.cells #[Y (Hw g 0) ss.length F,Y (Hw b 0) ws.length cv] 37)));have dV:=LE cN;clear P y M R N s o Q K O;go_wp2;obtain⟨wq,i⟩:=nMz (G.alloc (.cells #[Y (Hw g 0) ss.length F,Y (Hw b 0) ws.length cv] 37));rw[<-i]at J E A bG⊢;clear i;go_loopw [8] (λi wr=>∃(k:Nat) (o:List Q4×List (Int×Q4)) (b cv:Nat),k<=m/\i=Z k/\o.1.length=ss.length/\Hid (LT o.1 o.2=true)/\Hid (PL (RS.drop k) o=aZ)/\Hid (SV wr (w.heap.size+1+1) G.heap.size g ss.length F b cv o.1 o.2)/\Hid (Row wr (w.heap.size+1) [Y none 0 0,Y none 0 0])/\Hid (Q3 w wr)/\w.heap.size+1+1<=wr.heap.size) (λi _=>m-(intOf i).toNat)
 case atStart =>
  exact⟨0,(ss,ws),b,cv,AL,z,z,dV,by show _=_;rw[FI,aT.j],J,E,A,bG⟩
 case round =>
  clear J E A;obtain⟨k,o,b,cv,l,rfl,bQ,cS,HK,s,Q,V,cP⟩:=hrel;obtain⟨⟨gI,gJ,gK⟩,eM,eO⟩:=QH cS.j
  by_cases cL:k<m
  .have eK:(k:Int)<p:=eP.j k cL
   have aW:k<B.length:=d
   obtain⟨J,M,C,A,y,rfl,fW,R,H,HS⟩:=(hz.I V.j).at aW;have cM:(C,A,y)∈B:=by rw[HS.j];simp[List.getD,aW]
   have eX:y.size<=1048576:=fA _ cM
   have gM:J<w.heap.size:=by
    rcases hz with E|⟨N,O,i,K,_⟩
    .rw[E]at aW;simp at aW
    injection i with i;injection i with i _;rw[i];exact K
   have W:Hid (PL (RS.drop (k+1)) (UB o (C,A,y))=aZ):=by
    show _=_;have e:RS.getD k (false,0,ByteArray.empty)=(C,A,y):=by rw[HS.j,bY.j];simp[List.getD,FQ,cL]
    rw[<-HK.j,eg RS k (false,0,ByteArray.empty) (by rw[bC];exact cL),e,PL]
   have U:(UB o (C,A,y)).1.length=ss.length:=by rw[pQ];exact bQ
   have T:Hid (LT (UB o (C,A,y)).1 (UB o (C,A,y)).2=true):=yy o _ cS.j;have x0:=s.j.rx.y 0;have x1:=s.j.rx.y 1;have fS:=s.j.rx.lt;have fV:=V.j.size
   cases C with
   | true =>
    rw[Bq]at W U T;have K:=LE (WL g b o.1 F o.2 cv wr s.j.rs s.j.own.1 (λe=>(s.j.own.2 e).1) d d (λr hx=>(kj (eO r hx)).1));rw[bQ]at K;obtain⟨fI,fJ⟩:=s.j.rx.z2;go_wp2_with (go_at_call 172;refine K.j.J ?_;rintro e w4 ⟨r,rfl,gQ,P,N,i⟩;have I:=(s.j.rx.V i (λe=>s.j.xg (by injection e))).y 0;have y1:=(s.j.rx.V i (λe=>s.j.xg (by injection e))).y 1;have y2:=(s.j.rx.V i (λe=>s.j.xg (by injection e))).A 0;have y3:=(s.j.rx.V i (λe=>s.j.xg (by injection e))).A 1;have y4:=(s.j.rx.V i (λe=>s.j.xg (by injection e))).lt);have O:=LE (s.j.sync (x:=r) N i);have E:=LE (((MU i cP (λk l=>by cases l;exact s.j.bg)).setCell (p:=(Ki G.heap.size 0)) s.j.bx (Y (Hw g 0) ss.length F)).setCell (p:=(Ki G.heap.size 1)) s.j.bx (Y (Hw r 0) 0 0))
    have gN:=E.j.size;clear N i I y1 y2 y3 y4;go_roundw
    case rel =>
     exact⟨k+1,_,r,0,d,ν,U,T,W,O,Q.j.lowB E.j d,V.j.E (E.j.J d),by simp only[Ki,Y]at*;omega⟩
    case measure =>
     simp[intOf];omega
   | false =>
    have bI:=LE (λL=>Bc (Hw g 0) ss.length F (Hw b 0) o.2.length cv A y L eX d)
    have aV:Hid (∀L,Q3 wr L->L.cell? (Ki G.heap.size 0)=some (Y (Hw g 0) ss.length F)/\L.cell? (Ki G.heap.size 1)=some (Y (Hw b 0) o.2.length cv)/\L.cell? (Ki J (M+k*3+1))=some (Z A)/\L.cell? (Ki J (M+k*3+2))=some (Ow y)):=λL i=>⟨(s.j.I i).rx.y 0,(s.j.I i).rx.y 1,(i.cell (p:=(Ki J (M+k*3+1))) (by show J<_;omega)).E R,(i.cell (p:=(Ki J (M+k*3+2))) (by show J<_;omega)).E H⟩
    have fY:(0:Int)<=(k:Int):=d
    have fZ:(k:Int)<(B.length:Int):=d
    cases hc:QR ss.length (A,y) with
    | false =>
     rw[xe o (A,y) (.inl (by rw[bQ];exact hc))]at W U T;rw[hc]at bI;go_wp2_with fail;clear x0 x1 R H;refine AN (S:=λL=>L.cell? (Ki G.heap.size 0)=some (Y (Hw g 0) ss.length F)/\L.cell? (Ki G.heap.size 1)=some (Y (Hw b 0) o.2.length cv)/\L.cell? (Ki J (M+k*3+1))=some (Z A)/\L.cell? (Ki J (M+k*3+2))=some (Ow y)) h (aV.j _ (D).drew) (λE=>?_);refine TY 0 (.agg #[Y (Hw g 0) ss.length F,Y (Hw b 0) o.2.length cv]) z E (TY 1 (Y (Hw J M) B.length cf) z E (TY 2 (Z (k:Int)) z E (TY 3 (Dr J (M+k*3)) z E (TY 4 (Dr J (M+k*3+1)) z E (TY 5 (Z A) z E (TY 6 (Y (Hw J M) B.length cf) z E (TY 7 (Z (k:Int)) z E (TY 8 (Dr J (M+k*3)) z E (TY 9 (Dr J (M+k*3+2)) z E (TY 10 (Ow y) z E ?_))))))))))
     simp only[PS];refine RD 11 z (λK i=>?_);refine LM f 170 #[.agg #[Y (Hw g 0) ss.length F,Y (Hw b 0) o.2.length cv],Z A,Ow y] γ (bI.j _) ?_;rintro e O ⟨rfl,I⟩;refine⟨_,z,?_⟩;refine i.j _ _ (aV.j _ ((D).drew.E I)) (λP=>?_);clear i K
     try simp only[PS]
     refine TY 12 (Q1 false) z P (TK 13 (undef) z (IT ⟨h,z⟩) P (TK 14 (undef) z (IT ⟨h,z⟩) P (TK 15 (undef) z (IT ⟨h,z⟩) P (TK 16 (undef) z (IT ⟨h,z⟩) P (TY 17 (Q1 false) z P ?_)))));simp only[PS];refine DN ?_;have N:=LE ((@D wr.heap.size wr).drew.E I);have eY:=N.j.size;clear E I;go_wp2;go_roundw
     case rel =>
      exact⟨k+1,_,b,cv,d,ν,U,T,W,s.j.I N.j,Q.j.I N.j,Below.then V.j AA N.j,d⟩
     case measure =>
      simp[intOf];omega
    | true =>
     rw[hc]at bI
     by_cases dB:o.2.length<300
     focus
      have cJ:(o.2.length:Int)<300:=d
      rw[Bw o (A,y) (by rw[bQ];exact hc) dB]at W U T
     rotate_left
     focus
      have cJ:¬(o.2.length:Int)<300:=d
      rw[xe o (A,y) (.inr dB)]at W U T
     rotate_left
     all_goals
      go_wp2_with fail;clear x0 x1 R H;refine AN (S:=λL=>L.cell? (Ki G.heap.size 0)=some (Y (Hw g 0) ss.length F)/\L.cell? (Ki G.heap.size 1)=some (Y (Hw b 0) o.2.length cv)/\L.cell? (Ki J (M+k*3+1))=some (Z A)/\L.cell? (Ki J (M+k*3+2))=some (Ow y)) h (aV.j _ (D).drew) (λE=>?_);refine TY 0 (.agg #[Y (Hw g 0) ss.length F,Y (Hw b 0) o.2.length cv]) z E (TY 1 (Y (Hw J M) B.length cf) z E (TY 2 (Z (k:Int)) z E (TY 3 (Dr J (M+k*3)) z E (TY 4 (Dr J (M+k*3+1)) z E (TY 5 (Z A) z E (TY 6 (Y (Hw J M) B.length cf) z E (TY 7 (Z (k:Int)) z E (TY 8 (Dr J (M+k*3)) z E (TY 9 (Dr J (M+k*3+2)) z E (TY 10 (Ow y) z E ?_))))))))))
      simp only[PS];refine RD 11 z (λK i=>?_);refine LM f 170 #[.agg #[Y (Hw g 0) ss.length F,Y (Hw b 0) o.2.length cv],Z A,Ow y] γ (bI.j _) ?_;rintro e O ⟨rfl,I⟩;refine⟨_,z,?_⟩;refine i.j _ _ (aV.j _ ((D).drew.E I)) (λP=>?_);clear i K
      try simp only[PS]
      refine TY 12 (Q1 true) z P (TY 13 (Dr G.heap.size 1) z P (TY 14 (Y (Hw b 0) o.2.length cv) z P (TY 15 (Z (o.2.length:Int)) z P ?_)));simp only[PS]
     focus
      refine TY 16 (Q1 true) z P (TY 17 (Q1 true) z P ?_)
     rotate_left
     focus
      refine TY 16 (Q1 false) z P (TY 17 (Q1 false) z P ?_)
     rotate_left
     all_goals
      simp only[PS];refine DN ?_;have N:=LE ((@D wr.heap.size wr).drew.E I);have eY:=N.j.size
     .have eR:=(aV.j _ N.j).2.2.1
      have eU:=(aV.j _ N.j).2.2.2;have eE:=(s.j.I N.j).rx.y 1;have fO:=(s.j.I N.j).rx.A 1;have eF:=(s.j.I N.j).rx.lt;have eJ:=(s.j.I N.j).rs.lt;clear E I;go_wp2_with fail;have L:=LE ((s.j.I N.j).I (((@D O.heap.size O).drew).alloc AA (.cells #[Z A,Ow y] 125)));rcases L.j.pd with hE|hO
      .have eB:Hid (o.2=[]/\cv=0):=hE
       obtain⟨i,eG⟩:=eB.j;have dU:=LE i;have H:o.2.length=0:=by rw[i];rfl
       clear hE i;subst eG;rw[H]at eE⊢
       go_region_law (first|(refine O5 f _ _ _ f (w.heap.size+1+1) 125 i0 _ 2 24 underlying35 x.j.1 x.j.2.1 x.j.2.2.1 x.j.2.2.2 h b f (Ki O.heap.size 0) 1 1 [Z A,Ow y] f j (World.news_of_block (AV O.drew (.cells #[Z A,Ow y] 125))) (λi hu=>by simp at hu;rcases hu with rfl|rfl<;>rfl) d d d q (O.heap.size+1) j ?_;intro K w5 aK R;have q4:=(L.j.rx.V R j).y 1;have q5:=(L.j.rx.V R j).A 1;have q6:=(L.j.rx.V R j).lt;have bV:=LE aK;have aX:=LE R;clear aK R))
       all_goals
        have aJ:Hid (SV (w5.setCell (Ki G.heap.size 1) (Y (Hw (O.heap.size+1) 0) 1 K)) (w.heap.size+1+1) G.heap.size g ss.length F (O.heap.size+1) K o.1 (o.2++[(A,y)])):=by
         have e:=L.j.push (g9:=(O.heap.size+1)) (cap:=K) (row:=none) (x:=(A,y)) (by rw[dU.j];exact bV.j) aX.j j j d d;rw[H]at e;exact e
        have R:Hid (Below (w.heap.size+1+1) wr w5):=(N.j.J cP).E ((((@D O.heap.size O).drew.alloc AA (.cells #[Z A,Ow y] 125)).J d).E (MU aX.j q (λk l=>by cases l)));have eZ:=R.j.size;go_wp2;go_roundw
        case rel=>exact⟨k+1,(o.1,o.2++[(A,y)]),(O.heap.size+1),K,d,ν,U,T,W,aJ,Q.j.lowB (R.j.setCell (p:=(Ki G.heap.size 1)) L.j.bx _) d,V.j.E ((R.j.setCell (p:=(Ki G.heap.size 1)) L.j.bx _).J d),q⟩
        case measure=>simp[intOf];omega
      have H:=LE hO
      clear hO
      go_region_law (first|(refine step_append_lies _ f _ _ _ f (w.heap.size+1+1) 125 i0 _ 2 24 underlying35 x.j.1 x.j.2.1 x.j.2.2.1 x.j.2.2.2 h d (Y (Hw b 0) o.2.length cv) o.2.length (MZ o.2) f H.j.1 (Ki O.heap.size 0) 1 1 [Z A,Ow y] f j (World.news_of_block (AV O.drew (.cells #[Z A,Ow y] 125))) (λi hu=>by simp at hu;rcases hu with rfl|rfl<;>rfl) d (by unfold maxLen;omega) d q (O.heap.size+1) j ?_;intro g9 K w5 aK R cX eL;have q4:=(L.j.rx.V R (λe=>H.j.2.1 (by injection e with e;exact e.symm))).y 1;have q5:=(L.j.rx.V R (λe=>H.j.2.1 (by injection e with e;exact e.symm))).A 1;have q6:=(L.j.rx.V R (λe=>H.j.2.1 (by injection e with e;exact e.symm))).lt;have bV:=LE aK;have aX:=LE R;have cQ:=LE cX;clear aK R cX))
      all_goals
       have aJ:Hid (SV (w5.setCell (Ki G.heap.size 1) (Y (Hw g9 0) (o.2.length+1) K)) (w.heap.size+1+1) G.heap.size g ss.length F g9 K o.1 (o.2++[(A,y)])):=by
        have e:=L.j.push (g9:=g9) (cap:=K) (row:=some b) (x:=(A,y)) bV.j aX.j (λe=>H.j.2.1 (by injection e)) (λe=>H.j.2.2 (by injection e)) (by have i:=cQ.j;have R:=H.j.2.1;simp[Value.ownBlock]at i;omega) (by have i:=cQ.j;have R:=H.j.2.2;simp[Value.ownBlock]at i;omega);exact e
       have R:Hid (Below (w.heap.size+1+1) wr w5):=(N.j.J cP).E ((((@D O.heap.size O).drew.alloc AA (.cells #[Z A,Ow y] 125)).J d).E (MU aX.j q (λk l=>(H.j.1.lt k l).1)));have eZ:=R.j.size;go_wp2;go_roundw
       case rel=>exact⟨k+1,(o.1,o.2++[(A,y)]),g9,K,d,ν,U,T,W,aJ,Q.j.lowB (R.j.setCell (p:=(Ki G.heap.size 1)) L.j.bx _) d,V.j.E ((R.j.setCell (p:=(Ki G.heap.size 1)) L.j.bx _).J d),q⟩
       case measure=>simp[intOf];omega
     clear E I
     go_wp2;go_roundw
     case rel =>
      exact⟨k+1,_,b,cv,d,ν,U,T,W,s.j.I N.j,Q.j.I N.j,Below.then V.j AA N.j,d⟩
     case measure =>
      simp[intOf];omega
  have gE:k=m:=d
  have N:Hid (o=aZ):=by
   have:=HK.j;rw[EA (by rw[bC];omega)]at this;exact this
  clear HK aT;obtain rfl:=N.j;have q0:=s.j.rx.y 0;have O:=s.j.rx.y 1;have R:=Q.j.y 0;have T:=Q.j.y 1;obtain⟨U,W⟩:=Q.j.z2;have gF:=Q.j.lt;have C:=V.j.size;have H:=s.j.xg;have I:=s.j.bg
  have M:∃S bB u K,LR (Hw g 0) ss.length F (Hw b 0) o.2.length cv=LR S ss.length bB u o.2.length K/\OwnD ((wr.setCell (Ki (w.heap.size+1) 0) (Y (Hw g 0) ss.length F)).setCell (Ki (w.heap.size+1) 1) (Y (Hw b 0) o.2.length cv)) S o.1 u o.2/\(∀g,blk S ss.length=some g->w.heap.size<=g)/\(∀g,blk u o.2.length=some g->w.heap.size<=g):=by
   have J:=s.j.own;refine⟨_,_,_,_,z,⟨.inr ⟨g,z,(s.j.rs.other _ (by show w.heap.size+1≠g;omega) _).other _ (by show w.heap.size+1≠g;omega) _⟩,(J.1.setp _ (λL i A e=>?_) _).setp _ (λL i A e=>?_) _,?_⟩,λP y=>?_,λP y=>?_⟩
   .have:=J.2 A;injection i with i;injection i with i;have E:w.heap.size+1=L:=e;omega
   .have:=J.2 A;injection i with i;injection i with i;have E:w.heap.size+1=L:=e;omega
   .by_cases E:o.2.length=0
    .exact .inr (.inl (by simp[blk,E]))
    have A:MZ o.2≠[]:=λe=>E (by have:=BD List.length e;rw[jv,AU]at this;omega)
    refine .inr (.inr (λe=>?_));rw[ND g 0 _ d,ND b 0 _ E]at e;injection e with e;exact(J.2 A).1 e.symm
   .have:=ND g 0 ss.length d;rw[this]at y;injection y with y;omega
   by_cases E:o.2.length=0
   .simp[blk,E]at y
   have A:MZ o.2≠[]:=λe=>E (by have:=BD List.length e;rw[jv,AU]at this;omega)
   rw[ND b 0 _ E]at y;injection y with y;have:=(J.2 A).2.2;omega
  have aJ:=LE M;have y:=LE ((V.j.setCell (p:=(Ki (w.heap.size+1) 0)) (by show w.heap.size<=w.heap.size+1;omega) (Y (Hw g 0) ss.length F)).setCell (p:=(Ki (w.heap.size+1) 1)) (by show w.heap.size<=w.heap.size+1;omega) (Y (Hw b 0) o.2.length cv));clear M;rcases eQ.j with hx|⟨hx,P⟩
  focus
   have aW:¬(k:Int)<(B.length:Int):=d
  rotate_left
  focus
   have aW:(k:Int)<(B.length:Int):=d
   have eK:¬(k:Int)<p:=d
  rotate_left
  all_goals
   go_wp2;refine AE (v:=LR (Hw g 0) ss.length F (Hw b 0) o.2.length cv) (by simp[results,results117,go_sem,R,T]) z ?_;obtain⟨S,bB,u,K,A,E,i,J⟩:=aJ.j;exact⟨S,bB,u,⟨K,by rw[A]⟩,E,i,J,y.j⟩
theorem Cy(a:Q5)(ss:List Q4)(c:Nat)(f:Q5)(ws:List (Int×Q4))(m:Nat)(v d:Ra)(w:Q9)(h:Strs w a ss)(u:Wrs w f ws)(y:ss.length<=1048576)(p:ws.length<=1048576)(A:∀s∈ss,s.size<=1048576)(t:∀x∈ws,x.2.size<=1048576)(r:LT ss ws=false):Calls prog 117 #[LR a ss.length c f ws.length m,v,d] w λe i=>e=Q2 (LR none 0 0 none 0 0)/\Q3 w i:=by
 have k:∀i l,Q3 w ((w.alloc i).alloc l):=λi l=>(LH _ _).alloc j _
 go_enter func117,ntmps117;go_wp2_with fail;refine(ZX a ss c f ws m _ (h.I (k _ _)) (u.I (k _ _)) y p A t).J ?_;rw[r];rintro e D ⟨rfl,l⟩;have o:=LE ((k _ _).E (l.J q));have i:=(OY (w.alloc (.cells #[Y a ss.length c,Y f ws.length m] 37)) #[Y none 0 0,Y none 0 0] 37 (w.heap.size+1) j).I l;have s:=i.y 0;have x:=i.y 1;obtain⟨B,C⟩:=i.z2;clear i l;go_wp2;exact H (v:=LR none 0 0 none 0 0) (by simp[results,results117,go_sem,s,x]) z ⟨z,(o.j.setCell (by show w.heap.size<=w.heap.size+1;omega) _).setCell (by show w.heap.size<=w.heap.size+1;omega) _⟩
theorem Iv(a:Q5)(ss:List Q4)(c:Nat)(j:Q5)(ws:List (Int×Q4))(m:Nat)(f:Q5)(i:List (Bool×Int×Q4))(q:Nat)(d:Int)(w:Q9)(h:Strs w a ss)(r:Wrs w j ws)(D:Ops w f i)(u:i.length<=1048576)(y:∀x∈i,x.2.2.size<=1048576)(B:ss.length<=1048576)(t:ws.length<=1048576)(C:∀s∈ss,s.size<=1048576)(v:∀x∈ws,x.2.size<=1048576):Calls prog 117 #[LR a ss.length c j ws.length m,Y f i.length q,Z d] w λe p=>∃k A l o,e=Q2 (LR k (OS ss ws i d).1.length A l (OS ss ws i d).2.length o)/\OwnD p k (OS ss ws i d).1 l (OS ss ws i d).2/\(∀g,blk k (OS ss ws i d).1.length=some g->w.heap.size<=g)/\(∀g,blk l (OS ss ws i d).2.length=some g->w.heap.size<=g)/\Q3 w p:=by
 by_cases k:LT ss ws=true
 .have l:OS ss ws i d=PL (i.take (SR d i.length)) (ss,ws):=by simp[OS,k]
  rw[l];exact Kt a ss c j ws m f i q d w h r D u y k
 have l:OS ss ws i d=([],[]):=by simp[OS,k]
 rw[l];refine(Cy a ss c j ws m _ _ w h r B t C v (by simpa using k)).J ?_;rintro e p ⟨rfl,s⟩;exact⟨none,0,none,0,z,⟨.inl z,.inl z,.inl z⟩,(λg o=>by cases o),(λg o=>by cases o),s⟩
