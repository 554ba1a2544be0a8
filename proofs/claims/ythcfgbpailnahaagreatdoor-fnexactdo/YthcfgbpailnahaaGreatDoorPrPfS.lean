import Derived.Test.YthcfgbpailnahaaGreatDoorPrG29
set_option maxHeartbeats 16000000
namespace Go.Proofs.YthcfgbpailnahaaGreatDoor
open Tryz
open Go.RowKit
set_option linter.all false
variable {ws:List (Int×ByteArray)}{ss:List ByteArray}{X b base c cv g n:Nat}{w:World}
theorem Gn{P:Program}{aI:Array Oper}{o:Oper}{a:Act}{K:Act->World->Prop}{Q:Exit->Act->World->Prop}{E:Prop}(aK:o.guard=none)(s x:Operand)(t:TypeId)
  (aN:o.op=.call { callee:=.builtin .append,args:=#[s,x],argTypes:=#[t,t] })
  (base:Nat)(e:TypeId)(i:TypeInfo)(z:Value)(size aA:Nat)(ht:P.underlying t=some (.slice e))(hi:P.info? e=some i)(hz:i.zero=some z)
  (aD:i.size=size)(aJ:i.bytes=aA)(aO:z.cells.size=size)
  (b:Nat)(hs:a.eval s=.slice (some ⟨b,0,none⟩) 0 0)
  (ad:Addr)(n c:Nat)(news:List Value)(hx:a.eval x=.slice (some ad) n c)(hl:news.length=n*size)(aC:∀j u,news[j]?=some u->w.cell? (ad.add j)=some u)(h1:∀u∈news,u.oneCell'=true)
  (hm:0<n)(aP:n<=1048576)(aE:n*aA<=140737488355328)(aB:base<=w.heap.size)(H:Nat)(hH:w.heap.size=H)
  (h:∀cap w',w'.ownsRow base e size (.slice (some ⟨H,0,none⟩) n cap) n news->w.grownBy w' none->K (a.put o.dst (.slice (some ⟨H,0,none⟩) n cap)) w'):if Region.wanted o (yielded aI a.tmps)=true then Oper.wp P o a w K Q else E:=by
 have hw:Region.wanted o (yielded aI a.tmps)=true:=by simp[Region.wanted,aK]
 rw[AK hw];subst aD aJ hH;have aH:Src P i.size t (.slice (some ad) n c) n news w:=Src.ofSlice w ht ad n c news hl aC h1;have aF:(Builtin.firstCells i.size 0 (.slice (some ⟨b,0,none⟩) 0 0)).run P w.drew=.ok ([]:List Value).toArray w.drew:=FR w.drew i.size 0 _ 0 0 [] (by simp) (by simp);have aG:=run_append_grow_src (P:=P) w t t o.type e i z ht hi hz (some ⟨b,0,none⟩) 0 0 [] aF (.slice (some ad) n c) n news aH (by omega) (by omega) (by rw[BF,mu n (by omega)];omega);unfold Oper.wp;simp[execOp,aN,resolve,invoke,builtin,hs,hx,aG,Result.andThen];have aL:=JI w n 0 e;have aM:=GZ w n 0 e (by unfold maxLen;omega);refine h _ _ ⟨hl,.inr ⟨w.heap.size,_,_,rfl,aB,AY w.drew _,aL,aM,?_,?_⟩⟩ (TN none ((AB _ _).drew.alloc (AA _) _))
 ·simp[KF,hl,aO]
  rw[<-Zb]
  congr 1
  omega
 simp[hl]
structure SV(w:World)(base X g n c b cv:Nat)(ss:List ByteArray)(ws:List (Int×ByteArray)):Prop where
 rx:Row w X [.slice (some ⟨g,0,none⟩) n c,.slice (some ⟨b,0,none⟩) ws.length cv]
 rs:Row w g (ss.map Value.string)
 pd:(ws=[]/\cv=0)\/(w.ownsRow base 158 2 (.slice (some ⟨b,0,none⟩) ws.length cv) ws.length (LU ws)/\b≠X/\b≠g)
 xg:X≠g
 bx:base<=X
 bg:base<=g
theorem SV.I{w':World}(h:SV w base X g n c b cv ss ws)(hb:Below w.heap.size w w'):SV w' base X g n c b cv ss ws :=⟨h.rx.I hb,h.rs.I hb,h.pd.imp id (λk=>⟨LY k.1 hb,k.2⟩),h.xg,h.bx,h.bg⟩
theorem SV.own(h:SV w base X g n c b cv ss ws):OwnS w (some ⟨b,0,none⟩) (LU ws)/\(LU ws≠[]->b≠g/\b≠X/\base<=b):=by
 rcases h.pd with ⟨rfl,_⟩|⟨k,k1,k2⟩
 ·exact⟨.inl rfl,λe=>absurd rfl e⟩
 rcases MM k with ⟨e,h0⟩|⟨g2,cap,e,hb,_,hr⟩
 ·cases e
 injection e with e1 e2 e3
 injection e1 with e1;injection e1 with e1;subst e1;exact⟨.inr ⟨b,rfl,hr⟩,λ_=>⟨k2,k1,hb⟩⟩
theorem SV.sync{w':World}{x:Nat}{aA:List ByteArray}(h:SV w base X g n c b cv ss ws)(hr:Row w' g (aA.map Value.string))(hg:w.grownBy w' (some g)):SV ((w'.setCell ⟨X,0,none⟩ (.slice (some ⟨g,0,none⟩) n c)).setCell ⟨X,1,none⟩ (.slice (some ⟨x,0,none⟩) 0 0)) base X g n c x 0 aA [] :=⟨((h.rx.z hg (λe=>h.xg (by injection e))).set 0 (by simp) _).set 1 (by simp) _,(hr.other _ h.xg _).other _ h.xg _,.inl ⟨rfl,rfl⟩,h.xg,h.bx,h.bg⟩
theorem SV.push{w3:World}{g9 cap:Nat}{x:Int×ByteArray}{row:Option Nat}(h:SV w base X g n c b cv ss ws)(aA:w3.ownsRow base 158 2 (.slice (some ⟨g9,0,none⟩) (ws.length+1) cap) (ws.length+1) (LU ws++[.int .i64 x.1,.string x.2]))(aB:w.grownBy w3 row)(hx:row≠some X)(hg:row≠some g)(h9:g9≠X)(aC:g9≠g):SV (w3.setCell ⟨X,1,none⟩ (.slice (some ⟨g9,0,none⟩) (ws.length+1) cap)) base X g n c g9 cap ss (ws++[x]):=by
 have e2:(ws++[x]).length=ws.length+1:=by simp
 have e3:LU (ws++[x])=LU ws++[.int .i64 x.1,.string x.2]:=by simp[LU]
 have hs:=aA.kept (w':=w3.setCell ⟨X,1,none⟩ (.slice (some ⟨g9,0,none⟩) (ws.length+1) cap)) (row:=some X) (MC (BH _ _) _ _) (.inr (λe=>h9 (by injection e)));refine⟨?_,(h.rs.z aB (λe=>hg e.symm)).other _ h.xg _,.inr ⟨?_,h9,aC⟩,h.xg,h.bx,h.bg⟩
 ·rw[e2];exact(h.rx.z aB (λe=>hx e.symm)).set 1 (by simp) _
 rw[e2,e3];exact hs
set_option maxRecDepth 100000 in
theorem Bp(a:Option Addr)(ss:List ByteArray)(c:Nat)(a':Option Addr)(ws:List (Int×ByteArray))(c':Nat)(f:Option Addr)(rs:List (Bool×Int×ByteArray))(cf:Nat)(z:Int)(w:World)(h:Strs w a ss)(h':Wrs w a' ws)(hz:Ops w f rs)(gD:rs.length<=1048576)(eZ:∀x∈rs,x.2.2.size<=1048576)(cS:LS ss ws=true):Calls prog 67 #[LN a ss.length c a' ws.length c',.slice f rs.length cf,.int .i64 z] w λe w'=>∃a1 c1 aN bC,e=.returned (LN a1 (NW (rs.take (PQ z rs.length)) (ss,ws)).1.length c1 aN (NW (rs.take (PQ z rs.length)) (ss,ws)).2.length bC)/\OwnD w' a1 (NW (rs.take (PQ z rs.length)) (ss,ws)).1 aN (NW (rs.take (PQ z rs.length)) (ss,ws)).2/\(∀g,blk a1 (NW (rs.take (PQ z rs.length)) (ss,ws)).1.length=some g->w.heap.size<=g)/\(∀g,blk aN (NW (rs.take (PQ z rs.length)) (ss,ws)).2.length=some g->w.heap.size<=g)/\Below w.heap.size w w':=by
 obtain⟨i0,dH,dR,dU,dV⟩:=XW ir;have HI:=LE (AG dH (AG dR (AG dU dV)));clear dH dR dU dV;obtain⟨⟨eS,eT,eV⟩,eE,hw⟩:=OZ cS
 have cJ:∀o1 o2,Below w.heap.size w ((w.alloc o1).alloc o2):=λo1 o2=>(LG _ _).alloc (by simp) _
 obtain⟨m,HM⟩:∃m,Hid (m=PQ z rs.length):=⟨_,LE rfl⟩;have gH:m<=rs.length:=by rw[HM.o];exact yf _ _
 have eR:Hid (m=rs.length\/((m:Int)<rs.length/\¬(m:Int)<z)):=by show _\/_;rw[HM.o];unfold PQ;omega
 have eQ:Hid (∀k:Nat,k<m->(k:Int)<z):=λk hk=>by rw[HM.o]at hk;unfold PQ at hk;omega
 rw[<-HM.o];obtain⟨RS,cE⟩:∃RS,Hid (RS=rs.take m):=⟨_,LE rfl⟩;have bE:RS.length=m:=by rw[cE.o];simp;omega
 rw[<-cE.o];obtain⟨aZ,aT⟩:∃aZ,Hid (aZ=NW RS (ss,ws)):=⟨_,LE rfl⟩;rw[<-aT.o];go_enter func67,ntmps67;go_wp2_with fail;refine(UT a ss c a' ws c' _ (h.I (cJ _ _)) (h'.I (cJ _ _)) (by omega) (by omega) (λs hs=>by have:=eE s hs;omega) (λx hx=>by have:=AZ (hw x hx);omega)).i ?_;rw[cS];rintro e w1 ⟨rfl,bT⟩;have cZ:=(cJ _ _).j (bT.i (by simp;omega));obtain⟨q1,q2⟩:=ZS bT;have rR:=(NT (w.alloc (.cells #[.slice a ss.length c,.slice a' ws.length c'] 44)) #[.slice none 0 0,.slice none 0 0] 44 (w.heap.size+1) (by simp)).I bT;have aI:=LE rR;have bP:=LE cZ;clear rR bT cZ;go_wp2_with fail;refine(ze a ss c a' ws c' _ (h.I bP.o) (h'.I bP.o) eT eV).i ?_;rintro e w2 ⟨g,c1,b,cv,rfl,bW,dF,eK,dM,bU⟩;clear q1 q2;have aY:=LE (aI.o.I bU);have fA:w.heap.size+1<w1.heap.size:=aI.o.lt;have eJ:=dF g (MI g 0 _ (by omega));have fV:g<w2.heap.size:=bW.s.lt ss.length (λ_=>nk (by omega)) g (MI g 0 _ (by omega))
 have dP:Row w2 g (ss.map Value.string):=by
  rcases bW.s with h0|⟨g',e,hr⟩
  ·exact absurd h0 (nk (by omega))
  injection e with e;injection e with e;rw[e];exact hr
 have fB:=bU.size
 have dQ:SV (w2.alloc (.cells #[.slice (some ⟨g,0,none⟩) ss.length c1,.slice (some ⟨b,0,none⟩) ws.length cv] 44)) (w.heap.size+1+1) w2.heap.size g ss.length c1 b cv ss ws:=by
  refine⟨ME _ _ _,dP.alloc _,?_,by omega,by omega,by omega⟩;rcases dM with k|k
  ·exact .inl k
  refine .inr ⟨(LY k.1 (MB _ _)).i (by omega),?_,?_⟩
  ·have:=(k.1.lt b rfl).2;omega
  intro e
  subst e;rcases bW.ne with h1|h1|h1
  ·rw[MI _ 0 _ (by omega)]at h1;cases h1
  ·rw[MI _ 0 _ k.2]at h1;cases h1
  rw[MI _ 0 _ (by omega),MI _ 0 _ k.2]at h1;exact h1 rfl
 have bJ:w.heap.size+1+1<=(w2.alloc (.cells #[.slice (some ⟨g,0,none⟩) ss.length c1,.slice (some ⟨b,0,none⟩) ws.length cv] 44)).heap.size:=by simp;omega
 have cF:=LE dQ;have cC:=LE (aY.o.alloc (.cells #[.slice (some ⟨g,0,none⟩) ss.length c1,.slice (some ⟨b,0,none⟩) ws.length cv] 44));have cA:=LE (Below.then (Below.then bP.o (AA _) bU) (AA _) (MB w2 (.cells #[.slice (some ⟨g,0,none⟩) ss.length c1,.slice (some ⟨b,0,none⟩) ws.length cv] 44)));have eC:=LE cS;clear dQ bW dF eK dM bU bP aI aY dP;go_wp2;obtain⟨wq,cY⟩:∃wq,wq=w2.alloc (.cells #[.slice (some ⟨g,0,none⟩) ss.length c1,.slice (some ⟨b,0,none⟩) ws.length cv] 44):=⟨_,rfl⟩;rw[<-cY]at cF cC cA bJ⊢;clear cY;go_loopw [8] (λi wr=>∃(k:Nat) (d:List ByteArray×List (Int×ByteArray)) (b cv:Nat),k<=m/\i=.int .i64 k/\d.1.length=ss.length/\Hid (LS d.1 d.2=true)/\Hid (NW (RS.drop k) d=aZ)/\Hid (SV wr (w.heap.size+1+1) w2.heap.size g ss.length c1 b cv d.1 d.2)/\Hid (Row wr (w.heap.size+1) [.slice none 0 0,.slice none 0 0])/\Hid (Below w.heap.size w wr)/\w.heap.size+1+1<=wr.heap.size) (λi _=>m-(intOf i).toNat)
 case atStart =>
  exact⟨0,(ss,ws),b,cv,AH _,rfl,rfl,eC,by show _=_;rw[DY,aT.o],cF,cC,cA,bJ⟩
 case round =>
  clear cF cC cA;obtain⟨k,d,b,cv,hk,rfl,bV,cW,HK,aA,aI,aL,cU⟩:=hrel;obtain⟨⟨gE,gF,gG⟩,eO,eP⟩:=OZ cW.o
  by_cases cP:k<m
  ·have eM:(k:Int)<z:=eQ.o k cP
   have aW:k<rs.length:=by omega
   obtain⟨bo,oo,s0,n1,s2,rfl,fU,cL,cM,HS⟩:=(hz.I aL.o).at aW;have cQ:(s0,n1,s2)∈rs:=by rw[HS.o];simp[List.getD,aW]
   have eW:s2.size<=1048576:=eZ _ cQ
   have gI:bo<w.heap.size:=by
    rcases hz with h0|⟨b9,o9,e9,l9,_⟩
    ·rw[h0]at aW;simp at aW
    injection e9 with e9;injection e9 with e9 _;rw[e9];exact l9
   have aM:Hid (NW (RS.drop (k+1)) (QJ d (s0,n1,s2))=aZ):=by
    show _=_;have e:RS.getD k (false,0,ByteArray.empty)=(s0,n1,s2):=by rw[HS.o,cE.o];simp[List.getD,FH,cP]
    rw[<-HK.o,RT RS k (false,0,ByteArray.empty) (by rw[bE];exact cP),e,NW]
   have aF:(QJ d (s0,n1,s2)).1.length=ss.length:=by rw[qH];exact bV
   have aE:Hid (LS (QJ d (s0,n1,s2)).1 (QJ d (s0,n1,s2)).2=true):=kt d _ cW.o;have x0:=aA.o.rx.x 0;have x1:=aA.o.rx.x 1;have fO:=aA.o.rx.lt;have fT:=aL.o.size
   cases s0 with
   | true =>
    rw[qN]at aM aF aE;have cX:=LE (jz g b d.1 c1 d.2 cv wr aA.o.rs aA.o.own.1 (λe=>(aA.o.own.2 e).1) (by omega) (by omega) (λx hx=>(ZE (eP x hx)).1));rw[bV]at cX;obtain⟨fG,fH⟩:=aA.o.rx.z2;go_wp2_with (go_at_call 111;refine cX.o.i ?_;rintro e w4 ⟨x,rfl,gK,fC,dN,aR⟩;have y0:=(aA.o.rx.z aR (λe=>aA.o.xg (by injection e))).x 0;have y1:=(aA.o.rx.z aR (λe=>aA.o.xg (by injection e))).x 1;have y2:=(aA.o.rx.z aR (λe=>aA.o.xg (by injection e))).q 0;have y3:=(aA.o.rx.z aR (λe=>aA.o.xg (by injection e))).q 1;have y4:=(aA.o.rx.z aR (λe=>aA.o.xg (by injection e))).lt);have cH:=LE (aA.o.sync (x:=x) dN aR);have b7:=LE (((NE aR cU (λk hk=>by cases hk;exact aA.o.bg)).setCell (p:=⟨w2.heap.size,0,none⟩) aA.o.bx (.slice (some ⟨g,0,none⟩) ss.length c1)).setCell (p:=⟨w2.heap.size,1,none⟩) aA.o.bx (.slice (some ⟨x,0,none⟩) 0 0))
    have gJ:=b7.o.size;clear dN aR y0 y1 y2 y3 y4;go_roundw
    case rel =>
     exact⟨k+1,_,x,0,by omega,by go_num,aF,aE,aM,cH,aI.o.lowB b7.o (by omega),aL.o.j (b7.o.i (by omega)),by omega⟩
    case measure =>
     simp[intOf];omega
   | false =>
    have bQ:=LE (λw'=>p9 (some ⟨g,0,none⟩) ss.length c1 (some ⟨b,0,none⟩) d.2.length cv n1 s2 w' eW (by omega))
    have aV:Hid (∀w',Below wr.heap.size wr w'->w'.cell? ⟨w2.heap.size,0,none⟩=some (.slice (some ⟨g,0,none⟩) ss.length c1)/\w'.cell? ⟨w2.heap.size,1,none⟩=some (.slice (some ⟨b,0,none⟩) d.2.length cv)/\w'.cell? ⟨bo,oo+k*3+1,none⟩=some (.int .i64 n1)/\w'.cell? ⟨bo,oo+k*3+2,none⟩=some (.string s2)):=λw' hb=>⟨(aA.o.I hb).rx.x 0,(aA.o.I hb).rx.x 1,(hb.cell (p:=⟨bo,oo+k*3+1,none⟩) (by show bo<_;omega)).j cL,(hb.cell (p:=⟨bo,oo+k*3+2,none⟩) (by show bo<_;omega)).j cM⟩
    have fW:(0:Int)<=(k:Int):=by omega
    have fX:(k:Int)<(rs.length:Int):=by omega
    cases hc:OI ss.length (n1,s2) with
    | false =>
     rw[jf d (n1,s2) (.inl (by rw[bV];exact hc))]at aM aF aE;rw[hc]at bQ;go_wp2_with fail;clear x0 x1 cL cM;refine AP (S:=λw'=>w'.cell? ⟨w2.heap.size,0,none⟩=some (.slice (some ⟨g,0,none⟩) ss.length c1)/\w'.cell? ⟨w2.heap.size,1,none⟩=some (.slice (some ⟨b,0,none⟩) d.2.length cv)/\w'.cell? ⟨bo,oo+k*3+1,none⟩=some (.int .i64 n1)/\w'.cell? ⟨bo,oo+k*3+2,none⟩=some (.string s2)) (by kernel_rfl) (aV.o _ (AB _ _).drew) (λaD=>?_);refine TY 0 (.agg #[.slice (some ⟨g,0,none⟩) ss.length c1,.slice (some ⟨b,0,none⟩) d.2.length cv]) rfl aD (TY 1 (.slice (some ⟨bo,oo,none⟩) rs.length cf) rfl aD (TY 2 (.int .i64 (k:Int)) rfl aD (TY 3 (.pointer (some ⟨bo,oo+k*3,none⟩)) rfl aD (TY 4 (.pointer (some ⟨bo,oo+k*3+1,none⟩)) rfl aD (TY 5 (.int .i64 n1) rfl aD (TY 6 (.slice (some ⟨bo,oo,none⟩) rs.length cf) rfl aD (TY 7 (.int .i64 (k:Int)) rfl aD (TY 8 (.pointer (some ⟨bo,oo+k*3,none⟩)) rfl aD (TY 9 (.pointer (some ⟨bo,oo+k*3+2,none⟩)) rfl aD (TY 10 (.string s2) rfl aD ?_))))))))))
     simp only[PS];refine RD 11 rfl (λK hK=>?_);refine LK (by rfl) 102 #[.agg #[.slice (some ⟨g,0,none⟩) ss.length c1,.slice (some ⟨b,0,none⟩) d.2.length cv],.int .i64 n1,.string s2] (by go_simp) (bQ.o _) ?_;rintro e w3 ⟨rfl,aP⟩;refine⟨_,rfl,?_⟩;refine hK.o _ _ (aV.o _ ((AB _ _).drew.j aP)) (λaC=>?_);clear hK K
     try simp only[PS]
     refine TY 12 (.bool false) rfl aC (TK 13 (undef) rfl (IQ ⟨by kernel_rfl,rfl⟩) aC (TK 14 (undef) rfl (IQ ⟨by kernel_rfl,rfl⟩) aC (TK 15 (undef) rfl (IQ ⟨by kernel_rfl,rfl⟩) aC (TK 16 (undef) rfl (IQ ⟨by kernel_rfl,rfl⟩) aC (TY 17 (.bool false) rfl aC ?_)))));simp only[PS];refine DN ?_;have aG:=LE ((AB wr.heap.size wr).drew.j aP);have eX:=aG.o.size;clear aD aP;go_wp2;go_roundw
     case rel =>
      exact⟨k+1,_,b,cv,by omega,by go_num,aF,aE,aM,aA.o.I aG.o,aI.o.I aG.o,Below.then aL.o (AA _) aG.o,by omega⟩
     case measure =>
      simp[intOf];omega
    | true =>
     rw[hc]at bQ
     by_cases dL:d.2.length<300
     focus
      have cO:(d.2.length:Int)<300:=by omega
      rw[qS d (n1,s2) (by rw[bV];exact hc) dL]at aM aF aE
     rotate_left
     focus
      have cO:¬(d.2.length:Int)<300:=by omega
      rw[jf d (n1,s2) (.inr dL)]at aM aF aE
     rotate_left
     all_goals
      go_wp2_with fail;clear x0 x1 cL cM;refine AP (S:=λw'=>w'.cell? ⟨w2.heap.size,0,none⟩=some (.slice (some ⟨g,0,none⟩) ss.length c1)/\w'.cell? ⟨w2.heap.size,1,none⟩=some (.slice (some ⟨b,0,none⟩) d.2.length cv)/\w'.cell? ⟨bo,oo+k*3+1,none⟩=some (.int .i64 n1)/\w'.cell? ⟨bo,oo+k*3+2,none⟩=some (.string s2)) (by kernel_rfl) (aV.o _ (AB _ _).drew) (λaD=>?_);refine TY 0 (.agg #[.slice (some ⟨g,0,none⟩) ss.length c1,.slice (some ⟨b,0,none⟩) d.2.length cv]) rfl aD (TY 1 (.slice (some ⟨bo,oo,none⟩) rs.length cf) rfl aD (TY 2 (.int .i64 (k:Int)) rfl aD (TY 3 (.pointer (some ⟨bo,oo+k*3,none⟩)) rfl aD (TY 4 (.pointer (some ⟨bo,oo+k*3+1,none⟩)) rfl aD (TY 5 (.int .i64 n1) rfl aD (TY 6 (.slice (some ⟨bo,oo,none⟩) rs.length cf) rfl aD (TY 7 (.int .i64 (k:Int)) rfl aD (TY 8 (.pointer (some ⟨bo,oo+k*3,none⟩)) rfl aD (TY 9 (.pointer (some ⟨bo,oo+k*3+2,none⟩)) rfl aD (TY 10 (.string s2) rfl aD ?_))))))))))
      simp only[PS];refine RD 11 rfl (λK hK=>?_);refine LK (by rfl) 102 #[.agg #[.slice (some ⟨g,0,none⟩) ss.length c1,.slice (some ⟨b,0,none⟩) d.2.length cv],.int .i64 n1,.string s2] (by go_simp) (bQ.o _) ?_;rintro e w3 ⟨rfl,aP⟩;refine⟨_,rfl,?_⟩;refine hK.o _ _ (aV.o _ ((AB _ _).drew.j aP)) (λaC=>?_);clear hK K
      try simp only[PS]
      refine TY 12 (.bool true) rfl aC (TY 13 (.pointer (some ⟨w2.heap.size,1,none⟩)) rfl aC (TY 14 (.slice (some ⟨b,0,none⟩) d.2.length cv) rfl aC (TY 15 (.int .i64 (d.2.length:Int)) rfl aC ?_)));simp only[PS]
     focus
      refine TY 16 (.bool true) rfl aC (TY 17 (.bool true) rfl aC ?_)
     rotate_left
     focus
      refine TY 16 (.bool false) rfl aC (TY 17 (.bool false) rfl aC ?_)
     rotate_left
     all_goals
      simp only[PS];refine DN ?_;have aG:=LE ((AB wr.heap.size wr).drew.j aP);have eX:=aG.o.size
     ·have eS:=(aV.o _ aG.o).2.2.1
      have eU:=(aV.o _ aG.o).2.2.2;have eG:=(aA.o.I aG.o).rx.x 1;have fI:=(aA.o.I aG.o).rx.q 1;have eH:=(aA.o.I aG.o).rx.lt;have eL:=(aA.o.I aG.o).rs.lt;clear aD aP;go_wp2_with fail;have aH:=LE ((aA.o.I aG.o).I (((AB w3.heap.size w3).drew).alloc (AA _) (.cells #[.int .i64 n1,.string s2] 158)));rcases aH.o.pd with hE|hO
      ·have eF:Hid (d.2=[]/\cv=0):=hE
       obtain⟨cN,eI⟩:=eF.o;have eB:=LE cN;have bF:d.2.length=0:=by rw[cN];rfl
       clear hE cN;subst eI;rw[bF]at eG⊢
       go_region_law (first|(refine Gn (by rfl) _ _ _ (by rfl) (w.heap.size+1+1) 158 i0 _ 2 24 underlying42 HI.o.1 HI.o.2.1 HI.o.2.2.1 HI.o.2.2.2 (by kernel_rfl) b (by rfl) ⟨w3.heap.size,0,none⟩ 1 1 [.int .i64 n1,.string s2] (by rfl) (by simp) (World.news_of_block (AY w3.drew (.cells #[.int .i64 n1,.string s2] 158))) (λu hu=>by simp at hu;rcases hu with rfl|rfl<;>rfl) (by omega) (by omega) (by omega) (by simp;omega) (w3.heap.size+1) (by simp) ?_;intro cap w5 aK aB;have q4:=(aH.o.rx.z aB (by simp)).x 1;have q5:=(aH.o.rx.z aB (by simp)).q 1;have q6:=(aH.o.rx.z aB (by simp)).lt;have cB:=LE aK;have aX:=LE aB;clear aK aB))
       all_goals
        have aJ:Hid (SV (w5.setCell ⟨w2.heap.size,1,none⟩ (.slice (some ⟨(w3.heap.size+1),0,none⟩) 1 cap)) (w.heap.size+1+1) w2.heap.size g ss.length c1 (w3.heap.size+1) cap d.1 (d.2++[(n1,s2)])):=by
         have e:=aH.o.push (g9:=(w3.heap.size+1)) (cap:=cap) (row:=none) (x:=(n1,s2)) (by rw[eB.o];exact cB.o) aX.o (by simp) (by simp) (by omega) (by omega);rw[bF]at e;exact e
        have aS:Hid (Below (w.heap.size+1+1) wr w5):=(aG.o.i cU).j ((((AB w3.heap.size w3).drew.alloc (AA _) (.cells #[.int .i64 n1,.string s2] 158)).i (by omega)).j (NE aX.o (by simp;omega) (λk hk=>by cases hk)));have eY:=aS.o.size;go_wp2;go_roundw
        case rel=>exact⟨k+1,(d.1,d.2++[(n1,s2)]),(w3.heap.size+1),cap,by omega,by go_num,aF,aE,aM,aJ,aI.o.lowB (aS.o.setCell (p:=⟨w2.heap.size,1,none⟩) aH.o.bx _) (by omega),aL.o.j ((aS.o.setCell (p:=⟨w2.heap.size,1,none⟩) aH.o.bx _).i (by omega)),by simp;omega⟩
        case measure=>simp[intOf];omega
      have aO:=LE hO
      clear hO
      go_region_law (first|(refine step_append_lies _ (by rfl) _ _ _ (by rfl) (w.heap.size+1+1) 158 i0 _ 2 24 underlying42 HI.o.1 HI.o.2.1 HI.o.2.2.1 HI.o.2.2.2 (by kernel_rfl) (by omega) (.slice (some ⟨b,0,none⟩) d.2.length cv) d.2.length (LU d.2) (by rfl) aO.o.1 ⟨w3.heap.size,0,none⟩ 1 1 [.int .i64 n1,.string s2] (by rfl) (by simp) (World.news_of_block (AY w3.drew (.cells #[.int .i64 n1,.string s2] 158))) (λu hu=>by simp at hu;rcases hu with rfl|rfl<;>rfl) (by omega) (by unfold maxLen;omega) (by omega) (by simp;omega) (w3.heap.size+1) (by simp) ?_;intro g9 cap w5 aK aB dB eN;have q4:=(aH.o.rx.z aB (λe=>aO.o.2.1 (by injection e with e;exact e.symm))).x 1;have q5:=(aH.o.rx.z aB (λe=>aO.o.2.1 (by injection e with e;exact e.symm))).q 1;have q6:=(aH.o.rx.z aB (λe=>aO.o.2.1 (by injection e with e;exact e.symm))).lt;have cB:=LE aK;have aX:=LE aB;have cV:=LE dB;clear aK aB dB))
      all_goals
       have aJ:Hid (SV (w5.setCell ⟨w2.heap.size,1,none⟩ (.slice (some ⟨g9,0,none⟩) (d.2.length+1) cap)) (w.heap.size+1+1) w2.heap.size g ss.length c1 g9 cap d.1 (d.2++[(n1,s2)])):=by
        have e:=aH.o.push (g9:=g9) (cap:=cap) (row:=some b) (x:=(n1,s2)) cB.o aX.o (λe=>aO.o.2.1 (by injection e)) (λe=>aO.o.2.2 (by injection e)) (by have h1:=cV.o;have h2:=aO.o.2.1;simp[Value.ownBlock]at h1;omega) (by have h1:=cV.o;have h2:=aO.o.2.2;simp[Value.ownBlock]at h1;omega);exact e
       have aS:Hid (Below (w.heap.size+1+1) wr w5):=(aG.o.i cU).j ((((AB w3.heap.size w3).drew.alloc (AA _) (.cells #[.int .i64 n1,.string s2] 158)).i (by omega)).j (NE aX.o (by simp;omega) (λk hk=>(aO.o.1.lt k hk).1)));have eY:=aS.o.size;go_wp2;go_roundw
       case rel=>exact⟨k+1,(d.1,d.2++[(n1,s2)]),g9,cap,by omega,by go_num,aF,aE,aM,aJ,aI.o.lowB (aS.o.setCell (p:=⟨w2.heap.size,1,none⟩) aH.o.bx _) (by omega),aL.o.j ((aS.o.setCell (p:=⟨w2.heap.size,1,none⟩) aH.o.bx _).i (by omega)),by simp;omega⟩
       case measure=>simp[intOf];omega
     clear aD aP
     go_wp2;go_roundw
     case rel =>
      exact⟨k+1,_,b,cv,by omega,by go_num,aF,aE,aM,aA.o.I aG.o,aI.o.I aG.o,Below.then aL.o (AA _) aG.o,by omega⟩
     case measure =>
      simp[intOf];omega
  have fY:k=m:=by omega
  have cT:Hid (d=aZ):=by
   have:=HK.o;rw[CX (by rw[bE];omega)]at this;exact this
  clear HK aT;obtain rfl:=cT.o;have q0:=aA.o.rx.x 0;have q1:=aA.o.rx.x 1;have r0:=aI.o.x 0;have r1:=aI.o.x 1;obtain⟨fE,fF⟩:=aI.o.z2;have fZ:=aI.o.lt;have fS:=aL.o.size;have fJ:=aA.o.xg;have fQ:=aA.o.bg
  have bI:∃a1 bC aN cI,LN (some ⟨g,0,none⟩) ss.length c1 (some ⟨b,0,none⟩) d.2.length cv=LN a1 ss.length bC aN d.2.length cI/\OwnD ((wr.setCell ⟨w.heap.size+1,0,none⟩ (.slice (some ⟨g,0,none⟩) ss.length c1)).setCell ⟨w.heap.size+1,1,none⟩ (.slice (some ⟨b,0,none⟩) d.2.length cv)) a1 d.1 aN d.2/\(∀g,blk a1 ss.length=some g->w.heap.size<=g)/\(∀g,blk aN d.2.length=some g->w.heap.size<=g):=by
   have ho:=aA.o.own;refine⟨_,_,_,_,rfl,⟨.inr ⟨g,rfl,(aA.o.rs.other _ (by show w.heap.size+1≠g;omega) _).other _ (by show w.heap.size+1≠g;omega) _⟩,(ho.1.setp _ (λg3 e3 aU e=>?_) _).setp _ (λg3 e3 aU e=>?_) _,?_⟩,λg' aQ=>?_,λg' aQ=>?_⟩
   ·have:=ho.2 aU;injection e3 with e3;injection e3 with e3;have e':w.heap.size+1=g3:=e;omega
   ·have:=ho.2 aU;injection e3 with e3;injection e3 with e3;have e':w.heap.size+1=g3:=e;omega
   ·by_cases h0:d.2.length=0
    ·exact .inr (.inl (by simp[blk,h0]))
    have aU:LU d.2≠[]:=λe=>h0 (by have:=BT List.length e;rw[SZ,AR]at this;omega)
    refine .inr (.inr (λe=>?_));rw[MI g 0 _ (by omega),MI b 0 _ h0]at e;injection e with e;exact(ho.2 aU).1 e.symm
   ·have:=MI g 0 ss.length (by omega);rw[this]at aQ;injection aQ with aQ;omega
   by_cases h0:d.2.length=0
   ·simp[blk,h0]at aQ
   have aU:LU d.2≠[]:=λe=>h0 (by have:=BT List.length e;rw[SZ,AR]at this;omega)
   rw[MI b 0 _ h0]at aQ;injection aQ with aQ;have:=(ho.2 aU).2.2;omega
  have aJ:=LE bI;have dZ:=LE ((aL.o.setCell (p:=⟨w.heap.size+1,0,none⟩) (by show w.heap.size<=w.heap.size+1;omega) (.slice (some ⟨g,0,none⟩) ss.length c1)).setCell (p:=⟨w.heap.size+1,1,none⟩) (by show w.heap.size<=w.heap.size+1;omega) (.slice (some ⟨b,0,none⟩) d.2.length cv));clear bI;rcases eR.o with hx|⟨hx,fC⟩
  focus
   have aW:¬(k:Int)<(rs.length:Int):=by omega
  rotate_left
  focus
   have aW:(k:Int)<(rs.length:Int):=by omega
   have eM:¬(k:Int)<z:=by omega
  rotate_left
  all_goals
   go_wp2;refine AJ (v:=LN (some ⟨g,0,none⟩) ss.length c1 (some ⟨b,0,none⟩) d.2.length cv) (by simp[results,results67,go_sem,r0,r1]) rfl ?_;obtain⟨a1,bC,aN,cI,e1,e2,e3,e4⟩:=aJ.o;exact⟨a1,bC,aN,⟨cI,by rw[e1]⟩,e2,e3,e4,dZ.o⟩
theorem sC(a:Option Addr)(ss:List ByteArray)(c:Nat)(a':Option Addr)(ws:List (Int×ByteArray))(c':Nat)(v z:Value)(w:World)(h:Strs w a ss)(h':Wrs w a' ws)(hl:ss.length<=1048576)(aD:ws.length<=1048576)(hs:∀s∈ss,s.size<=1048576)(aF:∀x∈ws,x.2.size<=1048576)(aE:LS ss ws=false):Calls prog 67 #[LN a ss.length c a' ws.length c',v,z] w λe w'=>e=.returned (LN none 0 0 none 0 0)/\Below w.heap.size w w':=by
 have aA:∀o1 o2,Below w.heap.size w ((w.alloc o1).alloc o2):=λo1 o2=>(LG _ _).alloc (by simp) _
 go_enter func67,ntmps67;go_wp2_with fail;refine(UT a ss c a' ws c' _ (h.I (aA _ _)) (h'.I (aA _ _)) hl aD hs aF).i ?_;rw[aE];rintro e w1 ⟨rfl,aB⟩;have aC:=LE ((aA _ _).j (aB.i (by simp;omega)));have rR:=(NT (w.alloc (.cells #[.slice a ss.length c,.slice a' ws.length c'] 44)) #[.slice none 0 0,.slice none 0 0] 44 (w.heap.size+1) (by simp)).I aB;have r0:=rR.x 0;have r1:=rR.x 1;obtain⟨aG,aH⟩:=rR.z2;clear rR aB;go_wp2;exact AJ (v:=LN none 0 0 none 0 0) (by simp[results,results67,go_sem,r0,r1]) rfl ⟨rfl,(aC.o.setCell (by show w.heap.size<=w.heap.size+1;omega) _).setCell (by show w.heap.size<=w.heap.size+1;omega) _⟩
theorem yP(a:Option Addr)(ss:List ByteArray)(c:Nat)(a':Option Addr)(ws:List (Int×ByteArray))(c':Nat)(f:Option Addr)(rs:List (Bool×Int×ByteArray))(cf:Nat)(z:Int)(w:World)(h:Strs w a ss)(h':Wrs w a' ws)(hz:Ops w f rs)(aE:rs.length<=1048576)(aG:∀x∈rs,x.2.2.size<=1048576)(hl:ss.length<=1048576)(aD:ws.length<=1048576)(hs:∀s∈ss,s.size<=1048576)(aF:∀x∈ws,x.2.size<=1048576):Calls prog 67 #[LN a ss.length c a' ws.length c',.slice f rs.length cf,.int .i64 z] w λe w'=>∃a1 c1 aB aC,e=.returned (LN a1 (NU ss ws rs z).1.length c1 aB (NU ss ws rs z).2.length aC)/\OwnD w' a1 (NU ss ws rs z).1 aB (NU ss ws rs z).2/\(∀g,blk a1 (NU ss ws rs z).1.length=some g->w.heap.size<=g)/\(∀g,blk aB (NU ss ws rs z).2.length=some g->w.heap.size<=g)/\Below w.heap.size w w':=by
 by_cases aA:LS ss ws=true
 ·have e1:NU ss ws rs z=NW (rs.take (PQ z rs.length)) (ss,ws):=by simp[NU,aA]
  rw[e1];exact Bp a ss c a' ws c' f rs cf z w h h' hz aE aG aA
 have e1:NU ss ws rs z=([],[]):=by simp[NU,aA]
 rw[e1];refine(sC a ss c a' ws c' _ _ w h h' hl aD hs aF (by simpa using aA)).i ?_;rintro e w' ⟨rfl,hb⟩;exact⟨none,0,none,0,rfl,⟨.inl rfl,.inl rfl,.inl rfl⟩,(λg hg=>by cases hg),(λg hg=>by cases hg),hb⟩
