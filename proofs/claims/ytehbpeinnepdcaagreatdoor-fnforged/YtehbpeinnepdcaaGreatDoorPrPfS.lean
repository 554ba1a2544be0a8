import Derived.Test.YtehbpeinnepdcaaGreatDoorPrG53
set_option maxHeartbeats 16000000
namespace Go.Proofs.YtehbpeinnepdcaaGreatDoor
open Go.RowKit
set_option linter.unusedVariables false
set_option linter.unusedSimpArgs false
theorem yX3 {P:Program} {aI:Array Oper} {o:Oper} {a:Act} {w:World} {K:Act->World->Prop} {Q:Exit->Act->World->Prop} {E:Prop} (aK:o.guard=none) (s x:Operand) (t:TypeId)
  (aN:o.op=.call { callee:=.builtin .append,args:=#[s,x],argTypes:=#[t,t] })
  (base:Nat) (e:TypeId) (i:TypeInfo) (z:Value) (size aA:Nat) (ht:P.underlying t=some (.slice e)) (hi:P.info? e=some i) (hz:i.zero=some z)
  (aD:i.size=size) (aJ:i.bytes=aA) (aO:z.cells.size=size)
  (b:Nat) (hs:a.eval s=.slice (some ⟨b,0,none⟩) 0 0)
  (ad:Addr) (n c:Nat) (news:List Value) (hx:a.eval x=.slice (some ad) n c) (hl:news.length=n*size) (aC:∀ j u,news[j]?=some u->w.cell? (ad.add j)=some u) (h1:∀ u∈news,u.oneCell'=true)
  (hm:0<n) (aP:n<=1048576) (aE:n*aA<=140737488355328) (aB:base<=w.heap.size) (H:Nat) (hH:w.heap.size=H)
  (h:∀ cap w',w'.ownsRow base e size (.slice (some ⟨H,0,none⟩) n cap) n news->w.grownBy w' none->K (a.put o.dst (.slice (some ⟨H,0,none⟩) n cap)) w') :
  if Region.wanted o (yielded aI a.tmps)=true then Oper.wp P o a w K Q else E:=by
 have hw:Region.wanted o (yielded aI a.tmps)=true:=by simp [Region.wanted,aK]
 rw [if_pos hw];subst aD aJ hH;have aH:Src P i.size t (.slice (some ad) n c) n news w:=Src.ofSlice w ht ad n c news hl aC h1;have aF:(Builtin.firstCells i.size 0 (.slice (some ⟨b,0,none⟩) 0 0)).run P w.drew=.ok ([]:List Value).toArray w.drew:=run_firstCells_some w.drew i.size 0 _ 0 0 [] (by simp) (by simp);have aG:=run_append_grow_src (P:=P) w t t o.type e i z ht hi hz (some ⟨b,0,none⟩) 0 0 [] aF (.slice (some ad) n c) n news aH (by omega) (by omega) (by rw [Nat.zero_add,nsc n (by omega)];omega);unfold Oper.wp;simp [execOp,aN,resolve,invoke,builtin,hs,hx,aG,Result.andThen];have aL:=grownCap_ge w n 0 e;have aM:=grownCap_le_maxLen w n 0 e (by unfold maxLen;omega);refine h _ _ ⟨hl,.inr ⟨w.heap.size,_,_,rfl,aB,heap_alloc_new w.drew _,aL,aM,?_,?_⟩⟩ (Qbp none ((Below.refl _ _).drew.alloc (Nat.le_refl _) _))
 ·simp [size_zeroCells,hl,aO]
  rw [<-Nat.add_mul]
  congr 1
  omega
 ·simp [hl]
structure SV (w:World) (base X g n c b cv:Nat) (ss:List ByteArray) (ws:List (Int×ByteArray)):Prop where
 rx:Row w X [.slice (some ⟨g,0,none⟩) n c,.slice (some ⟨b,0,none⟩) ws.length cv]
 rs:Row w g (ss.map Value.string)
 pd:(ws=[]/\cv=0)\/(w.ownsRow base 74 2 (.slice (some ⟨b,0,none⟩) ws.length cv) ws.length (yaV ws)/\b≠X/\b≠g)
 xg:X≠g
 bx:base<=X
 bg:base<=g
theorem SV.below {w w':World} {base X g n c b cv:Nat} {ss:List ByteArray} {ws:List (Int×ByteArray)} (h:SV w base X g n c b cv ss ws) (hb:Below w.heap.size w w'):SV w' base X g n c b cv ss ws :=
 ⟨h.rx.below hb,h.rs.below hb,h.pd.imp id (fun k=>⟨jcb k.1 hb,k.2⟩),h.xg,h.bx,h.bg⟩
theorem SV.own {w:World} {base X g n c b cv:Nat} {ss:List ByteArray} {ws:List (Int×ByteArray)} (h:SV w base X g n c b cv ss ws):OwnS w (some ⟨b,0,none⟩) (yaV ws)/\(yaV ws≠[]->b≠g/\b≠X/\base<=b):=by
 rcases h.pd with ⟨rfl,_⟩ | ⟨k,k1,k2⟩
 ·exact ⟨.inl rfl,fun e=>absurd rfl e⟩
 ·rcases yUO k with ⟨e,h0⟩ | ⟨g2,cap,e,hb,_,hr⟩
  ·cases e
  ·injection e with e1 e2 e3
   injection e1 with e1;injection e1 with e1;subst e1;exact ⟨.inr ⟨b,rfl,hr⟩,fun _=>⟨k2,k1,hb⟩⟩
theorem SV.sync {w w':World} {base X g n c b cv x:Nat} {ss aA:List ByteArray} {ws:List (Int×ByteArray)} (h:SV w base X g n c b cv ss ws) (hr:Row w' g (aA.map Value.string)) (hg:w.grownBy w' (some g)) :
  SV ((w'.setCell ⟨X,0,none⟩ (.slice (some ⟨g,0,none⟩) n c)).setCell ⟨X,1,none⟩ (.slice (some ⟨x,0,none⟩) 0 0)) base X g n c x 0 aA [] :=
 ⟨((h.rx.grown hg (fun e=>h.xg (by injection e))).set 0 (by simp) _).set 1 (by simp) _,(hr.other _ h.xg _).other _ h.xg _,.inl ⟨rfl,rfl⟩,h.xg,h.bx,h.bg⟩
theorem SV.push {w w3:World} {base X g n c b cv g9 cap:Nat} {ss:List ByteArray} {ws:List (Int×ByteArray)} {x:Int×ByteArray} {row:Option Nat} (h:SV w base X g n c b cv ss ws) (aA:w3.ownsRow base 74 2 (.slice (some ⟨g9,0,none⟩) (ws.length+1) cap) (ws.length+1) (yaV ws++[.int .i64 x.1,.string x.2])) (aB:w.grownBy w3 row) (hx:row≠some X) (hg:row≠some g) (h9:g9≠X) (aC:g9≠g) :
  SV (w3.setCell ⟨X,1,none⟩ (.slice (some ⟨g9,0,none⟩) (ws.length+1) cap)) base X g n c g9 cap ss (ws++[x]):=by
 have e2:(ws++[x]).length=ws.length+1:=by simp
 have e3:yaV (ws++[x])=yaV ws++[.int .i64 x.1,.string x.2]:=by simp [yaV]
 have hs:=aA.kept (w':=w3.setCell ⟨X,1,none⟩ (.slice (some ⟨g9,0,none⟩) (ws.length+1) cap)) (row:=some X) (y09 (World.grownBy.refl _ _) _ _) (.inr (fun e=>h9 (by injection e)));refine ⟨?_,(h.rs.grown aB (fun e=>hg e.symm)).other _ h.xg _,.inr ⟨?_,h9,aC⟩,h.xg,h.bx,h.bg⟩
 ·rw [e2];exact (h.rx.grown aB (fun e=>hx e.symm)).set 1 (by simp) _
 ·rw [e2,e3];exact hs
set_option maxRecDepth 100000 in
theorem q07 (a:Option Addr) (ss:List ByteArray) (c:Nat) (a':Option Addr) (ws:List (Int×ByteArray)) (c':Nat) (f:Option Addr) (rs:List (Bool×Int×ByteArray)) (cf:Nat) (z:Int) (w:World) (h:Strs w a ss) (h':Wrs w a' ws) (hz:Ops w f rs) (fY:rs.length<=1048576) (eX:∀ x∈rs,x.2.2.size<=1048576) (cS:vlG ss ws=true) :
  Calls Tryz.prog 77 #[Zoj a ss.length c a' ws.length c',.slice f rs.length cf,.int .i64 z] w fun e w'=>∃ a1 c1 aK aV,e=.returned (Zoj a1 (JKX (rs.take (pfN z rs.length)) (ss,ws)).1.length c1 aK (JKX (rs.take (pfN z rs.length)) (ss,ws)).2.length aV)/\OwnD w' a1 (JKX (rs.take (pfN z rs.length)) (ss,ws)).1 aK (JKX (rs.take (pfN z rs.length)) (ss,ws)).2/\(∀ g,blk a1 (JKX (rs.take (pfN z rs.length)) (ss,ws)).1.length=some g->w.heap.size<=g)/\(∀ g,blk aK (JKX (rs.take (pfN z rs.length)) (ss,ws)).2.length=some g->w.heap.size<=g)/\Below w.heap.size w w':=by
 obtain ⟨i0,dK,dU,dV,dY⟩:=info_parts' yGS;have HI:=hid (And.intro dK (And.intro dU (And.intro dV dY)));clear dK dU dV dY;obtain ⟨⟨eR,eS,eU⟩,eC,hw⟩:=q67 cS
 have cM:∀ o1 o2,Below w.heap.size w ((w.alloc o1).alloc o2):=fun o1 o2=>((Below.refl _ _).alloc (Nat.le_refl _) _).alloc (by simp) _
 obtain ⟨m,HM⟩:∃ m,Hid (m=pfN z rs.length):=⟨_,hid rfl⟩;have gF:m<=rs.length:=by rw [HM.out];exact k1Q _ _
 have eQ:Hid (m=rs.length\/((m:Int)<rs.length/\¬ (m:Int)<z)):=by show _\/_;rw [HM.out];unfold pfN;omega
 have eP:Hid (∀ k:Nat,k<m->(k:Int)<z):=fun k hk=>by rw [HM.out] at hk;unfold pfN at hk;omega
 rw [<-HM.out];obtain ⟨RS,cJ⟩:∃ RS,Hid (RS=rs.take m):=⟨_,hid rfl⟩;have bI:RS.length=m:=by rw [cJ.out];simp;omega
 rw [<-cJ.out];obtain ⟨bG,aU⟩:∃ bG,Hid (bG=JKX RS (ss,ws)):=⟨_,hid rfl⟩;rw [<-aU.out];go_enter Tryz.func77,Tryz.ntmps77;go_wp2_with fail;refine (xpE a ss c a' ws c' _ (h.below (cM _ _)) (h'.below (cM _ _)) (by omega) (by omega) (fun s hs=>by have:=eC s hs;omega) (fun x hx=>by have:=of_decide_eq_true (hw x hx);omega)).mono ?_;rw [cS];rintro e w1 ⟨rfl,bW⟩;have dH:=(cM _ _).trans (bW.mono (by simp;omega));obtain ⟨q1,q2⟩:=y6s bW;have rR:=(kR4 (w.alloc (.cells #[.slice a ss.length c,.slice a' ws.length c'] 26)) #[.slice none 0 0,.slice none 0 0] 26 (w.heap.size+1) (by simp)).below bW;have aJ:=hid rR;have bV:=hid dH;clear rR bW dH;go_wp2_with fail;refine (copy_s2 a ss c a' ws c' _ (h.below bV.out) (h'.below bV.out) eS eU).mono ?_;rintro e w2 ⟨g,c1,b,cv,rfl,cC,dJ,eJ,dM,bY⟩;clear q1 q2;have bC:=hid (aJ.out.below bY);have eY:w.heap.size+1<w1.heap.size:=aJ.out.lt;have eI:=dJ g (qdd g 0 _ (by omega));have fT:g<w2.heap.size:=cC.s.lt ss.length (fun _=>qXV (by omega)) g (qdd g 0 _ (by omega))
 have dO:Row w2 g (ss.map Value.string):=by
  rcases cC.s with h0 | ⟨g',e,hr⟩
  ·exact absurd h0 (qXV (by omega))
  ·injection e with e;injection e with e;rw [e];exact hr
 have eZ:=bY.size
 have dR:SV (w2.alloc (.cells #[.slice (some ⟨g,0,none⟩) ss.length c1,.slice (some ⟨b,0,none⟩) ws.length cv] 26)) (w.heap.size+1+1) w2.heap.size g ss.length c1 b cv ss ws:=by
  refine ⟨xER _ _ _,dO.alloc _,?_,by omega,by omega,by omega⟩;rcases dM with k | k
  ·exact .inl k
  ·refine .inr ⟨(jcb k.1 (zE5 _ _)).mono (by omega),?_,?_⟩
   ·have:=(k.1.lt b rfl).2;omega
   ·intro e
    subst e;rcases cC.ne with h1 | h1 | h1
    ·rw [qdd _ 0 _ (by omega)] at h1;cases h1
    ·rw [qdd _ 0 _ k.2] at h1;cases h1
    ·rw [qdd _ 0 _ (by omega),qdd _ 0 _ k.2] at h1;exact h1 rfl
 have bU:w.heap.size+1+1<=(w2.alloc (.cells #[.slice (some ⟨g,0,none⟩) ss.length c1,.slice (some ⟨b,0,none⟩) ws.length cv] 26)).heap.size:=by simp;omega
 have cK:=hid dR;have cI:=hid (bC.out.alloc (.cells #[.slice (some ⟨g,0,none⟩) ss.length c1,.slice (some ⟨b,0,none⟩) ws.length cv] 26));have cF:=hid (Below.then (Below.then bV.out (Nat.le_refl _) bY) (Nat.le_refl _) (zE5 w2 (.cells #[.slice (some ⟨g,0,none⟩) ss.length c1,.slice (some ⟨b,0,none⟩) ws.length cv] 26)));have eB:=hid cS;clear dR cC dJ eJ dM bY bV aJ bC dO;go_wp2;obtain ⟨wq,dE⟩:∃ wq,wq=w2.alloc (.cells #[.slice (some ⟨g,0,none⟩) ss.length c1,.slice (some ⟨b,0,none⟩) ws.length cv] 26):=⟨_,rfl⟩;rw [<-dE] at cK cI cF bU ⊢;clear dE;go_loopw [8] (fun i wr=>∃ (k:Nat) (d:List ByteArray×List (Int×ByteArray)) (b cv:Nat),k<=m/\i=.int .i64 k/\d.1.length=ss.length/\Hid (vlG d.1 d.2=true)/\Hid (JKX (RS.drop k) d=bG)/\Hid (SV wr (w.heap.size+1+1) w2.heap.size g ss.length c1 b cv d.1 d.2)/\Hid (Row wr (w.heap.size+1) [.slice none 0 0,.slice none 0 0])/\Hid (Below w.heap.size w wr)/\w.heap.size+1+1<=wr.heap.size) (fun i _=>m-(intOf i).toNat)
 case atStart=>exact ⟨0,(ss,ws),b,cv,Nat.zero_le _,rfl,rfl,eB,by show _=_;rw [List.drop_zero,aU.out],cK,cI,cF,bU⟩
 case round =>
  clear cK cI cF;obtain ⟨k,d,b,cv,hk,rfl,b8,cY,HK,aC,aJ,aN,cU⟩:=hrel;obtain ⟨⟨fZ,gD,gE⟩,eN,eO⟩:=q67 cY.out
  by_cases cP:k<m
  ·have eL:(k:Int)<z:=eP.out k cP
   have aX:k<rs.length:=by omega
   obtain ⟨bo,oo,s0,n1,s2,rfl,fS,bZ,b7,HS⟩:=(hz.below aN.out).at aX;have cQ:(s0,n1,s2)∈rs:=by rw [HS.out];simp [List.getD,aX]
   have eV:s2.size<=1048576:=eX _ cQ
   have gG:bo<w.heap.size:=by
    rcases hz with h0 | ⟨b9,o9,e9,l9,_⟩
    ·rw [h0] at aX;simp at aX
    ·injection e9 with e9;injection e9 with e9 _;rw [e9];exact l9
   have aO:Hid (JKX (RS.drop (k+1)) (opD d (s0,n1,s2))=bG):=by
    show _=_;have e:RS.getD k (false,0,ByteArray.empty)=(s0,n1,s2):=by rw [HS.out,cJ.out];simp [List.getD,List.getElem?_take,cP]
    rw [<-HK.out,JGy RS k (false,0,ByteArray.empty) (by rw [bI];exact cP),e,JKX]
   have aG:(opD d (s0,n1,s2)).1.length=ss.length:=by rw [zKN];exact b8
   have aF:Hid (vlG (opD d (s0,n1,s2)).1 (opD d (s0,n1,s2)).2=true):=ZO0 d _ cY.out;have x0:=aC.out.rx.cell 0 _ rfl;have x1:=aC.out.rx.cell 1 _ rfl;have fI:=aC.out.rx.lt;have fQ:=aN.out.size
   cases s0 with
   | true =>
    rw [zSd] at aO aG aF;have cZ:=hid (sync_s g b d.1 c1 d.2 cv wr aC.out.rs aC.out.own.1 (fun e=>(aC.out.own.2 e).1) (by omega) (by omega) (fun x hx=>(Zc1 (eO x hx)).1));rw [b8] at cZ;obtain ⟨fE,fF⟩:=aC.out.rx.z2;go_wp2_with (go_at_call 101;refine cZ.out.mono ?_;rintro e w4 ⟨x,rfl,gI,fA,dN,aS⟩;have y0:=(aC.out.rx.grown aS (fun e=>aC.out.xg (by injection e))).cell 0 _ rfl;have y1:=(aC.out.rx.grown aS (fun e=>aC.out.xg (by injection e))).cell 1 _ rfl;have y2:=(aC.out.rx.grown aS (fun e=>aC.out.xg (by injection e))).froz 0 (by simp);have y3:=(aC.out.rx.grown aS (fun e=>aC.out.xg (by injection e))).froz 1 (by simp);have y4:=(aC.out.rx.grown aS (fun e=>aC.out.xg (by injection e))).lt);have cL:=hid (aC.out.sync (x:=x) dN aS);have cE:=hid (((jJX aS cU (fun k hk=>by cases hk;exact aC.out.bg)).setCell (p:=⟨w2.heap.size,0,none⟩) aC.out.bx (.slice (some ⟨g,0,none⟩) ss.length c1)).setCell (p:=⟨w2.heap.size,1,none⟩) aC.out.bx (.slice (some ⟨x,0,none⟩) 0 0))
    have gH:=cE.out.size;clear dN aS y0 y1 y2 y3 y4;go_roundw
    case rel=>exact ⟨k+1,_,x,0,by omega,by go_num,aG,aF,aO,cL,aJ.out.lowB cE.out (by omega),aN.out.trans (cE.out.mono (by omega)),by omega⟩
    case measure=>simp [intOf];omega
   | false =>
    have aY:=hid (fun w'=>z8b (some ⟨g,0,none⟩) ss.length c1 (some ⟨b,0,none⟩) d.2.length cv n1 s2 w' eV (by omega))
    have aQ:Hid (∀ w',Below wr.heap.size wr w'->w'.cell? ⟨w2.heap.size,0,none⟩=some (.slice (some ⟨g,0,none⟩) ss.length c1)/\w'.cell? ⟨w2.heap.size,1,none⟩=some (.slice (some ⟨b,0,none⟩) d.2.length cv)/\w'.cell? ⟨bo,oo+k*3+1,none⟩=some (.int .i64 n1)/\w'.cell? ⟨bo,oo+k*3+2,none⟩=some (.string s2)):=fun w' hb=>⟨(aC.out.below hb).rx.cell 0 _ rfl,(aC.out.below hb).rx.cell 1 _ rfl,(hb.cell (p:=⟨bo,oo+k*3+1,none⟩) (by show bo<_;omega)).trans bZ,(hb.cell (p:=⟨bo,oo+k*3+2,none⟩) (by show bo<_;omega)).trans b7⟩
    have fU:(0:Int)<=(k:Int):=by omega
    have fV:(k:Int)<(rs.length:Int):=by omega
    cases hc:wOk ss.length (n1,s2) with
    | false =>
     rw [zuS d (n1,s2) (.inl (by rw [b8];exact hc))] at aO aG aF;rw [hc] at aY;go_wp2_with fail;clear x0 x1 bZ b7;refine wp_region_held_drew (S:=fun w'=>w'.cell? ⟨w2.heap.size,0,none⟩=some (.slice (some ⟨g,0,none⟩) ss.length c1)/\w'.cell? ⟨w2.heap.size,1,none⟩=some (.slice (some ⟨b,0,none⟩) d.2.length cv)/\w'.cell? ⟨bo,oo+k*3+1,none⟩=some (.int .i64 n1)/\w'.cell? ⟨bo,oo+k*3+2,none⟩=some (.string s2)) (by kernel_rfl) (aQ.out _ (Below.refl _ _).drew) (fun aB=>?_);refine TY 0 (.agg #[.slice (some ⟨g,0,none⟩) ss.length c1,.slice (some ⟨b,0,none⟩) d.2.length cv]) rfl aB (TY 1 (.slice (some ⟨bo,oo,none⟩) rs.length cf) rfl aB (TY 2 (.int .i64 (k:Int)) rfl aB (TY 3 (.pointer (some ⟨bo,oo+k*3,none⟩)) rfl aB (TY 4 (.pointer (some ⟨bo,oo+k*3+1,none⟩)) rfl aB (TY 5 (.int .i64 n1) rfl aB (TY 6 (.slice (some ⟨bo,oo,none⟩) rs.length cf) rfl aB (TY 7 (.int .i64 (k:Int)) rfl aB (TY 8 (.pointer (some ⟨bo,oo+k*3,none⟩)) rfl aB (TY 9 (.pointer (some ⟨bo,oo+k*3+2,none⟩)) rfl aB (TY 10 (.string s2) rfl aB ?_))))))))))
     simp only [PS];refine RD 11 rfl (fun K hK=>?_);refine XRf (by rfl) 35 #[.agg #[.slice (some ⟨g,0,none⟩) ss.length c1,.slice (some ⟨b,0,none⟩) d.2.length cv],.int .i64 n1,.string s2] (by go_simp) (aY.out _) ?_;rintro e w3 ⟨rfl,aL⟩;refine ⟨_,rfl,?_⟩;refine hK.out _ _ (aQ.out _ ((Below.refl _ _).drew.trans aL)) (fun aA=>?_);clear hK K
     try simp only [PS]
     refine TY 12 (.bool false) rfl aA (TK 13 (undef) rfl (Or.inr ⟨by kernel_rfl,rfl⟩) aA (TK 14 (undef) rfl (Or.inr ⟨by kernel_rfl,rfl⟩) aA (TK 15 (undef) rfl (Or.inr ⟨by kernel_rfl,rfl⟩) aA (TK 16 (undef) rfl (Or.inr ⟨by kernel_rfl,rfl⟩) aA (TY 17 (.bool false) rfl aA ?_)))));simp only [PS];refine DN ?_;have aE:=hid ((Below.refl wr.heap.size wr).drew.trans aL);have dQ:=aE.out.size;clear aB aL;go_wp2;go_roundw
     case rel=>exact ⟨k+1,_,b,cv,by omega,by go_num,aG,aF,aO,aC.out.below aE.out,aJ.out.below aE.out,Below.then aN.out (Nat.le_refl _) aE.out,by omega⟩
     case measure=>simp [intOf];omega
    | true =>
     rw [hc] at aY
     by_cases dL:d.2.length<300
     ·have cO:(d.2.length:Int)<300:=by omega
      rw [zhd d (n1,s2) (by rw [b8];exact hc) dL] at aO aG aF;go_wp2_with fail;clear x0 x1 bZ b7;refine wp_region_held_drew (S:=fun w'=>w'.cell? ⟨w2.heap.size,0,none⟩=some (.slice (some ⟨g,0,none⟩) ss.length c1)/\w'.cell? ⟨w2.heap.size,1,none⟩=some (.slice (some ⟨b,0,none⟩) d.2.length cv)/\w'.cell? ⟨bo,oo+k*3+1,none⟩=some (.int .i64 n1)/\w'.cell? ⟨bo,oo+k*3+2,none⟩=some (.string s2)) (by kernel_rfl) (aQ.out _ (Below.refl _ _).drew) (fun aB=>?_);refine TY 0 (.agg #[.slice (some ⟨g,0,none⟩) ss.length c1,.slice (some ⟨b,0,none⟩) d.2.length cv]) rfl aB (TY 1 (.slice (some ⟨bo,oo,none⟩) rs.length cf) rfl aB (TY 2 (.int .i64 (k:Int)) rfl aB (TY 3 (.pointer (some ⟨bo,oo+k*3,none⟩)) rfl aB (TY 4 (.pointer (some ⟨bo,oo+k*3+1,none⟩)) rfl aB (TY 5 (.int .i64 n1) rfl aB (TY 6 (.slice (some ⟨bo,oo,none⟩) rs.length cf) rfl aB (TY 7 (.int .i64 (k:Int)) rfl aB (TY 8 (.pointer (some ⟨bo,oo+k*3,none⟩)) rfl aB (TY 9 (.pointer (some ⟨bo,oo+k*3+2,none⟩)) rfl aB (TY 10 (.string s2) rfl aB ?_))))))))))
      simp only [PS];refine RD 11 rfl (fun K hK=>?_);refine XRf (by rfl) 35 #[.agg #[.slice (some ⟨g,0,none⟩) ss.length c1,.slice (some ⟨b,0,none⟩) d.2.length cv],.int .i64 n1,.string s2] (by go_simp) (aY.out _) ?_;rintro e w3 ⟨rfl,aL⟩;refine ⟨_,rfl,?_⟩;refine hK.out _ _ (aQ.out _ ((Below.refl _ _).drew.trans aL)) (fun aA=>?_);clear hK K
      try simp only [PS]
      refine TY 12 (.bool true) rfl aA (TY 13 (.pointer (some ⟨w2.heap.size,1,none⟩)) rfl aA (TY 14 (.slice (some ⟨b,0,none⟩) d.2.length cv) rfl aA (TY 15 (.int .i64 (d.2.length:Int)) rfl aA (TY 16 (.bool true) rfl aA (TY 17 (.bool true) rfl aA ?_)))));simp only [PS];refine DN ?_;have aE:=hid ((Below.refl wr.heap.size wr).drew.trans aL);have dQ:=aE.out.size;have eR:=(aQ.out _ aE.out).2.2.1;have eT:=(aQ.out _ aE.out).2.2.2;have eF:=(aC.out.below aE.out).rx.cell 1 _ rfl;have fG:=(aC.out.below aE.out).rx.froz 1 (by simp);have eG:=(aC.out.below aE.out).rx.lt;have eK:=(aC.out.below aE.out).rs.lt;clear aB aL;go_wp2_with fail;have aH:=hid ((aC.out.below aE.out).below (((Below.refl w3.heap.size w3).drew).alloc (Nat.le_refl _) (.cells #[.int .i64 n1,.string s2] 74)));rcases aH.out.pd with hE | hO
      ·have eD:Hid (d.2=[]/\cv=0):=hE
       obtain ⟨cN,eH⟩:=eD.out;have dZ:=hid cN;have bJ:d.2.length=0:=by rw [cN];rfl
       clear hE cN;subst eH;rw [bJ] at eF ⊢
       go_region_law (first | (refine yX3 (by rfl) _ _ _ (by rfl) (w.heap.size+1+1) 74 i0 _ 2 24 Tryz.underlying24 HI.out.1 HI.out.2.1 HI.out.2.2.1 HI.out.2.2.2 (by kernel_rfl) b (by rfl) ⟨w3.heap.size,0,none⟩ 1 1 [.int .i64 n1,.string s2] (by rfl) (by simp) (World.news_of_block (heap_alloc_new w3.drew (.cells #[.int .i64 n1,.string s2] 74))) (fun u hu=>by simp at hu;rcases hu with rfl | rfl<;>rfl) (by omega) (by omega) (by omega) (by simp;omega) (w3.heap.size+1) (by simp) ?_;intro cap w5 aM aD;have q4:=(aH.out.rx.grown aD (by simp)).cell 1 _ rfl;have q5:=(aH.out.rx.grown aD (by simp)).froz 1 (by simp);have q6:=(aH.out.rx.grown aD (by simp)).lt;have cH:=hid aM;have aZ:=hid aD;clear aM aD))
       all_goals
        have aI:Hid (SV (w5.setCell ⟨w2.heap.size,1,none⟩ (.slice (some ⟨(w3.heap.size+1),0,none⟩) 1 cap)) (w.heap.size+1+1) w2.heap.size g ss.length c1 (w3.heap.size+1) cap d.1 (d.2++[(n1,s2)])):=by
         have e:=aH.out.push (g9:=(w3.heap.size+1)) (cap:=cap) (row:=none) (x:=(n1,s2)) (by rw [dZ.out];exact cH.out) aZ.out (by simp) (by simp) (by omega) (by omega);rw [bJ] at e;exact e
        have aT:Hid (Below (w.heap.size+1+1) wr w5):=(aE.out.mono cU).trans ((((Below.refl w3.heap.size w3).drew.alloc (Nat.le_refl _) (.cells #[.int .i64 n1,.string s2] 74)).mono (by omega)).trans (jJX aZ.out (by simp;omega) (fun k hk=>by cases hk)));have eW:=aT.out.size;go_wp2;go_roundw
        case rel=>exact ⟨k+1,(d.1,d.2++[(n1,s2)]),(w3.heap.size+1),cap,by omega,by go_num,aG,aF,aO,aI,aJ.out.lowB (aT.out.setCell (p:=⟨w2.heap.size,1,none⟩) aH.out.bx _) (by omega),aN.out.trans ((aT.out.setCell (p:=⟨w2.heap.size,1,none⟩) aH.out.bx _).mono (by omega)),by simp;omega⟩
        case measure=>simp [intOf];omega
      ·have aP:=hid hO
       clear hO
       go_region_law (first | (refine step_append_lies _ (by rfl) _ _ _ (by rfl) (w.heap.size+1+1) 74 i0 _ 2 24 Tryz.underlying24 HI.out.1 HI.out.2.1 HI.out.2.2.1 HI.out.2.2.2 (by kernel_rfl) (by omega) (.slice (some ⟨b,0,none⟩) d.2.length cv) d.2.length (yaV d.2) (by rfl) aP.out.1 ⟨w3.heap.size,0,none⟩ 1 1 [.int .i64 n1,.string s2] (by rfl) (by simp) (World.news_of_block (heap_alloc_new w3.drew (.cells #[.int .i64 n1,.string s2] 74))) (fun u hu=>by simp at hu;rcases hu with rfl | rfl<;>rfl) (by omega) (by unfold maxLen;omega) (by omega) (by simp;omega) (w3.heap.size+1) (by simp) ?_;intro g9 cap w5 aM aD dI eM;have q4:=(aH.out.rx.grown aD (fun e=>aP.out.2.1 (by injection e with e;exact e.symm))).cell 1 _ rfl;have q5:=(aH.out.rx.grown aD (fun e=>aP.out.2.1 (by injection e with e;exact e.symm))).froz 1 (by simp);have q6:=(aH.out.rx.grown aD (fun e=>aP.out.2.1 (by injection e with e;exact e.symm))).lt;have cH:=hid aM;have aZ:=hid aD;have cV:=hid dI;clear aM aD dI))
       all_goals
        have aI:Hid (SV (w5.setCell ⟨w2.heap.size,1,none⟩ (.slice (some ⟨g9,0,none⟩) (d.2.length+1) cap)) (w.heap.size+1+1) w2.heap.size g ss.length c1 g9 cap d.1 (d.2++[(n1,s2)])):=by
         have e:=aH.out.push (g9:=g9) (cap:=cap) (row:=some b) (x:=(n1,s2)) cH.out aZ.out (fun e=>aP.out.2.1 (by injection e)) (fun e=>aP.out.2.2 (by injection e)) (by have h1:=cV.out;have h2:=aP.out.2.1;simp [Value.ownBlock] at h1;omega) (by have h1:=cV.out;have h2:=aP.out.2.2;simp [Value.ownBlock] at h1;omega);exact e
        have aT:Hid (Below (w.heap.size+1+1) wr w5):=(aE.out.mono cU).trans ((((Below.refl w3.heap.size w3).drew.alloc (Nat.le_refl _) (.cells #[.int .i64 n1,.string s2] 74)).mono (by omega)).trans (jJX aZ.out (by simp;omega) (fun k hk=>(aP.out.1.lt k hk).1)));have eW:=aT.out.size;go_wp2;go_roundw
        case rel=>exact ⟨k+1,(d.1,d.2++[(n1,s2)]),g9,cap,by omega,by go_num,aG,aF,aO,aI,aJ.out.lowB (aT.out.setCell (p:=⟨w2.heap.size,1,none⟩) aH.out.bx _) (by omega),aN.out.trans ((aT.out.setCell (p:=⟨w2.heap.size,1,none⟩) aH.out.bx _).mono (by omega)),by simp;omega⟩
        case measure=>simp [intOf];omega
     ·have cO:¬ (d.2.length:Int)<300:=by omega
      rw [zuS d (n1,s2) (.inr dL)] at aO aG aF;go_wp2_with fail;clear x0 x1 bZ b7;refine wp_region_held_drew (S:=fun w'=>w'.cell? ⟨w2.heap.size,0,none⟩=some (.slice (some ⟨g,0,none⟩) ss.length c1)/\w'.cell? ⟨w2.heap.size,1,none⟩=some (.slice (some ⟨b,0,none⟩) d.2.length cv)/\w'.cell? ⟨bo,oo+k*3+1,none⟩=some (.int .i64 n1)/\w'.cell? ⟨bo,oo+k*3+2,none⟩=some (.string s2)) (by kernel_rfl) (aQ.out _ (Below.refl _ _).drew) (fun aB=>?_);refine TY 0 (.agg #[.slice (some ⟨g,0,none⟩) ss.length c1,.slice (some ⟨b,0,none⟩) d.2.length cv]) rfl aB (TY 1 (.slice (some ⟨bo,oo,none⟩) rs.length cf) rfl aB (TY 2 (.int .i64 (k:Int)) rfl aB (TY 3 (.pointer (some ⟨bo,oo+k*3,none⟩)) rfl aB (TY 4 (.pointer (some ⟨bo,oo+k*3+1,none⟩)) rfl aB (TY 5 (.int .i64 n1) rfl aB (TY 6 (.slice (some ⟨bo,oo,none⟩) rs.length cf) rfl aB (TY 7 (.int .i64 (k:Int)) rfl aB (TY 8 (.pointer (some ⟨bo,oo+k*3,none⟩)) rfl aB (TY 9 (.pointer (some ⟨bo,oo+k*3+2,none⟩)) rfl aB (TY 10 (.string s2) rfl aB ?_))))))))))
      simp only [PS];refine RD 11 rfl (fun K hK=>?_);refine XRf (by rfl) 35 #[.agg #[.slice (some ⟨g,0,none⟩) ss.length c1,.slice (some ⟨b,0,none⟩) d.2.length cv],.int .i64 n1,.string s2] (by go_simp) (aY.out _) ?_;rintro e w3 ⟨rfl,aL⟩;refine ⟨_,rfl,?_⟩;refine hK.out _ _ (aQ.out _ ((Below.refl _ _).drew.trans aL)) (fun aA=>?_);clear hK K
      try simp only [PS]
      refine TY 12 (.bool true) rfl aA (TY 13 (.pointer (some ⟨w2.heap.size,1,none⟩)) rfl aA (TY 14 (.slice (some ⟨b,0,none⟩) d.2.length cv) rfl aA (TY 15 (.int .i64 (d.2.length:Int)) rfl aA (TY 16 (.bool false) rfl aA (TY 17 (.bool false) rfl aA ?_)))));simp only [PS];refine DN ?_;have aE:=hid ((Below.refl wr.heap.size wr).drew.trans aL);have dQ:=aE.out.size;clear aB aL;go_wp2;go_roundw
      case rel=>exact ⟨k+1,_,b,cv,by omega,by go_num,aG,aF,aO,aC.out.below aE.out,aJ.out.below aE.out,Below.then aN.out (Nat.le_refl _) aE.out,by omega⟩
      case measure=>simp [intOf];omega
  ·have fW:k=m:=by omega
   have cT:Hid (d=bG):=by
    have:=HK.out;rw [List.drop_of_length_le (by rw [bI];omega)] at this;exact this
   clear HK aU;obtain rfl:=cT.out;have q0:=aC.out.rx.cell 0 _ rfl;have q1:=aC.out.rx.cell 1 _ rfl;have r0:=aJ.out.cell 0 _ rfl;have r1:=aJ.out.cell 1 _ rfl;obtain ⟨fB,fC⟩:=aJ.out.z2;have fX:=aJ.out.lt;have fO:=aN.out.size;have fH:=aC.out.xg;have fJ:=aC.out.bg
   have bQ:∃ a1 aV aK bH,Zoj (some ⟨g,0,none⟩) ss.length c1 (some ⟨b,0,none⟩) d.2.length cv=Zoj a1 ss.length aV aK d.2.length bH/\OwnD ((wr.setCell ⟨w.heap.size+1,0,none⟩ (.slice (some ⟨g,0,none⟩) ss.length c1)).setCell ⟨w.heap.size+1,1,none⟩ (.slice (some ⟨b,0,none⟩) d.2.length cv)) a1 d.1 aK d.2/\(∀ g,blk a1 ss.length=some g->w.heap.size<=g)/\(∀ g,blk aK d.2.length=some g->w.heap.size<=g):=by
    have ho:=aC.out.own;refine ⟨_,_,_,_,rfl,⟨.inr ⟨g,rfl,(aC.out.rs.other _ (by show w.heap.size+1≠g;omega) _).other _ (by show w.heap.size+1≠g;omega) _⟩,(ho.1.setp _ (fun g3 e3 aW e=>?_) _).setp _ (fun g3 e3 aW e=>?_) _,?_⟩,fun g' aR=>?_,fun g' aR=>?_⟩
    ·have:=ho.2 aW;injection e3 with e3;injection e3 with e3;have e':w.heap.size+1=g3:=e;omega
    ·have:=ho.2 aW;injection e3 with e3;injection e3 with e3;have e':w.heap.size+1=g3:=e;omega
    ·by_cases h0:d.2.length=0
     ·exact .inr (.inl (by simp [blk,h0]))
     ·have aW:yaV d.2≠[]:=fun e=>h0 (by have:=congrArg List.length e;rw [zPu,List.length_nil] at this;omega)
      refine .inr (.inr (fun e=>?_));rw [qdd g 0 _ (by omega),qdd b 0 _ h0] at e;injection e with e;exact (ho.2 aW).1 e.symm
    ·have:=qdd g 0 ss.length (by omega);rw [this] at aR;injection aR with aR;omega
    ·by_cases h0:d.2.length=0
     ·simp [blk,h0] at aR
     ·have aW:yaV d.2≠[]:=fun e=>h0 (by have:=congrArg List.length e;rw [zPu,List.length_nil] at this;omega)
      rw [qdd b 0 _ h0] at aR;injection aR with aR;have:=(ho.2 aW).2.2;omega
   have aI:=hid bQ;have cW:=hid ((aN.out.setCell (p:=⟨w.heap.size+1,0,none⟩) (by show w.heap.size<=w.heap.size+1;omega) (.slice (some ⟨g,0,none⟩) ss.length c1)).setCell (p:=⟨w.heap.size+1,1,none⟩) (by show w.heap.size<=w.heap.size+1;omega) (.slice (some ⟨b,0,none⟩) d.2.length cv));clear bQ;rcases eQ.out with hx | ⟨hx,fA⟩
   ·have aX:¬ (k:Int)<(rs.length:Int):=by omega
    go_wp2;refine bodyPost_ret (v:=Zoj (some ⟨g,0,none⟩) ss.length c1 (some ⟨b,0,none⟩) d.2.length cv) (by simp [results,Tryz.results77,go_sem,r0,r1]) rfl ?_;obtain ⟨a1,aV,aK,bH,e1,e2,e3,e4⟩:=aI.out;exact ⟨a1,aV,aK,⟨bH,by rw [e1]⟩,e2,e3,e4,cW.out⟩
   ·have aX:(k:Int)<(rs.length:Int):=by omega
    have eL:¬ (k:Int)<z:=by omega
    go_wp2;refine bodyPost_ret (v:=Zoj (some ⟨g,0,none⟩) ss.length c1 (some ⟨b,0,none⟩) d.2.length cv) (by simp [results,Tryz.results77,go_sem,r0,r1]) rfl ?_;obtain ⟨a1,aV,aK,bH,e1,e2,e3,e4⟩:=aI.out;exact ⟨a1,aV,aK,⟨bH,by rw [e1]⟩,e2,e3,e4,cW.out⟩
theorem JQN (a:Option Addr) (ss:List ByteArray) (c:Nat) (a':Option Addr) (ws:List (Int×ByteArray)) (c':Nat) (v z:Value) (w:World) (h:Strs w a ss) (h':Wrs w a' ws) (hl:ss.length<=1048576) (aD:ws.length<=1048576) (hs:∀ s∈ss,s.size<=1048576) (aF:∀ x∈ws,x.2.size<=1048576) (aE:vlG ss ws=false) :
  Calls Tryz.prog 77 #[Zoj a ss.length c a' ws.length c',v,z] w fun e w'=>e=.returned (Zoj none 0 0 none 0 0)/\Below w.heap.size w w':=by
 have aA:∀ o1 o2,Below w.heap.size w ((w.alloc o1).alloc o2):=fun o1 o2=>((Below.refl _ _).alloc (Nat.le_refl _) _).alloc (by simp) _
 go_enter Tryz.func77,Tryz.ntmps77;go_wp2_with fail;refine (xpE a ss c a' ws c' _ (h.below (aA _ _)) (h'.below (aA _ _)) hl aD hs aF).mono ?_;rw [aE];rintro e w1 ⟨rfl,aB⟩;have aC:=hid ((aA _ _).trans (aB.mono (by simp;omega)));have rR:=(kR4 (w.alloc (.cells #[.slice a ss.length c,.slice a' ws.length c'] 26)) #[.slice none 0 0,.slice none 0 0] 26 (w.heap.size+1) (by simp)).below aB;have r0:=rR.cell 0 _ rfl;have r1:=rR.cell 1 _ rfl;obtain ⟨aG,aH⟩:=rR.z2;clear rR aB;go_wp2;exact bodyPost_ret (v:=Zoj none 0 0 none 0 0) (by simp [results,Tryz.results77,go_sem,r0,r1]) rfl ⟨rfl,(aC.out.setCell (by show w.heap.size<=w.heap.size+1;omega) _).setCell (by show w.heap.size<=w.heap.size+1;omega) _⟩
theorem jEL (a:Option Addr) (ss:List ByteArray) (c:Nat) (a':Option Addr) (ws:List (Int×ByteArray)) (c':Nat) (f:Option Addr) (rs:List (Bool×Int×ByteArray)) (cf:Nat) (z:Int) (w:World) (h:Strs w a ss) (h':Wrs w a' ws) (hz:Ops w f rs) (aE:rs.length<=1048576) (aG:∀ x∈rs,x.2.2.size<=1048576) (hl:ss.length<=1048576) (aD:ws.length<=1048576) (hs:∀ s∈ss,s.size<=1048576) (aF:∀ x∈ws,x.2.size<=1048576) :
  Calls Tryz.prog 77 #[Zoj a ss.length c a' ws.length c',.slice f rs.length cf,.int .i64 z] w fun e w'=>∃ a1 c1 aB aC,e=.returned (Zoj a1 (pfR ss ws rs z).1.length c1 aB (pfR ss ws rs z).2.length aC)/\OwnD w' a1 (pfR ss ws rs z).1 aB (pfR ss ws rs z).2/\(∀ g,blk a1 (pfR ss ws rs z).1.length=some g->w.heap.size<=g)/\(∀ g,blk aB (pfR ss ws rs z).2.length=some g->w.heap.size<=g)/\Below w.heap.size w w':=by
 by_cases aA:vlG ss ws=true
 ·have e1:pfR ss ws rs z=JKX (rs.take (pfN z rs.length)) (ss,ws):=by simp [pfR,aA]
  rw [e1];exact q07 a ss c a' ws c' f rs cf z w h h' hz aE aG aA
 ·have e1:pfR ss ws rs z=([],[]):=by simp [pfR,aA]
  rw [e1];refine (JQN a ss c a' ws c' _ _ w h h' hl aD hs aF (by simpa using aA)).mono ?_;rintro e w' ⟨rfl,hb⟩;exact ⟨none,0,none,0,rfl,⟨.inl rfl,.inl rfl,.inl rfl⟩,(fun g hg=>by cases hg),(fun g hg=>by cases hg),hb⟩
end Go.Proofs.YtehbpeinnepdcaaGreatDoor
