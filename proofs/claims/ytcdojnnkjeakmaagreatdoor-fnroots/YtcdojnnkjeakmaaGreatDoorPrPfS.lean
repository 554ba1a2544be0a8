import Derived.Test.YtcdojnnkjeakmaaGreatDoorPrG40
set_option maxHeartbeats 16000000
namespace Go.Proofs.YtcdojnnkjeakmaaGreatDoor
open Go.RowKit
set_option linter.unusedVariables false
set_option linter.unusedSimpArgs false
theorem yX3 {P:Program} {aI:Array Oper} {o:Oper} {a:Act} {w:World} {K:Act->World->Prop} {Q:Exit->Act->World->Prop} {E:Prop} (aJ:o.guard=none) (s x:Operand) (t:TypeId)
  (aK:o.op=.call { callee:=.builtin .append,args:=#[s,x],argTypes:=#[t,t] })
  (base:Nat) (e:TypeId) (i:TypeInfo) (z:Value) (size aA:Nat) (ht:P.underlying t=some (.slice e)) (hi:P.info? e=some i) (hz:i.zero=some z)
  (aD:i.size=size) (aM:i.bytes=aA) (aL:z.cells.size=size)
  (b:Nat) (hs:a.eval s=.slice (some ⟨b,0,none⟩) 0 0)
  (ad:Addr) (n c:Nat) (news:List Value) (hx:a.eval x=.slice (some ad) n c) (hl:news.length=n*size) (aB:∀ j u,news[j]?=some u->w.cell? (ad.add j)=some u) (h1:∀ u∈news,u.oneCell'=true)
  (hm:0<n) (aP:n<=1048576) (aF:n*aA<=140737488355328) (aC:base<=w.heap.size) (H:Nat) (hH:w.heap.size=H)
  (h:∀ cap w',w'.ownsRow base e size (.slice (some ⟨H,0,none⟩) n cap) n news->w.grownBy w' none->K (a.put o.dst (.slice (some ⟨H,0,none⟩) n cap)) w') :
  if Region.wanted o (yielded aI a.tmps)=true then Oper.wp P o a w K Q else E:=by
 have hw:Region.wanted o (yielded aI a.tmps)=true:=by simp [Region.wanted,aJ]
 rw [if_pos hw];subst aD aM hH;have aE:Src P i.size t (.slice (some ad) n c) n news w:=Src.ofSlice w ht ad n c news hl aB h1;have aG:(Builtin.firstCells i.size 0 (.slice (some ⟨b,0,none⟩) 0 0)).run P w.drew=.ok ([]:List Value).toArray w.drew:=run_firstCells_some w.drew i.size 0 _ 0 0 [] (by simp) (by simp);have aH:=run_append_grow_src (P:=P) w t t o.type e i z ht hi hz (some ⟨b,0,none⟩) 0 0 [] aG (.slice (some ad) n c) n news aE (by omega) (by omega) (by rw [Nat.zero_add,nsc n (by omega)];omega);unfold Oper.wp;simp [execOp,aK,resolve,invoke,builtin,hs,hx,aH,Result.andThen];have aO:=grownCap_ge w n 0 e;have aN:=grownCap_le_maxLen w n 0 e (by unfold maxLen;omega);refine h _ _ ⟨hl,.inr ⟨w.heap.size,_,_,rfl,aC,heap_alloc_new w.drew _,aO,aN,?_,?_⟩⟩ (Qbp none ((Below.refl _ _).drew.alloc (Nat.le_refl _) _))
 ·simp [size_zeroCells,hl,aL]
  rw [<-Nat.add_mul]
  congr 1
  omega
 ·simp [hl]
structure SV (w:World) (base X g n c b cv:Nat) (ss:List ByteArray) (ws:List (Int×ByteArray)):Prop where
 rx:Row w X [.slice (some ⟨g,0,none⟩) n c,.slice (some ⟨b,0,none⟩) ws.length cv]
 rs:Row w g (ss.map Value.string)
 pd:(ws=[]/\cv=0)\/(w.ownsRow base 97 2 (.slice (some ⟨b,0,none⟩) ws.length cv) ws.length (yaV ws)/\b≠X/\b≠g)
 xg:X≠g
 bx:base<=X
 bg:base<=g
theorem SV.below {w w':World} {base X g n c b cv:Nat} {ss:List ByteArray} {ws:List (Int×ByteArray)} (h:SV w base X g n c b cv ss ws) (hb:Below w.heap.size w w'):SV w' base X g n c b cv ss ws :=
 ⟨h.rx.below hb,h.rs.below hb,h.pd.imp id (fun k=>⟨jcb k.1 hb,k.2⟩),h.xg,h.bx,h.bg⟩
theorem SV.own {w:World} {base X g n c b cv:Nat} {ss:List ByteArray} {ws:List (Int×ByteArray)} (h:SV w base X g n c b cv ss ws):OwnS w (some ⟨b,0,none⟩) (yaV ws)/\(yaV ws≠[]->b≠g/\b≠X/\base<=b):=by
 rcases h.pd with ⟨rfl,_⟩ | ⟨k,k1,k2⟩
 ·exact ⟨.inl rfl,fun e=>absurd rfl e⟩
 ·rcases yUO k with ⟨e,h0⟩ | ⟨g2,cap,e,hb,_,hr⟩
  ·cases e
  ·injection e with e1 e2 e3
   injection e1 with e1;injection e1 with e1;subst e1;exact ⟨.inr ⟨b,rfl,hr⟩,fun _=>⟨k2,k1,hb⟩⟩
theorem SV.sync {w w':World} {base X g n c b cv x:Nat} {ss aA:List ByteArray} {ws:List (Int×ByteArray)} (h:SV w base X g n c b cv ss ws) (hr:Row w' g (aA.map Value.string)) (hg:w.grownBy w' (some g)) :
  SV ((w'.setCell ⟨X,0,none⟩ (.slice (some ⟨g,0,none⟩) n c)).setCell ⟨X,1,none⟩ (.slice (some ⟨x,0,none⟩) 0 0)) base X g n c x 0 aA [] :=
 ⟨((h.rx.grown hg (fun e=>h.xg (by injection e))).set 0 (by simp) _).set 1 (by simp) _,(hr.other _ h.xg _).other _ h.xg _,.inl ⟨rfl,rfl⟩,h.xg,h.bx,h.bg⟩
theorem SV.push {w w3:World} {base X g n c b cv g9 cap:Nat} {ss:List ByteArray} {ws:List (Int×ByteArray)} {x:Int×ByteArray} {row:Option Nat} (h:SV w base X g n c b cv ss ws) (aA:w3.ownsRow base 97 2 (.slice (some ⟨g9,0,none⟩) (ws.length+1) cap) (ws.length+1) (yaV ws++[.int .i64 x.1,.string x.2])) (aB:w.grownBy w3 row) (hx:row≠some X) (hg:row≠some g) (h9:g9≠X) (aC:g9≠g) :
  SV (w3.setCell ⟨X,1,none⟩ (.slice (some ⟨g9,0,none⟩) (ws.length+1) cap)) base X g n c g9 cap ss (ws++[x]):=by
 have e2:(ws++[x]).length=ws.length+1:=by simp
 have e3:yaV (ws++[x])=yaV ws++[.int .i64 x.1,.string x.2]:=by simp [yaV]
 have hs:=aA.kept (w':=w3.setCell ⟨X,1,none⟩ (.slice (some ⟨g9,0,none⟩) (ws.length+1) cap)) (row:=some X) (y09 (World.grownBy.refl _ _) _ _) (.inr (fun e=>h9 (by injection e)));refine ⟨?_,(h.rs.grown aB (fun e=>hg e.symm)).other _ h.xg _,.inr ⟨?_,h9,aC⟩,h.xg,h.bx,h.bg⟩
 ·rw [e2];exact (h.rx.grown aB (fun e=>hx e.symm)).set 1 (by simp) _
 ·rw [e2,e3];exact hs
set_option maxRecDepth 100000 in
theorem q07 (a:Option Addr) (ss:List ByteArray) (c:Nat) (a':Option Addr) (ws:List (Int×ByteArray)) (c':Nat) (f:Option Addr) (rs:List (Bool×Int×ByteArray)) (cf:Nat) (z:Int) (w:World) (h:Strs w a ss) (h':Wrs w a' ws) (hz:Ops w f rs) (fS:rs.length<=1048576) (eY:∀ x∈rs,x.2.2.size<=1048576) (cE:vlG ss ws=true) :
  Calls Tryz.prog 65 #[Zoj a ss.length c a' ws.length c',.slice f rs.length cf,.int .i64 z] w fun e w'=>∃ a1 c1 aM aT,e=.returned (Zoj a1 (JKX (rs.take (pfN z rs.length)) (ss,ws)).1.length c1 aM (JKX (rs.take (pfN z rs.length)) (ss,ws)).2.length aT)/\OwnD w' a1 (JKX (rs.take (pfN z rs.length)) (ss,ws)).1 aM (JKX (rs.take (pfN z rs.length)) (ss,ws)).2/\(∀ g,blk a1 (JKX (rs.take (pfN z rs.length)) (ss,ws)).1.length=some g->w.heap.size<=g)/\(∀ g,blk aM (JKX (rs.take (pfN z rs.length)) (ss,ws)).2.length=some g->w.heap.size<=g)/\Below w.heap.size w w':=by
 obtain ⟨i0,dE,dN,dV,cY⟩:=q00 yGS;have HI:=hid (And.intro dE (And.intro dN (And.intro dV cY)));clear dE dN dV cY;obtain ⟨⟨eJ,eC,eZ⟩,eH,hw⟩:=q67 cE
 have cT:∀ o1 o2,Below w.heap.size w ((w.alloc o1).alloc o2):=fun o1 o2=>((Below.refl _ _).alloc (Nat.le_refl _) _).alloc (by simp) _
 obtain ⟨m,HM⟩:∃ m,Hid (m=pfN z rs.length):=⟨_,hid rfl⟩;have gD:m<=rs.length:=by rw [HM.out];exact k1Q _ _
 have eK:Hid (m=rs.length\/((m:Int)<rs.length/\¬ (m:Int)<z)):=by show _\/_;rw [HM.out];unfold pfN;omega
 have eW:Hid (∀ k:Nat,k<m->(k:Int)<z):=fun k hk=>by rw [HM.out] at hk;unfold pfN at hk;omega
 rw [<-HM.out];obtain ⟨RS,cL⟩:∃ RS,Hid (RS=rs.take m):=⟨_,hid rfl⟩;have bC:RS.length=m:=by rw [cL.out];simp;omega
 rw [<-cL.out];obtain ⟨aY,aU⟩:∃ aY,Hid (aY=JKX RS (ss,ws)):=⟨_,hid rfl⟩;rw [<-aU.out];go_enter Tryz.func65,Tryz.ntmps65;go_wp2_with fail;refine (xpE a ss c a' ws c' _ (h.below (cT _ _)) (h'.below (cT _ _)) (by omega) (by omega) (fun s hs=>by have:=eH s hs;omega) (fun x hx=>by have:=of_decide_eq_true (hw x hx);omega)).mono ?_;rw [cE];rintro e w1 ⟨rfl,bZ⟩;have dO:=(cT _ _).trans (bZ.mono (by simp;omega));obtain ⟨q1,q2⟩:=y6s bZ;have rR:=(kR4 (w.alloc (.cells #[.slice a ss.length c,.slice a' ws.length c'] 31)) #[.slice none 0 0,.slice none 0 0] 31 (w.heap.size+1) (by simp)).below bZ;have aJ:=hid rR;have bW:=hid dO;clear rR bZ dO;go_wp2_with fail;refine (kXs a ss c a' ws c' _ (h.below bW.out) (h'.below bW.out) eC eZ).mono ?_;rintro e w2 ⟨g,c1,b,cv,rfl,bV,dK,eM,dM,b7⟩;clear q1 q2;have bH:=hid (aJ.out.below b7);have eI:w.heap.size+1<w1.heap.size:=aJ.out.lt;have eX:=dK g (qdd g 0 _ (by omega));have fJ:g<w2.heap.size:=bV.s.lt ss.length (fun _=>qXV (by omega)) g (qdd g 0 _ (by omega))
 have cV:Row w2 g (ss.map Value.string):=by
  rcases bV.s with h0 | ⟨g',e,hr⟩
  ·exact absurd h0 (qXV (by omega))
  ·injection e with e;injection e with e;rw [e];exact hr
 have eL:=b7.size
 have dH:SV (w2.alloc (.cells #[.slice (some ⟨g,0,none⟩) ss.length c1,.slice (some ⟨b,0,none⟩) ws.length cv] 31)) (w.heap.size+1+1) w2.heap.size g ss.length c1 b cv ss ws:=by
  refine ⟨xER _ _ _,cV.alloc _,?_,by omega,by omega,by omega⟩;rcases dM with k | k
  ·exact .inl k
  ·refine .inr ⟨(jcb k.1 (zE5 _ _)).mono (by omega),?_,?_⟩
   ·have:=(k.1.lt b rfl).2;omega
   ·intro e
    subst e;rcases bV.ne with h1 | h1 | h1
    ·rw [qdd _ 0 _ (by omega)] at h1;cases h1
    ·rw [qdd _ 0 _ k.2] at h1;cases h1
    ·rw [qdd _ 0 _ (by omega),qdd _ 0 _ k.2] at h1;exact h1 rfl
 have bG:w.heap.size+1+1<=(w2.alloc (.cells #[.slice (some ⟨g,0,none⟩) ss.length c1,.slice (some ⟨b,0,none⟩) ws.length cv] 31)).heap.size:=by simp;omega
 have cH:=hid dH;have cM:=hid (bH.out.alloc (.cells #[.slice (some ⟨g,0,none⟩) ss.length c1,.slice (some ⟨b,0,none⟩) ws.length cv] 31));have cJ:=hid (Below.then (Below.then bW.out (Nat.le_refl _) b7) (Nat.le_refl _) (zE5 w2 (.cells #[.slice (some ⟨g,0,none⟩) ss.length c1,.slice (some ⟨b,0,none⟩) ws.length cv] 31)));have eN:=hid cE;clear dH bV dK eM dM b7 bW aJ bH cV;go_wp2;obtain ⟨wq,dQ⟩:∃ wq,wq=w2.alloc (.cells #[.slice (some ⟨g,0,none⟩) ss.length c1,.slice (some ⟨b,0,none⟩) ws.length cv] 31):=⟨_,rfl⟩;rw [<-dQ] at cH cM cJ bG ⊢;clear dQ;go_loopw [8] (fun i wr=>∃ (k:Nat) (d:List ByteArray×List (Int×ByteArray)) (b cv:Nat),k<=m/\i=.int .i64 k/\d.1.length=ss.length/\Hid (vlG d.1 d.2=true)/\Hid (JKX (RS.drop k) d=aY)/\Hid (SV wr (w.heap.size+1+1) w2.heap.size g ss.length c1 b cv d.1 d.2)/\Hid (Row wr (w.heap.size+1) [.slice none 0 0,.slice none 0 0])/\Hid (Below w.heap.size w wr)/\w.heap.size+1+1<=wr.heap.size) (fun i _=>m-(intOf i).toNat)
 case atStart=>exact ⟨0,(ss,ws),b,cv,Nat.zero_le _,rfl,rfl,eN,by show _=_;rw [List.drop_zero,aU.out],cH,cM,cJ,bG⟩
 case round =>
  clear cH cM cJ;obtain ⟨k,d,b,cv,hk,rfl,b8,dI,HK,aC,aJ,aP,cN⟩:=hrel;obtain ⟨⟨fH,fI,fT⟩,eF,fA⟩:=q67 dI.out
  by_cases cP:k<m
  ·have eU:(k:Int)<z:=eW.out k cP
   have aX:k<rs.length:=by omega
   obtain ⟨bo,oo,s0,n1,s2,rfl,fE,bY,cC,HS⟩:=(hz.below aP.out).at aX;have cF:(s0,n1,s2)∈rs:=by rw [HS.out];simp [List.getD,aX]
   have eD:s2.size<=1048576:=eY _ cF
   have fO:bo<w.heap.size:=by
    rcases hz with h0 | ⟨b9,o9,e9,l9,_⟩
    ·rw [h0] at aX;simp at aX
    ·injection e9 with e9;injection e9 with e9 _;rw [e9];exact l9
   have aO:Hid (JKX (RS.drop (k+1)) (opD d (s0,n1,s2))=aY):=by
    show _=_;have e:RS.getD k (false,0,ByteArray.empty)=(s0,n1,s2):=by rw [HS.out,cL.out];simp [List.getD,List.getElem?_take,cP]
    rw [<-HK.out,JGy RS k (false,0,ByteArray.empty) (by rw [bC];exact cP),e,JKX]
   have aG:(opD d (s0,n1,s2)).1.length=ss.length:=by rw [zKN];exact b8
   have aF:Hid (vlG (opD d (s0,n1,s2)).1 (opD d (s0,n1,s2)).2=true):=ZO0 d _ dI.out;have x0:=aC.out.rx.cell 0 _ rfl;have x1:=aC.out.rx.cell 1 _ rfl;have fG:=aC.out.rx.lt;have fX:=aP.out.size
   cases s0 with
   | true =>
    rw [zSd] at aO aG aF;have cW:=hid (Qh0 g b d.1 c1 d.2 cv wr aC.out.rs aC.out.own.1 (fun e=>(aC.out.own.2 e).1) (by omega) (by omega) (fun x hx=>(Zc1 (fA x hx)).1));rw [b8] at cW;obtain ⟨gH,fW⟩:=aC.out.rx.z2;go_wp2_with (go_at_call 31;refine cW.out.mono ?_;rintro e w4 ⟨x,rfl,gI,eS,dL,aQ⟩;have y0:=(aC.out.rx.grown aQ (fun e=>aC.out.xg (by injection e))).cell 0 _ rfl;have y1:=(aC.out.rx.grown aQ (fun e=>aC.out.xg (by injection e))).cell 1 _ rfl;have y2:=(aC.out.rx.grown aQ (fun e=>aC.out.xg (by injection e))).froz 0 (by simp);have y3:=(aC.out.rx.grown aQ (fun e=>aC.out.xg (by injection e))).froz 1 (by simp);have y4:=(aC.out.rx.grown aQ (fun e=>aC.out.xg (by injection e))).lt);have cU:=hid (aC.out.sync (x:=x) dL aQ);have cI:=hid (((jJX aQ cN (fun k hk=>by cases hk;exact aC.out.bg)).setCell (p:=⟨w2.heap.size,0,none⟩) aC.out.bx (.slice (some ⟨g,0,none⟩) ss.length c1)).setCell (p:=⟨w2.heap.size,1,none⟩) aC.out.bx (.slice (some ⟨x,0,none⟩) 0 0))
    have fU:=cI.out.size;clear dL aQ y0 y1 y2 y3 y4;go_roundw
    case rel=>exact ⟨k+1,_,x,0,by omega,by go_num,aG,aF,aO,cU,aJ.out.lowB cI.out (by omega),aP.out.trans (cI.out.mono (by omega)),by omega⟩
    case measure=>simp [intOf];omega
   | false =>
    have bJ:=hid (fun w'=>z8b (some ⟨g,0,none⟩) ss.length c1 (some ⟨b,0,none⟩) d.2.length cv n1 s2 w' eD (by omega))
    have aS:Hid (∀ w',Below wr.heap.size wr w'->w'.cell? ⟨w2.heap.size,0,none⟩=some (.slice (some ⟨g,0,none⟩) ss.length c1)/\w'.cell? ⟨w2.heap.size,1,none⟩=some (.slice (some ⟨b,0,none⟩) d.2.length cv)/\w'.cell? ⟨bo,oo+k*3+1,none⟩=some (.int .i64 n1)/\w'.cell? ⟨bo,oo+k*3+2,none⟩=some (.string s2)):=fun w' hb=>⟨(aC.out.below hb).rx.cell 0 _ rfl,(aC.out.below hb).rx.cell 1 _ rfl,(hb.cell (p:=⟨bo,oo+k*3+1,none⟩) (by show bo<_;omega)).trans bY,(hb.cell (p:=⟨bo,oo+k*3+2,none⟩) (by show bo<_;omega)).trans cC⟩
    have fF:(0:Int)<=(k:Int):=by omega
    have fB:(k:Int)<(rs.length:Int):=by omega
    cases hc:wOk ss.length (n1,s2) with
    | false =>
     rw [zuS d (n1,s2) (.inl (by rw [b8];exact hc))] at aO aG aF;rw [hc] at bJ;go_wp2_with fail;clear x0 x1 bY cC;refine wp_region_held_drew (S:=fun w'=>w'.cell? ⟨w2.heap.size,0,none⟩=some (.slice (some ⟨g,0,none⟩) ss.length c1)/\w'.cell? ⟨w2.heap.size,1,none⟩=some (.slice (some ⟨b,0,none⟩) d.2.length cv)/\w'.cell? ⟨bo,oo+k*3+1,none⟩=some (.int .i64 n1)/\w'.cell? ⟨bo,oo+k*3+2,none⟩=some (.string s2)) (by kernel_rfl) (aS.out _ (Below.refl _ _).drew) (fun aB=>?_);refine TY 0 (.agg #[.slice (some ⟨g,0,none⟩) ss.length c1,.slice (some ⟨b,0,none⟩) d.2.length cv]) rfl aB (TY 1 (.slice (some ⟨bo,oo,none⟩) rs.length cf) rfl aB (TY 2 (.int .i64 (k:Int)) rfl aB (TY 3 (.pointer (some ⟨bo,oo+k*3,none⟩)) rfl aB (TY 4 (.pointer (some ⟨bo,oo+k*3+1,none⟩)) rfl aB (TY 5 (.int .i64 n1) rfl aB (TY 6 (.slice (some ⟨bo,oo,none⟩) rs.length cf) rfl aB (TY 7 (.int .i64 (k:Int)) rfl aB (TY 8 (.pointer (some ⟨bo,oo+k*3,none⟩)) rfl aB (TY 9 (.pointer (some ⟨bo,oo+k*3+2,none⟩)) rfl aB (TY 10 (.string s2) rfl aB ?_))))))))))
     simp only [PS];refine RD 11 rfl (fun K hK=>?_);refine XRf (by rfl) _ _ (by go_simp) (bJ.out _) ?_;rintro e w3 ⟨rfl,aK⟩;refine ⟨_,rfl,?_⟩;refine hK.out _ _ (aS.out _ ((Below.refl _ _).drew.trans aK)) (fun aA=>?_);clear hK K
     try simp only [PS]
     refine TY 12 (.bool false) rfl aA (TK 13 (undef) rfl (Or.inr ⟨by kernel_rfl,rfl⟩) aA (TK 14 (undef) rfl (Or.inr ⟨by kernel_rfl,rfl⟩) aA (TK 15 (undef) rfl (Or.inr ⟨by kernel_rfl,rfl⟩) aA (TK 16 (undef) rfl (Or.inr ⟨by kernel_rfl,rfl⟩) aA (TY 17 (.bool false) rfl aA ?_)))));simp only [PS];refine DN ?_;have aE:=hid ((Below.refl wr.heap.size wr).drew.trans aK);have dY:=aE.out.size;clear aB aK;go_wp2;go_roundw
     case rel=>exact ⟨k+1,_,b,cv,by omega,by go_num,aG,aF,aO,aC.out.below aE.out,aJ.out.below aE.out,Below.then aP.out (Nat.le_refl _) aE.out,by omega⟩
     case measure=>simp [intOf];omega
    | true =>
     rw [hc] at bJ
     by_cases dR:d.2.length<300
     ·have cQ:(d.2.length:Int)<300:=by omega
      rw [zhd d (n1,s2) (by rw [b8];exact hc) dR] at aO aG aF;go_wp2_with fail;clear x0 x1 bY cC;refine wp_region_held_drew (S:=fun w'=>w'.cell? ⟨w2.heap.size,0,none⟩=some (.slice (some ⟨g,0,none⟩) ss.length c1)/\w'.cell? ⟨w2.heap.size,1,none⟩=some (.slice (some ⟨b,0,none⟩) d.2.length cv)/\w'.cell? ⟨bo,oo+k*3+1,none⟩=some (.int .i64 n1)/\w'.cell? ⟨bo,oo+k*3+2,none⟩=some (.string s2)) (by kernel_rfl) (aS.out _ (Below.refl _ _).drew) (fun aB=>?_);refine TY 0 (.agg #[.slice (some ⟨g,0,none⟩) ss.length c1,.slice (some ⟨b,0,none⟩) d.2.length cv]) rfl aB (TY 1 (.slice (some ⟨bo,oo,none⟩) rs.length cf) rfl aB (TY 2 (.int .i64 (k:Int)) rfl aB (TY 3 (.pointer (some ⟨bo,oo+k*3,none⟩)) rfl aB (TY 4 (.pointer (some ⟨bo,oo+k*3+1,none⟩)) rfl aB (TY 5 (.int .i64 n1) rfl aB (TY 6 (.slice (some ⟨bo,oo,none⟩) rs.length cf) rfl aB (TY 7 (.int .i64 (k:Int)) rfl aB (TY 8 (.pointer (some ⟨bo,oo+k*3,none⟩)) rfl aB (TY 9 (.pointer (some ⟨bo,oo+k*3+2,none⟩)) rfl aB (TY 10 (.string s2) rfl aB ?_))))))))))
      simp only [PS];refine RD 11 rfl (fun K hK=>?_);refine XRf (by rfl) _ _ (by go_simp) (bJ.out _) ?_;rintro e w3 ⟨rfl,aK⟩;refine ⟨_,rfl,?_⟩;refine hK.out _ _ (aS.out _ ((Below.refl _ _).drew.trans aK)) (fun aA=>?_);clear hK K
      try simp only [PS]
      refine TY 12 (.bool true) rfl aA (TY 13 (.pointer (some ⟨w2.heap.size,1,none⟩)) rfl aA (TY 14 (.slice (some ⟨b,0,none⟩) d.2.length cv) rfl aA (TY 15 (.int .i64 (d.2.length:Int)) rfl aA (TY 16 (.bool true) rfl aA (TY 17 (.bool true) rfl aA ?_)))));simp only [PS];refine DN ?_;have aE:=hid ((Below.refl wr.heap.size wr).drew.trans aK);have dY:=aE.out.size;have eJ:=(aS.out _ aE.out).2.2.1;have eT:=(aS.out _ aE.out).2.2.2;have eQ:=(aC.out.below aE.out).rx.cell 1 _ rfl;have fV:=(aC.out.below aE.out).rx.froz 1 (by simp);have eB:=(aC.out.below aE.out).rx.lt;have eG:=(aC.out.below aE.out).rs.lt;clear aB aK;go_wp2_with fail;have aI:=hid ((aC.out.below aE.out).below (((Below.refl w3.heap.size w3).drew).alloc (Nat.le_refl _) (.cells #[.int .i64 n1,.string s2] 97)));rcases aI.out.pd with hE | hO
      ·have eO:Hid (d.2=[]/\cv=0):=hE
       obtain ⟨cO,eR⟩:=eO.out;have eV:=hid cO;have bQ:d.2.length=0:=by rw [cO];rfl
       clear hE cO;subst eR;rw [bQ] at eQ ⊢
       go_region_law (first | (refine yX3 (by rfl) _ _ _ (by rfl) (w.heap.size+1+1) 97 i0 _ 2 24 Tryz.underlying29 HI.out.1 HI.out.2.1 HI.out.2.2.1 HI.out.2.2.2 (by kernel_rfl) b (by rfl) ⟨w3.heap.size,0,none⟩ 1 1 [.int .i64 n1,.string s2] (by rfl) (by simp) (World.news_of_block (heap_alloc_new w3.drew (.cells #[.int .i64 n1,.string s2] 97))) (fun u hu=>by simp at hu;rcases hu with rfl | rfl<;>rfl) (by omega) (by omega) (by omega) (by simp;omega) (w3.heap.size+1) (by simp) ?_;intro cap w5 aL aD;have q4:=(aI.out.rx.grown aD (by simp)).cell 1 _ rfl;have q5:=(aI.out.rx.grown aD (by simp)).froz 1 (by simp);have q6:=(aI.out.rx.grown aD (by simp)).lt;have cK:=hid aL;have aZ:=hid aD;clear aL aD))
       all_goals
        have aH:Hid (SV (w5.setCell ⟨w2.heap.size,1,none⟩ (.slice (some ⟨(w3.heap.size+1),0,none⟩) 1 cap)) (w.heap.size+1+1) w2.heap.size g ss.length c1 (w3.heap.size+1) cap d.1 (d.2++[(n1,s2)])):=by
         have e:=aI.out.push (g9:=(w3.heap.size+1)) (cap:=cap) (row:=none) (x:=(n1,s2)) (by rw [eV.out];exact cK.out) aZ.out (by simp) (by simp) (by omega) (by omega);rw [bQ] at e;exact e
        have aV:Hid (Below (w.heap.size+1+1) wr w5):=(aE.out.mono cN).trans ((((Below.refl w3.heap.size w3).drew.alloc (Nat.le_refl _) (.cells #[.int .i64 n1,.string s2] 97)).mono (by omega)).trans (jJX aZ.out (by simp;omega) (fun k hk=>by cases hk)));have dZ:=aV.out.size;go_wp2;go_roundw
        case rel=>exact ⟨k+1,(d.1,d.2++[(n1,s2)]),(w3.heap.size+1),cap,by omega,by go_num,aG,aF,aO,aH,aJ.out.lowB (aV.out.setCell (p:=⟨w2.heap.size,1,none⟩) aI.out.bx _) (by omega),aP.out.trans ((aV.out.setCell (p:=⟨w2.heap.size,1,none⟩) aI.out.bx _).mono (by omega)),by simp;omega⟩
        case measure=>simp [intOf];omega
      ·have aN:=hid hO
       clear hO
       go_region_law (first | (refine step_append_lies _ (by rfl) _ _ _ (by rfl) (w.heap.size+1+1) 97 i0 _ 2 24 Tryz.underlying29 HI.out.1 HI.out.2.1 HI.out.2.2.1 HI.out.2.2.2 (by kernel_rfl) (by omega) (.slice (some ⟨b,0,none⟩) d.2.length cv) d.2.length (yaV d.2) (by rfl) aN.out.1 ⟨w3.heap.size,0,none⟩ 1 1 [.int .i64 n1,.string s2] (by rfl) (by simp) (World.news_of_block (heap_alloc_new w3.drew (.cells #[.int .i64 n1,.string s2] 97))) (fun u hu=>by simp at hu;rcases hu with rfl | rfl<;>rfl) (by omega) (by unfold maxLen;omega) (by omega) (by simp;omega) (w3.heap.size+1) (by simp) ?_;intro g9 cap w5 aL aD dU eP;have q4:=(aI.out.rx.grown aD (fun e=>aN.out.2.1 (by injection e with e;exact e.symm))).cell 1 _ rfl;have q5:=(aI.out.rx.grown aD (fun e=>aN.out.2.1 (by injection e with e;exact e.symm))).froz 1 (by simp);have q6:=(aI.out.rx.grown aD (fun e=>aN.out.2.1 (by injection e with e;exact e.symm))).lt;have cK:=hid aL;have aZ:=hid aD;have dJ:=hid dU;clear aL aD dU))
       all_goals
        have aH:Hid (SV (w5.setCell ⟨w2.heap.size,1,none⟩ (.slice (some ⟨g9,0,none⟩) (d.2.length+1) cap)) (w.heap.size+1+1) w2.heap.size g ss.length c1 g9 cap d.1 (d.2++[(n1,s2)])):=by
         have e:=aI.out.push (g9:=g9) (cap:=cap) (row:=some b) (x:=(n1,s2)) cK.out aZ.out (fun e=>aN.out.2.1 (by injection e)) (fun e=>aN.out.2.2 (by injection e)) (by have h1:=dJ.out;have h2:=aN.out.2.1;simp [Value.ownBlock] at h1;omega) (by have h1:=dJ.out;have h2:=aN.out.2.2;simp [Value.ownBlock] at h1;omega);exact e
        have aV:Hid (Below (w.heap.size+1+1) wr w5):=(aE.out.mono cN).trans ((((Below.refl w3.heap.size w3).drew.alloc (Nat.le_refl _) (.cells #[.int .i64 n1,.string s2] 97)).mono (by omega)).trans (jJX aZ.out (by simp;omega) (fun k hk=>(aN.out.1.lt k hk).1)));have dZ:=aV.out.size;go_wp2;go_roundw
        case rel=>exact ⟨k+1,(d.1,d.2++[(n1,s2)]),g9,cap,by omega,by go_num,aG,aF,aO,aH,aJ.out.lowB (aV.out.setCell (p:=⟨w2.heap.size,1,none⟩) aI.out.bx _) (by omega),aP.out.trans ((aV.out.setCell (p:=⟨w2.heap.size,1,none⟩) aI.out.bx _).mono (by omega)),by simp;omega⟩
        case measure=>simp [intOf];omega
     ·have cQ:¬ (d.2.length:Int)<300:=by omega
      rw [zuS d (n1,s2) (.inr dR)] at aO aG aF;go_wp2_with fail;clear x0 x1 bY cC;refine wp_region_held_drew (S:=fun w'=>w'.cell? ⟨w2.heap.size,0,none⟩=some (.slice (some ⟨g,0,none⟩) ss.length c1)/\w'.cell? ⟨w2.heap.size,1,none⟩=some (.slice (some ⟨b,0,none⟩) d.2.length cv)/\w'.cell? ⟨bo,oo+k*3+1,none⟩=some (.int .i64 n1)/\w'.cell? ⟨bo,oo+k*3+2,none⟩=some (.string s2)) (by kernel_rfl) (aS.out _ (Below.refl _ _).drew) (fun aB=>?_);refine TY 0 (.agg #[.slice (some ⟨g,0,none⟩) ss.length c1,.slice (some ⟨b,0,none⟩) d.2.length cv]) rfl aB (TY 1 (.slice (some ⟨bo,oo,none⟩) rs.length cf) rfl aB (TY 2 (.int .i64 (k:Int)) rfl aB (TY 3 (.pointer (some ⟨bo,oo+k*3,none⟩)) rfl aB (TY 4 (.pointer (some ⟨bo,oo+k*3+1,none⟩)) rfl aB (TY 5 (.int .i64 n1) rfl aB (TY 6 (.slice (some ⟨bo,oo,none⟩) rs.length cf) rfl aB (TY 7 (.int .i64 (k:Int)) rfl aB (TY 8 (.pointer (some ⟨bo,oo+k*3,none⟩)) rfl aB (TY 9 (.pointer (some ⟨bo,oo+k*3+2,none⟩)) rfl aB (TY 10 (.string s2) rfl aB ?_))))))))))
      simp only [PS];refine RD 11 rfl (fun K hK=>?_);refine XRf (by rfl) _ _ (by go_simp) (bJ.out _) ?_;rintro e w3 ⟨rfl,aK⟩;refine ⟨_,rfl,?_⟩;refine hK.out _ _ (aS.out _ ((Below.refl _ _).drew.trans aK)) (fun aA=>?_);clear hK K
      try simp only [PS]
      refine TY 12 (.bool true) rfl aA (TY 13 (.pointer (some ⟨w2.heap.size,1,none⟩)) rfl aA (TY 14 (.slice (some ⟨b,0,none⟩) d.2.length cv) rfl aA (TY 15 (.int .i64 (d.2.length:Int)) rfl aA (TY 16 (.bool false) rfl aA (TY 17 (.bool false) rfl aA ?_)))));simp only [PS];refine DN ?_;have aE:=hid ((Below.refl wr.heap.size wr).drew.trans aK);have dY:=aE.out.size;clear aB aK;go_wp2;go_roundw
      case rel=>exact ⟨k+1,_,b,cv,by omega,by go_num,aG,aF,aO,aC.out.below aE.out,aJ.out.below aE.out,Below.then aP.out (Nat.le_refl _) aE.out,by omega⟩
      case measure=>simp [intOf];omega
  ·have fC:k=m:=by omega
   have cS:Hid (d=aY):=by
    have:=HK.out;rw [List.drop_of_length_le (by rw [bC];omega)] at this;exact this
   clear HK aU;obtain rfl:=cS.out;have q0:=aC.out.rx.cell 0 _ rfl;have q1:=aC.out.rx.cell 1 _ rfl;have r0:=aJ.out.cell 0 _ rfl;have r1:=aJ.out.cell 1 _ rfl;obtain ⟨fQ,gE⟩:=aJ.out.z2;have fY:=aJ.out.lt;have fZ:=aP.out.size;have gF:=aC.out.xg;have gG:=aC.out.bg
   have bI:∃ a1 aT aM bU,Zoj (some ⟨g,0,none⟩) ss.length c1 (some ⟨b,0,none⟩) d.2.length cv=Zoj a1 ss.length aT aM d.2.length bU/\OwnD ((wr.setCell ⟨w.heap.size+1,0,none⟩ (.slice (some ⟨g,0,none⟩) ss.length c1)).setCell ⟨w.heap.size+1,1,none⟩ (.slice (some ⟨b,0,none⟩) d.2.length cv)) a1 d.1 aM d.2/\(∀ g,blk a1 ss.length=some g->w.heap.size<=g)/\(∀ g,blk aM d.2.length=some g->w.heap.size<=g):=by
    have ho:=aC.out.own;refine ⟨_,_,_,_,rfl,⟨.inr ⟨g,rfl,(aC.out.rs.other _ (by show w.heap.size+1≠g;omega) _).other _ (by show w.heap.size+1≠g;omega) _⟩,(ho.1.setp _ (fun g3 e3 aW e=>?_) _).setp _ (fun g3 e3 aW e=>?_) _,?_⟩,fun g' aR=>?_,fun g' aR=>?_⟩
    ·have:=ho.2 aW;injection e3 with e3;injection e3 with e3;have e':w.heap.size+1=g3:=e;omega
    ·have:=ho.2 aW;injection e3 with e3;injection e3 with e3;have e':w.heap.size+1=g3:=e;omega
    ·by_cases h0:d.2.length=0
     ·exact .inr (.inl (by simp [blk,h0]))
     ·have aW:yaV d.2≠[]:=fun e=>h0 (by have:=congrArg List.length e;rw [zPu,List.length_nil] at this;omega)
      refine .inr (.inr (fun e=>?_));rw [qdd g 0 _ (by omega),qdd b 0 _ h0] at e;injection e with e;exact (ho.2 aW).1 e.symm
    ·have:=qdd g 0 ss.length (by omega);rw [this] at aR;injection aR with aR;omega
    ·by_cases h0:d.2.length=0
     ·simp [blk,h0] at aR
     ·have aW:yaV d.2≠[]:=fun e=>h0 (by have:=congrArg List.length e;rw [zPu,List.length_nil] at this;omega)
      rw [qdd b 0 _ h0] at aR;injection aR with aR;have:=(ho.2 aW).2.2;omega
   have aH:=hid bI;have cZ:=hid ((aP.out.setCell (p:=⟨w.heap.size+1,0,none⟩) (by show w.heap.size<=w.heap.size+1;omega) (.slice (some ⟨g,0,none⟩) ss.length c1)).setCell (p:=⟨w.heap.size+1,1,none⟩) (by show w.heap.size<=w.heap.size+1;omega) (.slice (some ⟨b,0,none⟩) d.2.length cv));clear bI;rcases eK.out with hx | ⟨hx,eS⟩
   ·have aX:¬ (k:Int)<(rs.length:Int):=by omega
    go_wp2;refine bodyPost_ret (v:=Zoj (some ⟨g,0,none⟩) ss.length c1 (some ⟨b,0,none⟩) d.2.length cv) (by simp [results,Tryz.results65,go_sem,r0,r1]) rfl ?_;obtain ⟨a1,aT,aM,bU,e1,e2,e3,e4⟩:=aH.out;exact ⟨a1,aT,aM,⟨bU,by rw [e1]⟩,e2,e3,e4,cZ.out⟩
   ·have aX:(k:Int)<(rs.length:Int):=by omega
    have eU:¬ (k:Int)<z:=by omega
    go_wp2;refine bodyPost_ret (v:=Zoj (some ⟨g,0,none⟩) ss.length c1 (some ⟨b,0,none⟩) d.2.length cv) (by simp [results,Tryz.results65,go_sem,r0,r1]) rfl ?_;obtain ⟨a1,aT,aM,bU,e1,e2,e3,e4⟩:=aH.out;exact ⟨a1,aT,aM,⟨bU,by rw [e1]⟩,e2,e3,e4,cZ.out⟩
theorem JQN (a:Option Addr) (ss:List ByteArray) (c:Nat) (a':Option Addr) (ws:List (Int×ByteArray)) (c':Nat) (v z:Value) (w:World) (h:Strs w a ss) (h':Wrs w a' ws) (hl:ss.length<=1048576) (aF:ws.length<=1048576) (hs:∀ s∈ss,s.size<=1048576) (aE:∀ x∈ws,x.2.size<=1048576) (aC:vlG ss ws=false) :
  Calls Tryz.prog 65 #[Zoj a ss.length c a' ws.length c',v,z] w fun e w'=>e=.returned (Zoj none 0 0 none 0 0)/\Below w.heap.size w w':=by
 have aB:∀ o1 o2,Below w.heap.size w ((w.alloc o1).alloc o2):=fun o1 o2=>((Below.refl _ _).alloc (Nat.le_refl _) _).alloc (by simp) _
 go_enter Tryz.func65,Tryz.ntmps65;go_wp2_with fail;refine (xpE a ss c a' ws c' _ (h.below (aB _ _)) (h'.below (aB _ _)) hl aF hs aE).mono ?_;rw [aC];rintro e w1 ⟨rfl,aA⟩;have aD:=hid ((aB _ _).trans (aA.mono (by simp;omega)));have rR:=(kR4 (w.alloc (.cells #[.slice a ss.length c,.slice a' ws.length c'] 31)) #[.slice none 0 0,.slice none 0 0] 31 (w.heap.size+1) (by simp)).below aA;have r0:=rR.cell 0 _ rfl;have r1:=rR.cell 1 _ rfl;obtain ⟨aH,aG⟩:=rR.z2;clear rR aA;go_wp2;exact bodyPost_ret (v:=Zoj none 0 0 none 0 0) (by simp [results,Tryz.results65,go_sem,r0,r1]) rfl ⟨rfl,(aD.out.setCell (by show w.heap.size<=w.heap.size+1;omega) _).setCell (by show w.heap.size<=w.heap.size+1;omega) _⟩
theorem jEL (a:Option Addr) (ss:List ByteArray) (c:Nat) (a':Option Addr) (ws:List (Int×ByteArray)) (c':Nat) (f:Option Addr) (rs:List (Bool×Int×ByteArray)) (cf:Nat) (z:Int) (w:World) (h:Strs w a ss) (h':Wrs w a' ws) (hz:Ops w f rs) (aF:rs.length<=1048576) (aE:∀ x∈rs,x.2.2.size<=1048576) (hl:ss.length<=1048576) (aG:ws.length<=1048576) (hs:∀ s∈ss,s.size<=1048576) (aD:∀ x∈ws,x.2.size<=1048576) :
  Calls Tryz.prog 65 #[Zoj a ss.length c a' ws.length c',.slice f rs.length cf,.int .i64 z] w fun e w'=>∃ a1 c1 aB aC,e=.returned (Zoj a1 (pfR ss ws rs z).1.length c1 aB (pfR ss ws rs z).2.length aC)/\OwnD w' a1 (pfR ss ws rs z).1 aB (pfR ss ws rs z).2/\(∀ g,blk a1 (pfR ss ws rs z).1.length=some g->w.heap.size<=g)/\(∀ g,blk aB (pfR ss ws rs z).2.length=some g->w.heap.size<=g)/\Below w.heap.size w w':=by
 by_cases aA:vlG ss ws=true
 ·have e1:pfR ss ws rs z=JKX (rs.take (pfN z rs.length)) (ss,ws):=by simp [pfR,aA]
  rw [e1];exact q07 a ss c a' ws c' f rs cf z w h h' hz aF aE aA
 ·have e1:pfR ss ws rs z=([],[]):=by simp [pfR,aA]
  rw [e1];refine (JQN a ss c a' ws c' _ _ w h h' hl aG hs aD (by simpa using aA)).mono ?_;rintro e w' ⟨rfl,hb⟩;exact ⟨none,0,none,0,rfl,⟨.inl rfl,.inl rfl,.inl rfl⟩,(fun g hg=>by cases hg),(fun g hg=>by cases hg),hb⟩
end Go.Proofs.YtcdojnnkjeakmaaGreatDoor
