import Derived.Test.YthdilmkbnpmdaaaPrG45
set_option maxHeartbeats 16000000
namespace Go.Proofs.Ythdilmkbnpmdaaa
open Go.RowKit
set_option linter.unusedVariables false
set_option linter.unusedSimpArgs false
theorem step_append_first {P:Program} {ops:Array Oper} {o:Oper} {a:Act} {w:World} {K:Act->World->Prop} {Q:Exit->Act->World->Prop} {E:Prop} (hgd:o.guard=none) (s x:Operand) (t:TypeId)
  (hop:o.op=.call { callee:=.builtin .append,args:=#[s,x],argTypes:=#[t,t] })
  (base:Nat) (e:TypeId) (i:TypeInfo) (z:Value) (size bytes:Nat) (ht:P.underlying t=some (.slice e)) (hi:P.info? e=some i) (hz:i.zero=some z)
  (hsize:i.size=size) (hby:i.bytes=bytes) (hzs:z.cells.size=size)
  (b:Nat) (hs:a.eval s=.slice (some ⟨b,0,none⟩) 0 0)
  (ad:Addr) (n c:Nat) (news:List Value) (hx:a.eval x=.slice (some ad) n c) (hl:news.length=n*size) (hnews:∀ j u,news[j]?=some u->w.cell? (ad.add j)=some u) (h1:∀ u∈news,u.oneCell'=true)
  (hm:0<n) (h63:n<=1048576) (hbytes:n*bytes<=140737488355328) (hbase:base<=w.heap.size) (H:Nat) (hH:w.heap.size=H)
  (h:∀ cap w',w'.ownsRow base e size (.slice (some ⟨H,0,none⟩) n cap) n news->w.grownBy w' none->K (a.put o.dst (.slice (some ⟨H,0,none⟩) n cap)) w') :
  if Region.wanted o (yielded ops a.tmps)=true then Oper.wp P o a w K Q else E:=by
 have hw:Region.wanted o (yielded ops a.tmps)=true:=by simp [Region.wanted,hgd]
 rw [if_pos hw]
 subst hsize hby hH
 have hsrc:Src P i.size t (.slice (some ad) n c) n news w:=Src.ofSlice w ht ad n c news hl hnews h1
 have hold:(Builtin.firstCells i.size 0 (.slice (some ⟨b,0,none⟩) 0 0)).run P w.drew=.ok ([]:List Value).toArray w.drew:=run_firstCells_some w.drew i.size 0 _ 0 0 [] (by simp) (by simp)
 have hrun:=run_append_grow_src (P:=P) w t t o.type e i z ht hi hz (some ⟨b,0,none⟩) 0 0 [] hold (.slice (some ad) n c) n news hsrc (by omega) (by omega) (by rw [Nat.zero_add,nsc n (by omega)];omega)
 unfold Oper.wp
 simp [execOp,hop,resolve,invoke,builtin,hs,hx,hrun,Result.andThen]
 have hge:=grownCap_ge w n 0 e
 have hle:=grownCap_le_maxLen w n 0 e (by unfold maxLen;omega)
 refine h _ _ ⟨hl,.inr ⟨w.heap.size,_,_,rfl,hbase,heap_alloc_new w.drew _,hge,hle,?_,?_⟩⟩ (grown_of_below none ((Below.refl _ _).drew.alloc (Nat.le_refl _) _))
 ·simp [size_zeroCells,hl,hzs]
  rw [<-Nat.add_mul]
  congr 1
  omega
 ·simp [hl]
structure SV (w:World) (base X g n c b cv:Nat) (ss:List ByteArray) (ws:List (Int×ByteArray)):Prop where
 rx:Row w X [.slice (some ⟨g,0,none⟩) n c,.slice (some ⟨b,0,none⟩) ws.length cv]
 rs:Row w g (ss.map Value.string)
 pd:(ws=[]/\cv=0)\/(w.ownsRow base 46 2 (.slice (some ⟨b,0,none⟩) ws.length cv) ws.length (wcells ws)/\b≠X/\b≠g)
 xg:X≠g
 bx:base<=X
 bg:base<=g
theorem SV.below {w w':World} {base X g n c b cv:Nat} {ss:List ByteArray} {ws:List (Int×ByteArray)} (h:SV w base X g n c b cv ss ws) (hb:Below w.heap.size w w'):SV w' base X g n c b cv ss ws :=
 ⟨h.rx.below hb,h.rs.below hb,h.pd.imp id (fun k=>⟨owns_below k.1 hb,k.2⟩),h.xg,h.bx,h.bg⟩
theorem SV.own {w:World} {base X g n c b cv:Nat} {ss:List ByteArray} {ws:List (Int×ByteArray)} (h:SV w base X g n c b cv ss ws):OwnS w (some ⟨b,0,none⟩) (wcells ws)/\(wcells ws≠[]->b≠g/\b≠X/\base<=b):=by
 rcases h.pd with ⟨rfl,_⟩ | ⟨k,k1,k2⟩
 ·exact ⟨.inl rfl,fun e=>absurd rfl e⟩
 ·rcases owns_forms k with ⟨e,h0⟩ | ⟨g2,cap,e,hb,_,hr⟩
  ·cases e
  ·injection e with e1 e2 e3
   injection e1 with e1
   injection e1 with e1
   subst e1
   exact ⟨.inr ⟨b,rfl,hr⟩,fun _=>⟨k2,k1,hb⟩⟩
theorem SV.sync {w w':World} {base X g n c b cv x:Nat} {ss ss':List ByteArray} {ws:List (Int×ByteArray)} (h:SV w base X g n c b cv ss ws) (hr:Row w' g (ss'.map Value.string)) (hg:w.grownBy w' (some g)) :
  SV ((w'.setCell ⟨X,0,none⟩ (.slice (some ⟨g,0,none⟩) n c)).setCell ⟨X,1,none⟩ (.slice (some ⟨x,0,none⟩) 0 0)) base X g n c x 0 ss' [] :=
 ⟨((h.rx.grown hg (fun e=>h.xg (by injection e))).set 0 (by simp) _).set 1 (by simp) _,(hr.other _ h.xg _).other _ h.xg _,.inl ⟨rfl,rfl⟩,h.xg,h.bx,h.bg⟩
theorem SV.push {w w3:World} {base X g n c b cv g9 cap:Nat} {ss:List ByteArray} {ws:List (Int×ByteArray)} {x:Int×ByteArray} {row:Option Nat} (h:SV w base X g n c b cv ss ws) (hown:w3.ownsRow base 46 2 (.slice (some ⟨g9,0,none⟩) (ws.length+1) cap) (ws.length+1) (wcells ws++[.int .i64 x.1,.string x.2])) (hgr:w.grownBy w3 row) (hx:row≠some X) (hg:row≠some g) (h9:g9≠X) (h9':g9≠g) :
  SV (w3.setCell ⟨X,1,none⟩ (.slice (some ⟨g9,0,none⟩) (ws.length+1) cap)) base X g n c g9 cap ss (ws++[x]):=by
 have e2:(ws++[x]).length=ws.length+1:=by simp
 have e3:wcells (ws++[x])=wcells ws++[.int .i64 x.1,.string x.2]:=by simp [wcells]
 have hs:=hown.kept (w':=w3.setCell ⟨X,1,none⟩ (.slice (some ⟨g9,0,none⟩) (ws.length+1) cap)) (row:=some X) (grown_set (World.grownBy.refl _ _) _ _) (.inr (fun e=>h9 (by injection e)))
 refine ⟨?_,(h.rs.grown hgr (fun e=>hg e.symm)).other _ h.xg _,.inr ⟨?_,h9,h9'⟩,h.xg,h.bx,h.bg⟩
 ·rw [e2];exact (h.rx.grown hgr (fun e=>hx e.symm)).set 1 (by simp) _
 ·rw [e2,e3];exact hs
set_option maxRecDepth 100000 in
theorem pf_s (a:Option Addr) (ss:List ByteArray) (c:Nat) (a':Option Addr) (ws:List (Int×ByteArray)) (c':Nat) (f:Option Addr) (rs:List (Bool×Int×ByteArray)) (cf:Nat) (z:Int) (w:World) (h:Strs w a ss) (h':Wrs w a' ws) (hz:Ops w f rs) (hlz:rs.length<=1048576) (hsz:∀ x∈rs,x.2.2.size<=1048576) (hok:diskOk ss ws=true) :
  Calls Try.prog 7 #[diskV a ss.length c a' ws.length c',.slice f rs.length cf,.int .i64 z] w fun e w'=>∃ a1 c1 a1' c1',e=.returned (diskV a1 (opsD (rs.take (pfN z rs.length)) (ss,ws)).1.length c1 a1' (opsD (rs.take (pfN z rs.length)) (ss,ws)).2.length c1')/\OwnD w' a1 (opsD (rs.take (pfN z rs.length)) (ss,ws)).1 a1' (opsD (rs.take (pfN z rs.length)) (ss,ws)).2/\(∀ g,blk a1 (opsD (rs.take (pfN z rs.length)) (ss,ws)).1.length=some g->w.heap.size<=g)/\(∀ g,blk a1' (opsD (rs.take (pfN z rs.length)) (ss,ws)).2.length=some g->w.heap.size<=g)/\Below w.heap.size w w':=by
 obtain ⟨i0,hi0,hz0,hz1,hz2⟩:=info_parts' infoWr
 have HI:=hid (And.intro hi0 (And.intro hz0 (And.intro hz1 hz2)))
 clear hi0 hz0 hz1 hz2
 obtain ⟨⟨hn1,hn2,hn3⟩,h64,hw⟩:=diskOk_of hok
 have hb0:∀ o1 o2,Below w.heap.size w ((w.alloc o1).alloc o2):=fun o1 o2=>((Below.refl _ _).alloc (Nat.le_refl _) _).alloc (by simp) _
 obtain ⟨m,HM⟩:∃ m,Hid (m=pfN z rs.length):=⟨_,hid rfl⟩
 have hml:m<=rs.length:=by rw [HM.out];exact pfN_le _ _
 have hmz:Hid (m=rs.length\/((m:Int)<rs.length/\¬ (m:Int)<z)):=by show _\/_;rw [HM.out];unfold pfN;omega
 have hmy:Hid (∀ k:Nat,k<m->(k:Int)<z):=fun k hk=>by rw [HM.out] at hk;unfold pfN at hk;omega
 rw [<-HM.out]
 obtain ⟨RS,HRS⟩:∃ RS,Hid (RS=rs.take m):=⟨_,hid rfl⟩
 have hRSl:RS.length=m:=by rw [HRS.out];simp;omega
 rw [<-HRS.out]
 obtain ⟨RES,HRES⟩:∃ RES,Hid (RES=opsD RS (ss,ws)):=⟨_,hid rfl⟩
 rw [<-HRES.out]
 go_enter Try.func7,Try.ntmps7
 go_wp2_with fail
 refine (valid_s a ss c a' ws c' _ (h.below (hb0 _ _)) (h'.below (hb0 _ _)) (by omega) (by omega) (fun s hs=>by have:=h64 s hs;omega) (fun x hx=>by have:=of_decide_eq_true (hw x hx);omega)).mono ?_
 rw [hok]
 rintro e w1 ⟨rfl,hb1⟩
 have hB1:=(hb0 _ _).trans (hb1.mono (by simp;omega))
 obtain ⟨q1,q2⟩:=bcell hb1
 have rR:=(row_new' (w.alloc (.cells #[.slice a ss.length c,.slice a' ws.length c'] 26)) #[.slice none 0 0,.slice none 0 0] 26 (w.heap.size+1) (by simp)).below hb1
 have HRR:=hid rR
 have HB1:=hid hB1
 clear rR hb1 hB1
 go_wp2_with fail
 refine (copy_s2 a ss c a' ws c' _ (h.below HB1.out) (h'.below HB1.out) hn2 hn3).mono ?_
 rintro e w2 ⟨g,c1,b,cv,rfl,hod,hg1,hg2,hpo,hb2⟩
 clear q1 q2
 have HRR2:=hid (HRR.out.below hb2)
 have hw1s:w.heap.size+1<w1.heap.size:=HRR.out.lt
 have hg1':=hg1 g (blk_pos g 0 _ (by omega))
 have hgl:g<w2.heap.size:=hod.s.lt ss.length (fun _=>strs_ne (by omega)) g (blk_pos g 0 _ (by omega))
 have hrg:Row w2 g (ss.map Value.string):=by
  rcases hod.s with h0 | ⟨g',e,hr⟩
  ·exact absurd h0 (strs_ne (by omega))
  ·injection e with e;injection e with e;rw [e];exact hr
 have hw2s:=hb2.size
 have hst:SV (w2.alloc (.cells #[.slice (some ⟨g,0,none⟩) ss.length c1,.slice (some ⟨b,0,none⟩) ws.length cv] 26)) (w.heap.size+1+1) w2.heap.size g ss.length c1 b cv ss ws:=by
  refine ⟨row_new _ _ _,hrg.alloc _,?_,by omega,by omega,by omega⟩
  rcases hpo with k | k
  ·exact .inl k
  ·refine .inr ⟨(owns_below k.1 (below_new _ _)).mono (by omega),?_,?_⟩
   ·have:=(k.1.lt b rfl).2;omega
   ·intro e
    subst e
    rcases hod.ne with h1 | h1 | h1
    ·rw [blk_pos _ 0 _ (by omega)] at h1;cases h1
    ·rw [blk_pos _ 0 _ k.2] at h1;cases h1
    ·rw [blk_pos _ 0 _ (by omega),blk_pos _ 0 _ k.2] at h1;exact h1 rfl
 have hszx:w.heap.size+1+1<=(w2.alloc (.cells #[.slice (some ⟨g,0,none⟩) ss.length c1,.slice (some ⟨b,0,none⟩) ws.length cv] 26)).heap.size:=by simp;omega
 have HST:=hid hst
 have HR0:=hid (HRR2.out.alloc (.cells #[.slice (some ⟨g,0,none⟩) ss.length c1,.slice (some ⟨b,0,none⟩) ws.length cv] 26))
 have HBW:=hid (Below.then (Below.then HB1.out (Nat.le_refl _) hb2) (Nat.le_refl _) (below_new w2 (.cells #[.slice (some ⟨g,0,none⟩) ss.length c1,.slice (some ⟨b,0,none⟩) ws.length cv] 26)))
 have HOK:=hid hok
 clear hst hod hg1 hg2 hpo hb2 HB1 HRR HRR2 hrg
 go_wp2
 obtain ⟨wq,HWQ⟩:∃ wq,wq=w2.alloc (.cells #[.slice (some ⟨g,0,none⟩) ss.length c1,.slice (some ⟨b,0,none⟩) ws.length cv] 26):=⟨_,rfl⟩
 rw [<-HWQ] at HST HR0 HBW hszx ⊢
 clear HWQ
 go_loopw [8] (fun i wr=>∃ (k:Nat) (d:List ByteArray×List (Int×ByteArray)) (b cv:Nat),k<=m/\i=.int .i64 k/\d.1.length=ss.length/\Hid (diskOk d.1 d.2=true)/\Hid (opsD (RS.drop k) d=RES)/\Hid (SV wr (w.heap.size+1+1) w2.heap.size g ss.length c1 b cv d.1 d.2)/\Hid (Row wr (w.heap.size+1) [.slice none 0 0,.slice none 0 0])/\Hid (Below w.heap.size w wr)/\w.heap.size+1+1<=wr.heap.size) (fun i _=>m-(intOf i).toNat)
 case atStart=>exact ⟨0,(ss,ws),b,cv,Nat.zero_le _,rfl,rfl,HOK,by show _=_;rw [List.drop_zero,HRES.out],HST,HR0,HBW,hszx⟩
 case round =>
  clear HST HR0 HBW
  obtain ⟨k,d,b,cv,hk,rfl,hdl,HDO,HK,HSV,HRR,HBE,hsw⟩:=hrel
  obtain ⟨⟨hm1,hm2,hm3⟩,hm64,hmw⟩:=diskOk_of HDO.out
  by_cases hlt:k<m
  ·have hkz:(k:Int)<z:=hmy.out k hlt
   have hkl:k<rs.length:=by omega
   obtain ⟨bo,oo,s0,n1,s2,rfl,hc0,hc1,hc2,HS⟩:=(hz.below HBE.out).at hkl
   have hmem:(s0,n1,s2)∈rs:=by rw [HS.out];simp [List.getD,hkl]
   have hs2:s2.size<=1048576:=hsz _ hmem
   have hob:bo<w.heap.size:=by
    rcases hz with h0 | ⟨b9,o9,e9,l9,_⟩
    ·rw [h0] at hkl;simp at hkl
    ·injection e9 with e9;injection e9 with e9 _;rw [e9];exact l9
   have HK':Hid (opsD (RS.drop (k+1)) (opD d (s0,n1,s2))=RES):=by
    show _=_
    have e:RS.getD k (false,0,ByteArray.empty)=(s0,n1,s2):=by rw [HS.out,HRS.out];simp [List.getD,List.getElem?_take,hlt]
    rw [<-HK.out,drop_at RS k (false,0,ByteArray.empty) (by rw [hRSl];exact hlt),e,opsD]
   have hdl':(opD d (s0,n1,s2)).1.length=ss.length:=by rw [opD_len];exact hdl
   have HDO':Hid (diskOk (opD d (s0,n1,s2)).1 (opD d (s0,n1,s2)).2=true):=opD_ok d _ HDO.out
   have x0:=HSV.out.rx.cell 0 _ rfl
   have x1:=HSV.out.rx.cell 1 _ rfl
   have hXl:=HSV.out.rx.lt
   have hbw:=HBE.out.size
   cases s0 with
   | true =>
    rw [opD_sync] at HK' hdl' HDO'
    have HSY:=hid (sync_s g b d.1 c1 d.2 cv wr HSV.out.rs HSV.out.own.1 (fun e=>(HSV.out.own.2 e).1) (by omega) (by omega) (fun x hx=>(wOk_64 (hmw x hx)).1))
    rw [hdl] at HSY
    obtain ⟨fx0,fx1⟩:=HSV.out.rx.z2
    go_wp2_with (go_at_call 22;refine HSY.out.mono ?_;rintro e w4 ⟨x,rfl,hx1,hx2,hr4,hg4⟩;have y0:=(HSV.out.rx.grown hg4 (fun e=>HSV.out.xg (by injection e))).cell 0 _ rfl;have y1:=(HSV.out.rx.grown hg4 (fun e=>HSV.out.xg (by injection e))).cell 1 _ rfl;have y2:=(HSV.out.rx.grown hg4 (fun e=>HSV.out.xg (by injection e))).froz 0 (by simp);have y3:=(HSV.out.rx.grown hg4 (fun e=>HSV.out.xg (by injection e))).froz 1 (by simp);have y4:=(HSV.out.rx.grown hg4 (fun e=>HSV.out.xg (by injection e))).lt)
    have HSV':=hid (HSV.out.sync (x:=x) hr4 hg4)
    have HB4:=hid (((grown_below hg4 hsw (fun k hk=>by cases hk;exact HSV.out.bg)).setCell (p:=⟨w2.heap.size,0,none⟩) HSV.out.bx (.slice (some ⟨g,0,none⟩) ss.length c1)).setCell (p:=⟨w2.heap.size,1,none⟩) HSV.out.bx (.slice (some ⟨x,0,none⟩) 0 0))
    have hs4:=HB4.out.size
    clear hr4 hg4 y0 y1 y2 y3 y4
    go_roundw
    case rel=>exact ⟨k+1,_,x,0,by omega,by go_num,hdl',HDO',HK',HSV',HRR.out.lowB HB4.out (by omega),HBE.out.trans (HB4.out.mono (by omega)),by omega⟩
    case measure=>simp [intOf];omega
   | false =>
    have HCA:=hid (fun w'=>can_s (some ⟨g,0,none⟩) ss.length c1 (some ⟨b,0,none⟩) d.2.length cv n1 s2 w' hs2 (by omega))
    have HS9:Hid (∀ w',Below wr.heap.size wr w'->w'.cell? ⟨w2.heap.size,0,none⟩=some (.slice (some ⟨g,0,none⟩) ss.length c1)/\w'.cell? ⟨w2.heap.size,1,none⟩=some (.slice (some ⟨b,0,none⟩) d.2.length cv)/\w'.cell? ⟨bo,oo+k*3+1,none⟩=some (.int .i64 n1)/\w'.cell? ⟨bo,oo+k*3+2,none⟩=some (.string s2)):=fun w' hb=>⟨(HSV.out.below hb).rx.cell 0 _ rfl,(HSV.out.below hb).rx.cell 1 _ rfl,(hb.cell (p:=⟨bo,oo+k*3+1,none⟩) (by show bo<_;omega)).trans hc1,(hb.cell (p:=⟨bo,oo+k*3+2,none⟩) (by show bo<_;omega)).trans hc2⟩
    have hk0:(0:Int)<=(k:Int):=by omega
    have hk1:(k:Int)<(rs.length:Int):=by omega
    cases hc:wOk ss.length (n1,s2) with
    | false =>
     rw [opD_no d (n1,s2) (.inl (by rw [hdl];exact hc))] at HK' hdl' HDO'
     rw [hc] at HCA
     go_wp2_with fail
     clear x0 x1 hc1 hc2
     refine wp_region_held_drew (S:=fun w'=>w'.cell? ⟨w2.heap.size,0,none⟩=some (.slice (some ⟨g,0,none⟩) ss.length c1)/\w'.cell? ⟨w2.heap.size,1,none⟩=some (.slice (some ⟨b,0,none⟩) d.2.length cv)/\w'.cell? ⟨bo,oo+k*3+1,none⟩=some (.int .i64 n1)/\w'.cell? ⟨bo,oo+k*3+2,none⟩=some (.string s2)) (by kernel_rfl) (HS9.out _ (Below.refl _ _).drew) (fun hHe=>?_)
     refine TY 0 (.agg #[.slice (some ⟨g,0,none⟩) ss.length c1,.slice (some ⟨b,0,none⟩) d.2.length cv]) rfl hHe ?_
     simp only [PS]
     refine TY 1 (.slice (some ⟨bo,oo,none⟩) rs.length cf) rfl hHe ?_
     simp only [PS]
     refine TY 2 (.int .i64 (k:Int)) rfl hHe ?_
     simp only [PS]
     refine TY 3 (.pointer (some ⟨bo,oo+k*3,none⟩)) rfl hHe ?_
     simp only [PS]
     refine TY 4 (.pointer (some ⟨bo,oo+k*3+1,none⟩)) rfl hHe ?_
     simp only [PS]
     refine TY 5 (.int .i64 n1) rfl hHe ?_
     simp only [PS]
     refine TY 6 (.slice (some ⟨bo,oo,none⟩) rs.length cf) rfl hHe ?_
     simp only [PS]
     refine TY 7 (.int .i64 (k:Int)) rfl hHe ?_
     simp only [PS]
     refine TY 8 (.pointer (some ⟨bo,oo+k*3,none⟩)) rfl hHe ?_
     simp only [PS]
     refine TY 9 (.pointer (some ⟨bo,oo+k*3+2,none⟩)) rfl hHe ?_
     simp only [PS]
     refine TY 10 (.string s2) rfl hHe ?_
     simp only [PS]
     refine RD 11 rfl (fun K hK=>?_)
     refine step_call (by rfl) 23 #[.agg #[.slice (some ⟨g,0,none⟩) ss.length c1,.slice (some ⟨b,0,none⟩) d.2.length cv],.int .i64 n1,.string s2] (by go_simp) (HCA.out _) ?_
     rintro e w3 ⟨rfl,hb3⟩
     refine ⟨_,rfl,?_⟩
     refine hK.out _ _ (HS9.out _ ((Below.refl _ _).drew.trans hb3)) (fun hHd1=>?_)
     clear hK K
     try simp only [PS]
     refine TY 12 (.bool false) rfl hHd1 ?_
     simp only [PS]
     refine TK 13 (undef) rfl (Or.inr ⟨by kernel_rfl,rfl⟩) hHd1 ?_
     simp only [PS]
     refine TK 14 (undef) rfl (Or.inr ⟨by kernel_rfl,rfl⟩) hHd1 ?_
     simp only [PS]
     refine TK 15 (undef) rfl (Or.inr ⟨by kernel_rfl,rfl⟩) hHd1 ?_
     simp only [PS]
     refine TK 16 (undef) rfl (Or.inr ⟨by kernel_rfl,rfl⟩) hHd1 ?_
     simp only [PS]
     refine TY 17 (.bool false) rfl hHd1 ?_
     simp only [PS]
     refine DN ?_
     have HB3:=hid ((Below.refl wr.heap.size wr).drew.trans hb3)
     have hs3:=HB3.out.size
     clear hHe hb3
     go_wp2
     go_roundw
     case rel=>exact ⟨k+1,_,b,cv,by omega,by go_num,hdl',HDO',HK',HSV.out.below HB3.out,HRR.out.below HB3.out,Below.then HBE.out (Nat.le_refl _) HB3.out,by omega⟩
     case measure=>simp [intOf];omega
    | true =>
     rw [hc] at HCA
     by_cases hl3:d.2.length<300
     ·have hl3':(d.2.length:Int)<300:=by omega
      rw [opD_yes d (n1,s2) (by rw [hdl];exact hc) hl3] at HK' hdl' HDO'
      go_wp2_with fail
      clear x0 x1 hc1 hc2
      refine wp_region_held_drew (S:=fun w'=>w'.cell? ⟨w2.heap.size,0,none⟩=some (.slice (some ⟨g,0,none⟩) ss.length c1)/\w'.cell? ⟨w2.heap.size,1,none⟩=some (.slice (some ⟨b,0,none⟩) d.2.length cv)/\w'.cell? ⟨bo,oo+k*3+1,none⟩=some (.int .i64 n1)/\w'.cell? ⟨bo,oo+k*3+2,none⟩=some (.string s2)) (by kernel_rfl) (HS9.out _ (Below.refl _ _).drew) (fun hHe=>?_)
      refine TY 0 (.agg #[.slice (some ⟨g,0,none⟩) ss.length c1,.slice (some ⟨b,0,none⟩) d.2.length cv]) rfl hHe ?_
      simp only [PS]
      refine TY 1 (.slice (some ⟨bo,oo,none⟩) rs.length cf) rfl hHe ?_
      simp only [PS]
      refine TY 2 (.int .i64 (k:Int)) rfl hHe ?_
      simp only [PS]
      refine TY 3 (.pointer (some ⟨bo,oo+k*3,none⟩)) rfl hHe ?_
      simp only [PS]
      refine TY 4 (.pointer (some ⟨bo,oo+k*3+1,none⟩)) rfl hHe ?_
      simp only [PS]
      refine TY 5 (.int .i64 n1) rfl hHe ?_
      simp only [PS]
      refine TY 6 (.slice (some ⟨bo,oo,none⟩) rs.length cf) rfl hHe ?_
      simp only [PS]
      refine TY 7 (.int .i64 (k:Int)) rfl hHe ?_
      simp only [PS]
      refine TY 8 (.pointer (some ⟨bo,oo+k*3,none⟩)) rfl hHe ?_
      simp only [PS]
      refine TY 9 (.pointer (some ⟨bo,oo+k*3+2,none⟩)) rfl hHe ?_
      simp only [PS]
      refine TY 10 (.string s2) rfl hHe ?_
      simp only [PS]
      refine RD 11 rfl (fun K hK=>?_)
      refine step_call (by rfl) 23 #[.agg #[.slice (some ⟨g,0,none⟩) ss.length c1,.slice (some ⟨b,0,none⟩) d.2.length cv],.int .i64 n1,.string s2] (by go_simp) (HCA.out _) ?_
      rintro e w3 ⟨rfl,hb3⟩
      refine ⟨_,rfl,?_⟩
      refine hK.out _ _ (HS9.out _ ((Below.refl _ _).drew.trans hb3)) (fun hHd1=>?_)
      clear hK K
      try simp only [PS]
      refine TY 12 (.bool true) rfl hHd1 ?_
      simp only [PS]
      refine TY 13 (.pointer (some ⟨w2.heap.size,1,none⟩)) rfl hHd1 ?_
      simp only [PS]
      refine TY 14 (.slice (some ⟨b,0,none⟩) d.2.length cv) rfl hHd1 ?_
      simp only [PS]
      refine TY 15 (.int .i64 (d.2.length:Int)) rfl hHd1 ?_
      simp only [PS]
      refine TY 16 (.bool true) rfl hHd1 ?_
      simp only [PS]
      refine TY 17 (.bool true) rfl hHd1 ?_
      simp only [PS]
      refine DN ?_
      have HB3:=hid ((Below.refl wr.heap.size wr).drew.trans hb3)
      have hs3:=HB3.out.size
      have hn1:=(HS9.out _ HB3.out).2.2.1
      have hn2':=(HS9.out _ HB3.out).2.2.2
      have hX1:=(HSV.out.below HB3.out).rx.cell 1 _ rfl
      have hXf:=(HSV.out.below HB3.out).rx.froz 1 (by simp)
      have hXl3:=(HSV.out.below HB3.out).rx.lt
      have hgl3:=(HSV.out.below HB3.out).rs.lt
      clear hHe hb3
      go_wp2_with fail
      have HDA:=hid ((HSV.out.below HB3.out).below (((Below.refl w3.heap.size w3).drew).alloc (Nat.le_refl _) (.cells #[.int .i64 n1,.string s2] 46)))
      rcases HDA.out.pd with hE | hO
      ·have hE1:Hid (d.2=[]/\cv=0):=hE
       obtain ⟨hd2,hcv⟩:=hE1.out
       have HD2:=hid hd2
       have hd20:d.2.length=0:=by rw [hd2];rfl
       clear hE hd2
       subst hcv
       rw [hd20] at hX1 ⊢
       go_region_law (first | (refine step_append_first (by rfl) _ _ _ (by rfl) (w.heap.size+1+1) 46 i0 _ 2 24 Try.underlying24 HI.out.1 HI.out.2.1 HI.out.2.2.1 HI.out.2.2.2 (by kernel_rfl) b (by rfl) ⟨w3.heap.size,0,none⟩ 1 1 [.int .i64 n1,.string s2] (by rfl) (by simp) (World.news_of_block (heap_alloc_new w3.drew (.cells #[.int .i64 n1,.string s2] 46))) (fun u hu=>by simp at hu;rcases hu with rfl | rfl<;>rfl) (by omega) (by omega) (by omega) (by simp;omega) (w3.heap.size+1) (by simp) ?_;intro cap w5 hown hgrow;have q4:=(HDA.out.rx.grown hgrow (by simp)).cell 1 _ rfl;have q5:=(HDA.out.rx.grown hgrow (by simp)).froz 1 (by simp);have q6:=(HDA.out.rx.grown hgrow (by simp)).lt;have HOW:=hid hown;have HGR:=hid hgrow;clear hown hgrow))
       all_goals
        have HFIN:Hid (SV (w5.setCell ⟨w2.heap.size,1,none⟩ (.slice (some ⟨(w3.heap.size+1),0,none⟩) 1 cap)) (w.heap.size+1+1) w2.heap.size g ss.length c1 (w3.heap.size+1) cap d.1 (d.2++[(n1,s2)])):=by
         have e:=HDA.out.push (g9:=(w3.heap.size+1)) (cap:=cap) (row:=none) (x:=(n1,s2)) (by rw [HD2.out];exact HOW.out) HGR.out (by simp) (by simp) (by omega) (by omega)
         rw [hd20] at e;exact e
        have HB5:Hid (Below (w.heap.size+1+1) wr w5):=(HB3.out.mono hsw).trans ((((Below.refl w3.heap.size w3).drew.alloc (Nat.le_refl _) (.cells #[.int .i64 n1,.string s2] 46)).mono (by omega)).trans (grown_below HGR.out (by simp;omega) (fun k hk=>by cases hk)))
        have hs5:=HB5.out.size
        go_wp2
        go_roundw
        case rel=>exact ⟨k+1,(d.1,d.2++[(n1,s2)]),(w3.heap.size+1),cap,by omega,by go_num,hdl',HDO',HK',HFIN,HRR.out.lowB (HB5.out.setCell (p:=⟨w2.heap.size,1,none⟩) HDA.out.bx _) (by omega),HBE.out.trans ((HB5.out.setCell (p:=⟨w2.heap.size,1,none⟩) HDA.out.bx _).mono (by omega)),by simp;omega⟩
        case measure=>simp [intOf];omega
      ·have hO1:=hid hO
       clear hO
       go_region_law (first | (refine step_append_lies _ (by rfl) _ _ _ (by rfl) (w.heap.size+1+1) 46 i0 _ 2 24 Try.underlying24 HI.out.1 HI.out.2.1 HI.out.2.2.1 HI.out.2.2.2 (by kernel_rfl) (by omega) (.slice (some ⟨b,0,none⟩) d.2.length cv) d.2.length (wcells d.2) (by rfl) hO1.out.1 ⟨w3.heap.size,0,none⟩ 1 1 [.int .i64 n1,.string s2] (by rfl) (by simp) (World.news_of_block (heap_alloc_new w3.drew (.cells #[.int .i64 n1,.string s2] 46))) (fun u hu=>by simp at hu;rcases hu with rfl | rfl<;>rfl) (by omega) (by unfold maxLen;omega) (by omega) (by simp;omega) (w3.heap.size+1) (by simp) ?_;intro g9 cap w5 hown hgrow hat hlt9;have q4:=(HDA.out.rx.grown hgrow (fun e=>hO1.out.2.1 (by injection e with e;exact e.symm))).cell 1 _ rfl;have q5:=(HDA.out.rx.grown hgrow (fun e=>hO1.out.2.1 (by injection e with e;exact e.symm))).froz 1 (by simp);have q6:=(HDA.out.rx.grown hgrow (fun e=>hO1.out.2.1 (by injection e with e;exact e.symm))).lt;have HOW:=hid hown;have HGR:=hid hgrow;have HAT:=hid hat;clear hown hgrow hat))
       all_goals
        have HFIN:Hid (SV (w5.setCell ⟨w2.heap.size,1,none⟩ (.slice (some ⟨g9,0,none⟩) (d.2.length+1) cap)) (w.heap.size+1+1) w2.heap.size g ss.length c1 g9 cap d.1 (d.2++[(n1,s2)])):=by
         have e:=HDA.out.push (g9:=g9) (cap:=cap) (row:=some b) (x:=(n1,s2)) HOW.out HGR.out (fun e=>hO1.out.2.1 (by injection e)) (fun e=>hO1.out.2.2 (by injection e)) (by have h1:=HAT.out;have h2:=hO1.out.2.1;simp [Value.ownBlock] at h1;omega) (by have h1:=HAT.out;have h2:=hO1.out.2.2;simp [Value.ownBlock] at h1;omega)
         exact e
        have HB5:Hid (Below (w.heap.size+1+1) wr w5):=(HB3.out.mono hsw).trans ((((Below.refl w3.heap.size w3).drew.alloc (Nat.le_refl _) (.cells #[.int .i64 n1,.string s2] 46)).mono (by omega)).trans (grown_below HGR.out (by simp;omega) (fun k hk=>(hO1.out.1.lt k hk).1)))
        have hs5:=HB5.out.size
        go_wp2
        go_roundw
        case rel=>exact ⟨k+1,(d.1,d.2++[(n1,s2)]),g9,cap,by omega,by go_num,hdl',HDO',HK',HFIN,HRR.out.lowB (HB5.out.setCell (p:=⟨w2.heap.size,1,none⟩) HDA.out.bx _) (by omega),HBE.out.trans ((HB5.out.setCell (p:=⟨w2.heap.size,1,none⟩) HDA.out.bx _).mono (by omega)),by simp;omega⟩
        case measure=>simp [intOf];omega
     ·have hl3':¬ (d.2.length:Int)<300:=by omega
      rw [opD_no d (n1,s2) (.inr hl3)] at HK' hdl' HDO'
      go_wp2_with fail
      clear x0 x1 hc1 hc2
      refine wp_region_held_drew (S:=fun w'=>w'.cell? ⟨w2.heap.size,0,none⟩=some (.slice (some ⟨g,0,none⟩) ss.length c1)/\w'.cell? ⟨w2.heap.size,1,none⟩=some (.slice (some ⟨b,0,none⟩) d.2.length cv)/\w'.cell? ⟨bo,oo+k*3+1,none⟩=some (.int .i64 n1)/\w'.cell? ⟨bo,oo+k*3+2,none⟩=some (.string s2)) (by kernel_rfl) (HS9.out _ (Below.refl _ _).drew) (fun hHe=>?_)
      refine TY 0 (.agg #[.slice (some ⟨g,0,none⟩) ss.length c1,.slice (some ⟨b,0,none⟩) d.2.length cv]) rfl hHe ?_
      simp only [PS]
      refine TY 1 (.slice (some ⟨bo,oo,none⟩) rs.length cf) rfl hHe ?_
      simp only [PS]
      refine TY 2 (.int .i64 (k:Int)) rfl hHe ?_
      simp only [PS]
      refine TY 3 (.pointer (some ⟨bo,oo+k*3,none⟩)) rfl hHe ?_
      simp only [PS]
      refine TY 4 (.pointer (some ⟨bo,oo+k*3+1,none⟩)) rfl hHe ?_
      simp only [PS]
      refine TY 5 (.int .i64 n1) rfl hHe ?_
      simp only [PS]
      refine TY 6 (.slice (some ⟨bo,oo,none⟩) rs.length cf) rfl hHe ?_
      simp only [PS]
      refine TY 7 (.int .i64 (k:Int)) rfl hHe ?_
      simp only [PS]
      refine TY 8 (.pointer (some ⟨bo,oo+k*3,none⟩)) rfl hHe ?_
      simp only [PS]
      refine TY 9 (.pointer (some ⟨bo,oo+k*3+2,none⟩)) rfl hHe ?_
      simp only [PS]
      refine TY 10 (.string s2) rfl hHe ?_
      simp only [PS]
      refine RD 11 rfl (fun K hK=>?_)
      refine step_call (by rfl) 23 #[.agg #[.slice (some ⟨g,0,none⟩) ss.length c1,.slice (some ⟨b,0,none⟩) d.2.length cv],.int .i64 n1,.string s2] (by go_simp) (HCA.out _) ?_
      rintro e w3 ⟨rfl,hb3⟩
      refine ⟨_,rfl,?_⟩
      refine hK.out _ _ (HS9.out _ ((Below.refl _ _).drew.trans hb3)) (fun hHd1=>?_)
      clear hK K
      try simp only [PS]
      refine TY 12 (.bool true) rfl hHd1 ?_
      simp only [PS]
      refine TY 13 (.pointer (some ⟨w2.heap.size,1,none⟩)) rfl hHd1 ?_
      simp only [PS]
      refine TY 14 (.slice (some ⟨b,0,none⟩) d.2.length cv) rfl hHd1 ?_
      simp only [PS]
      refine TY 15 (.int .i64 (d.2.length:Int)) rfl hHd1 ?_
      simp only [PS]
      refine TY 16 (.bool false) rfl hHd1 ?_
      simp only [PS]
      refine TY 17 (.bool false) rfl hHd1 ?_
      simp only [PS]
      refine DN ?_
      have HB3:=hid ((Below.refl wr.heap.size wr).drew.trans hb3)
      have hs3:=HB3.out.size
      clear hHe hb3
      go_wp2
      go_roundw
      case rel=>exact ⟨k+1,_,b,cv,by omega,by go_num,hdl',HDO',HK',HSV.out.below HB3.out,HRR.out.below HB3.out,Below.then HBE.out (Nat.le_refl _) HB3.out,by omega⟩
      case measure=>simp [intOf];omega
  ·have hkm:k=m:=by omega
   have hres:Hid (d=RES):=by
    have:=HK.out
    rw [List.drop_of_length_le (by rw [hRSl];omega)] at this
    exact this
   clear HK HRES
   obtain rfl:=hres.out
   have q0:=HSV.out.rx.cell 0 _ rfl
   have q1:=HSV.out.rx.cell 1 _ rfl
   have r0:=HRR.out.cell 0 _ rfl
   have r1:=HRR.out.cell 1 _ rfl
   obtain ⟨fr0,fr1⟩:=HRR.out.z2
   have hlR:=HRR.out.lt
   have hbs:=HBE.out.size
   have hXg:=HSV.out.xg
   have hbg:=HSV.out.bg
   have hfin:∃ a1 c1' a1' c2',diskV (some ⟨g,0,none⟩) ss.length c1 (some ⟨b,0,none⟩) d.2.length cv=diskV a1 ss.length c1' a1' d.2.length c2'/\OwnD ((wr.setCell ⟨w.heap.size+1,0,none⟩ (.slice (some ⟨g,0,none⟩) ss.length c1)).setCell ⟨w.heap.size+1,1,none⟩ (.slice (some ⟨b,0,none⟩) d.2.length cv)) a1 d.1 a1' d.2/\(∀ g,blk a1 ss.length=some g->w.heap.size<=g)/\(∀ g,blk a1' d.2.length=some g->w.heap.size<=g):=by
    have ho:=HSV.out.own
    refine ⟨_,_,_,_,rfl,⟨.inr ⟨g,rfl,(HSV.out.rs.other _ (by show w.heap.size+1≠g;omega) _).other _ (by show w.heap.size+1≠g;omega) _⟩,(ho.1.setp _ (fun g3 e3 hne e=>?_) _).setp _ (fun g3 e3 hne e=>?_) _,?_⟩,fun g' hg'=>?_,fun g' hg'=>?_⟩
    ·have:=ho.2 hne;injection e3 with e3;injection e3 with e3;have e':w.heap.size+1=g3:=e;omega
    ·have:=ho.2 hne;injection e3 with e3;injection e3 with e3;have e':w.heap.size+1=g3:=e;omega
    ·by_cases h0:d.2.length=0
     ·exact .inr (.inl (by simp [blk,h0]))
     ·have hne:wcells d.2≠[]:=fun e=>h0 (by have:=congrArg List.length e;rw [wcells_length,List.length_nil] at this;omega)
      refine .inr (.inr (fun e=>?_))
      rw [blk_pos g 0 _ (by omega),blk_pos b 0 _ h0] at e
      injection e with e
      exact (ho.2 hne).1 e.symm
    ·have:=blk_pos g 0 ss.length (by omega);rw [this] at hg';injection hg' with hg';omega
    ·by_cases h0:d.2.length=0
     ·simp [blk,h0] at hg'
     ·have hne:wcells d.2≠[]:=fun e=>h0 (by have:=congrArg List.length e;rw [wcells_length,List.length_nil] at this;omega)
      rw [blk_pos b 0 _ h0] at hg'
      injection hg' with hg'
      have:=(ho.2 hne).2.2
      omega
   have HFIN:=hid hfin
   have HBF:=hid ((HBE.out.setCell (p:=⟨w.heap.size+1,0,none⟩) (by show w.heap.size<=w.heap.size+1;omega) (.slice (some ⟨g,0,none⟩) ss.length c1)).setCell (p:=⟨w.heap.size+1,1,none⟩) (by show w.heap.size<=w.heap.size+1;omega) (.slice (some ⟨b,0,none⟩) d.2.length cv))
   clear hfin
   rcases hmz.out with hx | ⟨hx,hx2⟩
   ·have hkl:¬ (k:Int)<(rs.length:Int):=by omega
    go_wp2
    refine bodyPost_ret (v:=diskV (some ⟨g,0,none⟩) ss.length c1 (some ⟨b,0,none⟩) d.2.length cv) (by simp [results,Try.results7,go_sem,r0,r1]) rfl ?_
    obtain ⟨a1,c1',a1',c2',e1,e2,e3,e4⟩:=HFIN.out
    exact ⟨a1,c1',a1',⟨c2',by rw [e1]⟩,e2,e3,e4,HBF.out⟩
   ·have hkl:(k:Int)<(rs.length:Int):=by omega
    have hkz:¬ (k:Int)<z:=by omega
    go_wp2
    refine bodyPost_ret (v:=diskV (some ⟨g,0,none⟩) ss.length c1 (some ⟨b,0,none⟩) d.2.length cv) (by simp [results,Try.results7,go_sem,r0,r1]) rfl ?_
    obtain ⟨a1,c1',a1',c2',e1,e2,e3,e4⟩:=HFIN.out
    exact ⟨a1,c1',a1',⟨c2',by rw [e1]⟩,e2,e3,e4,HBF.out⟩
theorem pf_s_no (a:Option Addr) (ss:List ByteArray) (c:Nat) (a':Option Addr) (ws:List (Int×ByteArray)) (c':Nat) (v z:Value) (w:World) (h:Strs w a ss) (h':Wrs w a' ws) (hl:ss.length<=1048576) (hl':ws.length<=1048576) (hs:∀ s∈ss,s.size<=1048576) (hs':∀ x∈ws,x.2.size<=1048576) (hok:diskOk ss ws=false) :
  Calls Try.prog 7 #[diskV a ss.length c a' ws.length c',v,z] w fun e w'=>e=.returned (diskV none 0 0 none 0 0)/\Below w.heap.size w w':=by
 have hb0:∀ o1 o2,Below w.heap.size w ((w.alloc o1).alloc o2):=fun o1 o2=>((Below.refl _ _).alloc (Nat.le_refl _) _).alloc (by simp) _
 go_enter Try.func7,Try.ntmps7
 go_wp2_with fail
 refine (valid_s a ss c a' ws c' _ (h.below (hb0 _ _)) (h'.below (hb0 _ _)) hl hl' hs hs').mono ?_
 rw [hok]
 rintro e w1 ⟨rfl,hb1⟩
 have HB1:=hid ((hb0 _ _).trans (hb1.mono (by simp;omega)))
 have rR:=(row_new' (w.alloc (.cells #[.slice a ss.length c,.slice a' ws.length c'] 26)) #[.slice none 0 0,.slice none 0 0] 26 (w.heap.size+1) (by simp)).below hb1
 have r0:=rR.cell 0 _ rfl
 have r1:=rR.cell 1 _ rfl
 obtain ⟨fr0,fr1⟩:=rR.z2
 clear rR hb1
 go_wp2
 exact bodyPost_ret (v:=diskV none 0 0 none 0 0) (by simp [results,Try.results7,go_sem,r0,r1]) rfl ⟨rfl,(HB1.out.setCell (by show w.heap.size<=w.heap.size+1;omega) _).setCell (by show w.heap.size<=w.heap.size+1;omega) _⟩
theorem pf_s_any (a:Option Addr) (ss:List ByteArray) (c:Nat) (a':Option Addr) (ws:List (Int×ByteArray)) (c':Nat) (f:Option Addr) (rs:List (Bool×Int×ByteArray)) (cf:Nat) (z:Int) (w:World) (h:Strs w a ss) (h':Wrs w a' ws) (hz:Ops w f rs) (hlz:rs.length<=1048576) (hsz:∀ x∈rs,x.2.2.size<=1048576) (hl:ss.length<=1048576) (hl':ws.length<=1048576) (hs:∀ s∈ss,s.size<=1048576) (hs':∀ x∈ws,x.2.size<=1048576) :
  Calls Try.prog 7 #[diskV a ss.length c a' ws.length c',.slice f rs.length cf,.int .i64 z] w fun e w'=>∃ a1 c1 a1' c1',e=.returned (diskV a1 (pfR ss ws rs z).1.length c1 a1' (pfR ss ws rs z).2.length c1')/\OwnD w' a1 (pfR ss ws rs z).1 a1' (pfR ss ws rs z).2/\(∀ g,blk a1 (pfR ss ws rs z).1.length=some g->w.heap.size<=g)/\(∀ g,blk a1' (pfR ss ws rs z).2.length=some g->w.heap.size<=g)/\Below w.heap.size w w':=by
 by_cases hok:diskOk ss ws=true
 ·have e1:pfR ss ws rs z=opsD (rs.take (pfN z rs.length)) (ss,ws):=by simp [pfR,hok]
  rw [e1]
  exact pf_s a ss c a' ws c' f rs cf z w h h' hz hlz hsz hok
 ·have e1:pfR ss ws rs z=([],[]):=by simp [pfR,hok]
  rw [e1]
  refine (pf_s_no a ss c a' ws c' _ _ w h h' hl hl' hs hs' (by simpa using hok)).mono ?_
  rintro e w' ⟨rfl,hb⟩
  exact ⟨none,0,none,0,rfl,⟨.inl rfl,.inl rfl,.inl rfl⟩,(fun g hg=>by cases hg),(fun g hg=>by cases hg),hb⟩
end Go.Proofs.Ythdilmkbnpmdaaa
