import Derived.Test.YtcdojnnkjeakmaaGreatDoorPrG40
set_option maxHeartbeats 32000000
namespace Go.Proofs.YtcdojnnkjeakmaaGreatDoor
open Go.RowKit
set_option maxRecDepth 8000
set_option linter.unusedVariables false
set_option linter.unusedSimpArgs false
theorem zy4 (x:Int) (h0:-9223372036854775808<=x) (h1:x<=9223372036854775807):IntKind.i64.wrap x=x:=by
 simp [IntKind.wrap,IntKind.bits,IntKind.signed];omega
theorem vB4:(Tryz.prog.info? 9).map (fun i=>(i.zero,i.size,i.bytes))=some (some (.string ByteArray.empty),1,16):=by kernel_rfl
theorem XJQ {P:Program} {e:TypeId} {z:Value} {size aA:Nat} (h:(P.info? e).map (fun i=>(i.zero,i.size,i.bytes))=some (some z,size,aA)):∃ i,P.info? e=some i/\i.zero=some z/\i.size=size/\i.bytes=aA:=by
 obtain ⟨i,hi,hh⟩:=Option.map_eq_some_iff.1 h;simp only [Prod.mk.injEq] at hh;exact ⟨i,hi,hh⟩
theorem vtr (w:World) (cs:Array Value) (t:TypeId):∀ j u,cs.toList[j]?=some u->(w.alloc (.cells cs t)).cell? ((⟨w.heap.size,0,none⟩:Addr).add j)=some u:=World.news_of_block (heap_alloc_new w (.cells cs t))
theorem Z75 (k:ByteArray):∀ u∈[Value.string k],u.oneCell'=true:=by
 intro u hu;simp only [List.mem_cons,List.not_mem_nil,or_false] at hu;subst hu;rfl
theorem zd8 (ss:List ByteArray) (ws:List (Int×ByteArray)) (aB size first aA n:Int) (h:¬ kAU ss ws aB size n):scD ss ws aB size first aA n=([],0,0):=by unfold scD;rw [if_neg h]
theorem xjg (a:Option Addr) (ss:List ByteArray) (c:Nat) (a':Option Addr) (ws:List (Int×ByteArray)) (c':Nat) (aE size first aJ n:Int) (w:World) (h:Strs w a ss) (h':Wrs w a' ws) (hl:ss.length<=1048576) (aL:ws.length<=1048576) (hs:∀ s∈ss,s.size<=1048576) (aK:∀ x∈ws,x.2.size<=1048576) (aF:¬ kAU ss ws aE size n) :
  Calls Tryz.prog 94 #[Zoj a ss.length c a' ws.length c',.int .i64 aE,.int .i64 size,.int .i64 first,.int .i64 aJ,.int .i64 n] w fun e w'=>xPk w w' e ([],0,0):=by
 have aD:∀ o1 o2,Below w.heap.size w ((w.alloc o1).alloc o2):=fun o1 o2=>((Below.refl _ _).alloc (Nat.le_refl _) _).alloc (by simp) _
 have HV:=hid (fun (wx:World) (hb:Below w.heap.size w wx)=>xpE a ss c a' ws c' wx (h.below hb) (h'.below hb) hl aL hs aK)
 cases hok:vlG ss ws with
 | false =>
  have hd:decide (1<=n/\n<=8)=decide (1<=n/\n<=8):=rfl;go_enter Tryz.func94,Tryz.ntmps94
  go_wp2_with (first | (go_at_call 29;refine (HV.out _ (aD _ _)).mono ?_;rw [hok];rintro e w1 ⟨rfl,aB⟩;have r6:=((kR4 w #[.slice a ss.length c,.slice a' ws.length c'] 31 w.heap.size rfl).alloc (.cells #[.slice none 0 0,.int .i64 0,.int .i64 0] 157)).below aB;have aA:=(kR4 (w.alloc (.cells #[.slice a ss.length c,.slice a' ws.length c'] 31)) #[.slice none 0 0,.int .i64 0,.int .i64 0] 157 (w.heap.size+1) (by simp)).below aB;have HB:=hid ((aD (.cells #[.slice a ss.length c,.slice a' ws.length c'] 31) (.cells #[.slice none 0 0,.int .i64 0,.int .i64 0] 157)).trans (aB.mono (by simp<;>omega)));have q0:=r6.cell 0 _ rfl;have ql:=r6.lt;have b0:=aA.cell 0 _ rfl;have b1:=aA.cell 1 _ rfl;have b2:=aA.cell 2 _ rfl;have aH:=aA.froz 0 (by simp);have aG:=aA.froz 1 (by simp);have aI:=aA.froz 2 (by simp);have bl:=aA.lt;clear aB r6 aA) | (go_at_call 30;refine (X3C _ _).mono ?_;rw [hd];rintro e wz ⟨rfl,aC⟩;rw [aC];clear aC wz))
  refine bodyPost_ret (v:=.agg #[.slice none 0 0,.int .i64 0,.int .i64 0]) (by simp [results,Tryz.results94,go_sem,b0,b1,b2]) rfl ?_;exact ⟨.slice none 0 0,rfl,World.ownsRow_nil _ _ _ _,((HB.out.setCell (by show w.heap.size<=w.heap.size+1;omega) _).setCell (by show w.heap.size<=w.heap.size+1;omega) _).setCell (by show w.heap.size<=w.heap.size+1;omega) _⟩
 | true =>
  obtain ⟨⟨aM,aN,aP⟩,aO,hw⟩:=q67 hok
  by_cases hn:1<=n/\n<=8
  ·have hd:decide (1<=n/\n<=8)=true:=decide_eq_true hn
   by_cases f0:aE<0
   ·clear aF
    go_enter Tryz.func94,Tryz.ntmps94
    go_wp2_with (first | (go_at_call 29;refine (HV.out _ (aD _ _)).mono ?_;rw [hok];rintro e w1 ⟨rfl,aB⟩;have r6:=((kR4 w #[.slice a ss.length c,.slice a' ws.length c'] 31 w.heap.size rfl).alloc (.cells #[.slice none 0 0,.int .i64 0,.int .i64 0] 157)).below aB;have aA:=(kR4 (w.alloc (.cells #[.slice a ss.length c,.slice a' ws.length c'] 31)) #[.slice none 0 0,.int .i64 0,.int .i64 0] 157 (w.heap.size+1) (by simp)).below aB;have HB:=hid ((aD (.cells #[.slice a ss.length c,.slice a' ws.length c'] 31) (.cells #[.slice none 0 0,.int .i64 0,.int .i64 0] 157)).trans (aB.mono (by simp<;>omega)));have q0:=r6.cell 0 _ rfl;have ql:=r6.lt;have b0:=aA.cell 0 _ rfl;have b1:=aA.cell 1 _ rfl;have b2:=aA.cell 2 _ rfl;have aH:=aA.froz 0 (by simp);have aG:=aA.froz 1 (by simp);have aI:=aA.froz 2 (by simp);have bl:=aA.lt;clear aB r6 aA) | (go_at_call 30;refine (X3C _ _).mono ?_;rw [hd];rintro e wz ⟨rfl,aC⟩;rw [aC];clear aC wz))
    refine bodyPost_ret (v:=.agg #[.slice none 0 0,.int .i64 0,.int .i64 0]) (by simp [results,Tryz.results94,go_sem,b0,b1,b2]) rfl ?_;exact ⟨.slice none 0 0,rfl,World.ownsRow_nil _ _ _ _,((HB.out.setCell (by show w.heap.size<=w.heap.size+1;omega) _).setCell (by show w.heap.size<=w.heap.size+1;omega) _).setCell (by show w.heap.size<=w.heap.size+1;omega) _⟩
   ·by_cases s0:size<0
    ·clear aF
     go_enter Tryz.func94,Tryz.ntmps94
     go_wp2_with (first | (go_at_call 29;refine (HV.out _ (aD _ _)).mono ?_;rw [hok];rintro e w1 ⟨rfl,aB⟩;have r6:=((kR4 w #[.slice a ss.length c,.slice a' ws.length c'] 31 w.heap.size rfl).alloc (.cells #[.slice none 0 0,.int .i64 0,.int .i64 0] 157)).below aB;have aA:=(kR4 (w.alloc (.cells #[.slice a ss.length c,.slice a' ws.length c'] 31)) #[.slice none 0 0,.int .i64 0,.int .i64 0] 157 (w.heap.size+1) (by simp)).below aB;have HB:=hid ((aD (.cells #[.slice a ss.length c,.slice a' ws.length c'] 31) (.cells #[.slice none 0 0,.int .i64 0,.int .i64 0] 157)).trans (aB.mono (by simp<;>omega)));have q0:=r6.cell 0 _ rfl;have ql:=r6.lt;have b0:=aA.cell 0 _ rfl;have b1:=aA.cell 1 _ rfl;have b2:=aA.cell 2 _ rfl;have aH:=aA.froz 0 (by simp);have aG:=aA.froz 1 (by simp);have aI:=aA.froz 2 (by simp);have bl:=aA.lt;clear aB r6 aA) | (go_at_call 30;refine (X3C _ _).mono ?_;rw [hd];rintro e wz ⟨rfl,aC⟩;rw [aC];clear aC wz))
     refine bodyPost_ret (v:=.agg #[.slice none 0 0,.int .i64 0,.int .i64 0]) (by simp [results,Tryz.results94,go_sem,b0,b1,b2]) rfl ?_;exact ⟨.slice none 0 0,rfl,World.ownsRow_nil _ _ _ _,((HB.out.setCell (by show w.heap.size<=w.heap.size+1;omega) _).setCell (by show w.heap.size<=w.heap.size+1;omega) _).setCell (by show w.heap.size<=w.heap.size+1;omega) _⟩
    ·by_cases f1:(ss.length:Int)<aE
     ·clear aF
      go_enter Tryz.func94,Tryz.ntmps94
      go_wp2_with (first | (go_at_call 29;refine (HV.out _ (aD _ _)).mono ?_;rw [hok];rintro e w1 ⟨rfl,aB⟩;have r6:=((kR4 w #[.slice a ss.length c,.slice a' ws.length c'] 31 w.heap.size rfl).alloc (.cells #[.slice none 0 0,.int .i64 0,.int .i64 0] 157)).below aB;have aA:=(kR4 (w.alloc (.cells #[.slice a ss.length c,.slice a' ws.length c'] 31)) #[.slice none 0 0,.int .i64 0,.int .i64 0] 157 (w.heap.size+1) (by simp)).below aB;have HB:=hid ((aD (.cells #[.slice a ss.length c,.slice a' ws.length c'] 31) (.cells #[.slice none 0 0,.int .i64 0,.int .i64 0] 157)).trans (aB.mono (by simp<;>omega)));have q0:=r6.cell 0 _ rfl;have ql:=r6.lt;have b0:=aA.cell 0 _ rfl;have b1:=aA.cell 1 _ rfl;have b2:=aA.cell 2 _ rfl;have aH:=aA.froz 0 (by simp);have aG:=aA.froz 1 (by simp);have aI:=aA.froz 2 (by simp);have bl:=aA.lt;clear aB r6 aA) | (go_at_call 30;refine (X3C _ _).mono ?_;rw [hd];rintro e wz ⟨rfl,aC⟩;rw [aC];clear aC wz))
      refine bodyPost_ret (v:=.agg #[.slice none 0 0,.int .i64 0,.int .i64 0]) (by simp [results,Tryz.results94,go_sem,b0,b1,b2]) rfl ?_;exact ⟨.slice none 0 0,rfl,World.ownsRow_nil _ _ _ _,((HB.out.setCell (by show w.heap.size<=w.heap.size+1;omega) _).setCell (by show w.heap.size<=w.heap.size+1;omega) _).setCell (by show w.heap.size<=w.heap.size+1;omega) _⟩
     ·have g3:IntKind.i64.wrap ((ss.length:Int)-aE)=(ss.length:Int)-aE:=zy4 _ (by omega) (by omega)
      by_cases s1:(ss.length:Int)-aE<size
      ·clear aF
       go_enter Tryz.func94,Tryz.ntmps94
       go_wp2_with (first | (go_at_call 29;refine (HV.out _ (aD _ _)).mono ?_;rw [hok];rintro e w1 ⟨rfl,aB⟩;have r6:=((kR4 w #[.slice a ss.length c,.slice a' ws.length c'] 31 w.heap.size rfl).alloc (.cells #[.slice none 0 0,.int .i64 0,.int .i64 0] 157)).below aB;have aA:=(kR4 (w.alloc (.cells #[.slice a ss.length c,.slice a' ws.length c'] 31)) #[.slice none 0 0,.int .i64 0,.int .i64 0] 157 (w.heap.size+1) (by simp)).below aB;have HB:=hid ((aD (.cells #[.slice a ss.length c,.slice a' ws.length c'] 31) (.cells #[.slice none 0 0,.int .i64 0,.int .i64 0] 157)).trans (aB.mono (by simp<;>omega)));have q0:=r6.cell 0 _ rfl;have ql:=r6.lt;have b0:=aA.cell 0 _ rfl;have b1:=aA.cell 1 _ rfl;have b2:=aA.cell 2 _ rfl;have aH:=aA.froz 0 (by simp);have aG:=aA.froz 1 (by simp);have aI:=aA.froz 2 (by simp);have bl:=aA.lt;clear aB r6 aA) | (go_at_call 30;refine (X3C _ _).mono ?_;rw [hd];rintro e wz ⟨rfl,aC⟩;rw [aC];clear aC wz))
       refine bodyPost_ret (v:=.agg #[.slice none 0 0,.int .i64 0,.int .i64 0]) (by simp [results,Tryz.results94,go_sem,b0,b1,b2]) rfl ?_;exact ⟨.slice none 0 0,rfl,World.ownsRow_nil _ _ _ _,((HB.out.setCell (by show w.heap.size<=w.heap.size+1;omega) _).setCell (by show w.heap.size<=w.heap.size+1;omega) _).setCell (by show w.heap.size<=w.heap.size+1;omega) _⟩
      ·exact absurd ⟨hok,hn,by omega,by omega,by omega,by omega⟩ aF
  ·have hd:decide (1<=n/\n<=8)=false:=decide_eq_false hn
   clear aF;go_enter Tryz.func94,Tryz.ntmps94
   go_wp2_with (first | (go_at_call 29;refine (HV.out _ (aD _ _)).mono ?_;rw [hok];rintro e w1 ⟨rfl,aB⟩;have r6:=((kR4 w #[.slice a ss.length c,.slice a' ws.length c'] 31 w.heap.size rfl).alloc (.cells #[.slice none 0 0,.int .i64 0,.int .i64 0] 157)).below aB;have aA:=(kR4 (w.alloc (.cells #[.slice a ss.length c,.slice a' ws.length c'] 31)) #[.slice none 0 0,.int .i64 0,.int .i64 0] 157 (w.heap.size+1) (by simp)).below aB;have HB:=hid ((aD (.cells #[.slice a ss.length c,.slice a' ws.length c'] 31) (.cells #[.slice none 0 0,.int .i64 0,.int .i64 0] 157)).trans (aB.mono (by simp<;>omega)));have q0:=r6.cell 0 _ rfl;have ql:=r6.lt;have b0:=aA.cell 0 _ rfl;have b1:=aA.cell 1 _ rfl;have b2:=aA.cell 2 _ rfl;have aH:=aA.froz 0 (by simp);have aG:=aA.froz 1 (by simp);have aI:=aA.froz 2 (by simp);have bl:=aA.lt;clear aB r6 aA) | (go_at_call 30;refine (X3C _ _).mono ?_;rw [hd];rintro e wz ⟨rfl,aC⟩;rw [aC];clear aC wz))
   refine bodyPost_ret (v:=.agg #[.slice none 0 0,.int .i64 0,.int .i64 0]) (by simp [results,Tryz.results94,go_sem,b0,b1,b2]) rfl ?_;exact ⟨.slice none 0 0,rfl,World.ownsRow_nil _ _ _ _,((HB.out.setCell (by show w.heap.size<=w.heap.size+1;omega) _).setCell (by show w.heap.size<=w.heap.size+1;omega) _).setCell (by show w.heap.size<=w.heap.size+1;omega) _⟩
theorem kzz (a:Option Addr) (ss:List ByteArray) (c:Nat) (a':Option Addr) (ws:List (Int×ByteArray)) (c':Nat) (aQ size first aB n:Int) (w:World) (h:Strs w a ss) (h':Wrs w a' ws) (hl:ss.length<=1048576) (eK:ws.length<=1048576) (hs:∀ s∈ss,s.size<=1048576) (cI:∀ x∈ws,x.2.size<=1048576) (bJ:kAU ss ws aQ size n) :
  Calls Tryz.prog 94 #[Zoj a ss.length c a' ws.length c',.int .i64 aQ,.int .i64 size,.int .i64 first,.int .i64 aB,.int .i64 n] w fun e w'=>xPk w w' e (scD ss ws aQ size first aB n):=by
 have cS:∀ o1 o2,Below w.heap.size w ((w.alloc o1).alloc o2):=fun o1 o2=>((Below.refl _ _).alloc (Nat.le_refl _) _).alloc (by simp) _
 have bQ:scD ss ws aQ size first aB n=vb3 (fun k=>(xhE ws ss).getD k ByteArray.empty) aQ.toNat first n size.toNat 0 0 aB ByteArray.empty ([],0,aB):=by unfold scD;rw [if_pos bJ]
 rw [bQ];clear bQ;obtain ⟨cY,hn,f0,s0,f1,s1⟩:=bJ;obtain ⟨fm,rfl⟩:∃ k:Nat,aQ=(k:Int):=⟨aQ.toNat,by omega⟩;obtain ⟨N,rfl⟩:∃ k:Nat,size=(k:Int):=⟨size.toNat,by omega⟩;simp only [Int.toNat_natCast];have hd:decide (1<=n/\n<=8)=true:=decide_eq_true hn;obtain ⟨⟨fB,dH,eB⟩,eM,hw⟩:=q67 cY;obtain ⟨i0,cZ,dM,dV,cW⟩:=XJQ vB4;have HI:=hid (And.intro cZ (And.intro dM (And.intro dV cW)));clear cZ dM dV cW;have g0:¬ ((fm:Int)<0):=by omega
 have g1:¬ ((N:Int)<0):=by omega
 have g2:¬ ((ss.length:Int)<(fm:Int)):=by omega
 have g3:IntKind.i64.wrap ((ss.length:Int)-(fm:Int))=(ss.length:Int)-(fm:Int):=zy4 _ (by omega) (by omega);have g4:¬ ((ss.length:Int)-(fm:Int)<(N:Int)):=by omega
 obtain ⟨SF,aK⟩:∃ SF:Nat->ByteArray,SF=fun k=>(xhE ws ss).getD k ByteArray.empty:=⟨_,rfl⟩
 have eJ:Hid (∀ k,(SF k).size<=1048576):=fun k=>by rw [aK];exact jRu ws ss hs cI k
 rw [<-aK]
 obtain ⟨aG,aZ⟩:∃ aG,Hid (aG=vb3 SF fm first n N 0 0 aB ByteArray.empty ([],0,aB)):=⟨_,hid rfl⟩
 rw [<-aZ.out];go_enter Tryz.func94,Tryz.ntmps94;go_wp2_with fail;refine (xpE a ss c a' ws c' _ (h.below (cS _ _)) (h'.below (cS _ _)) hl eK hs cI).mono ?_;rw [cY];rintro e w1 ⟨rfl,bZ⟩;have r6:=(kR4 w #[.slice a ss.length c,.slice a' ws.length c'] 31 w.heap.size rfl).alloc (.cells #[.slice none 0 0,.int .i64 0,.int .i64 0] 157);have aI:=kR4 (w.alloc (.cells #[.slice a ss.length c,.slice a' ws.length c'] 31)) #[.slice none 0 0,.int .i64 0,.int .i64 0] 157 (w.heap.size+1) (by simp);have r6:=r6.below bZ;have aI:=aI.below bZ;have aY:=(cS (.cells #[.slice a ss.length c,.slice a' ws.length c'] 31) (.cells #[.slice none 0 0,.int .i64 0,.int .i64 0] 157)).trans (bZ.mono (by simp<;>omega));have q0:=r6.cell 0 _ rfl;have q1:=r6.cell 1 _ rfl;have fS:=aI.lt;clear bZ
 go_wp2_with (first | (go_at_call 30;refine (X3C _ _).mono ?_;rw [hd];rintro e wz ⟨rfl,dL⟩;rw [dL];clear dL wz))
 refine (k4z a ss c a' ws c' _ (h.below aY) (h'.below aY) dH eB).mono ?_;rintro e w2 ⟨g,c1,g',eD,rfl,bU,hg,eN,b8⟩;have aV:ss.length≠0:=by omega
 have fF:w1.heap.size<=g:=hg g (by unfold blk;rw [if_neg aV];rfl)
 have dE:Row w2 g (ss.map Value.string):=by
  rcases bU.s with e | ⟨b,e,hr⟩
  ·exact absurd (congrArg List.length e) (by rw [List.length_map,List.length_nil];omega)
  ·cases e;exact hr
 have dR:yaV ws≠[]->g'≠g:=fun hc=>by
  have hl:ws.length≠0:=fun e=>hc (by rw [List.eq_nil_of_length_eq_zero e];rfl)
  rcases bU.ne with e | e | e
  ·unfold blk at e;rw [if_neg aV] at e;exact absurd e (by simp)
  ·unfold blk at e;rw [if_neg hl] at e;exact absurd e (by simp)
  ·unfold blk at e;rw [if_neg aV,if_neg hl] at e;exact fun e2=>e (by rw [e2])
 have HY:=hid (Qh0 g g' ss c1 ws eD w2 dE bU.p dR dH eB (fun x hx=>by have:=of_decide_eq_true (hw x hx);omega));have cQ:=aY.trans (b8.mono aY.size);have aI:=aI.below b8;have eZ:=b8.size;clear q0 q1 bU hg eN b8 dE dR r6;go_wp2_with fail;refine HY.out.mono ?_;rintro e w3 ⟨x,rfl,eY,fH,bY,cL⟩;have cJ:=cQ.trans (jJX cL cQ.size (fun k hk=>by cases hk;have:=aY.size;omega));have aI:=aI.grown cL (fun e=>by injection e with e;omega);have eH:g<w3.heap.size:=bY.lt;have cE:((xhE ws ss).map Value.string).length=ss.length:=by rw [List.length_map,yOJ]
 have dN:Hid (∀ k,k<ss.length->((xhE ws ss).map Value.string)[k]?=some (.string (SF k))):=fun k hk=>by
  rw [aK];simp [List.getD,yOJ,hk]
 obtain ⟨SV,bH⟩:∃ SV,SV=(xhE ws ss).map Value.string:=⟨_,rfl⟩;rw [<-bH] at bY cE dN;clear bH HY aK cL h h' hs cI eM hw
 have D0:ScB w (((w3.alloc (.cells #[.slice (some ⟨g,0,none⟩) ss.length c1,.slice (some ⟨x,0,none⟩) 0 0] 31)).alloc (.cells #[.slice none 0 0,.int .i64 0,.int .i64 aB] 157)).alloc (.cells #[.int .i64 0,.int .i64 aB,.int .i64 0,.string ⟨#[]⟩] 53)) (w.heap.size+1) g w3.heap.size (w3.heap.size+1) (w3.heap.size+1+1) SV c1 (.slice (some ⟨x,0,none⟩) 0 0) (.slice none 0 0) [] 0 aB 0 aB 0 ⟨#[]⟩:=by
  refine ⟨((aI.alloc _).alloc _).alloc _,((bY.alloc _).alloc _).alloc _,?_,?_,?_,World.ownsRow_nil _ _ _ _,by omega,by omega,by omega,by omega,by omega,fun k hk=>(by cases hk),?_⟩
  ·rw [cE]
   exact ((xER _ _ _).alloc _).alloc _
  ·exact (kR4 _ _ _ _ (by simp)).alloc _
  ·exact kR4 _ _ _ _ (by simp)
  ·have b1:=cJ.alloc cJ.size (.cells #[.slice (some ⟨g,0,none⟩) ss.length c1,.slice (some ⟨x,0,none⟩) 0 0] 31)
   have b2:=b1.alloc b1.size (.cells #[.slice none 0 0,.int .i64 0,.int .i64 aB] 157);exact b2.alloc b2.size _
 clear aI bY cJ cQ aY;go_wp2
 go_loopw [16,17] (fun ov iv wr=>∃ (i:Nat) (op:ByteArray) (wk wl wm:Int) (wp:ByteArray) (out:Scd) (Y:Value) (W:World),W=wr/\ov=.string op/\iv=.int .i64 (i:Int)/\i<=N/\op.size<=64*i/\out.1.length<=i/\Hid (vb3 SF fm first n (N-i) i wk wl op out=aG)/\ScB w W (w.heap.size+1) g w3.heap.size (w3.heap.size+1) (w3.heap.size+1+1) SV c1 (.slice (some ⟨x,0,none⟩) 0 0) Y out.1 out.2.1 out.2.2 wk wl wm wp) (fun _ iv _=>((N:Int)-intOf iv).toNat)
 case atStart=>exact ⟨0,⟨#[]⟩,0,aB,0,⟨#[]⟩,([],0,aB),_,_,rfl,rfl,rfl,Nat.zero_le _,by decide,Nat.le_refl _,by show _=_;rw [aZ.out];rfl,D0⟩
 case round =>
  obtain ⟨i,op,wk,wl,wm,wp,out,y,wr,rfl,rfl,rfl,fU,eX,fG,aU,D⟩:=hrel;clear D0
  obtain ⟨ya,yc,rfl⟩:∃ ya yc,y=.slice ya out.1.length yc:=by
   rcases yUO D.own with ⟨h1,h2⟩ | ⟨gg,cap,h1,_⟩
   ·exact ⟨none,0,by rw [h1,h2]⟩
   ·exact ⟨_,cap,h1⟩
  by_cases fO:i<N
  ·have cO:(i:Int)<(N:Int):=by omega
   have eT:IntKind.i64.wrap ((fm:Int)+(i:Int))=((fm+i:Nat):Int):=by rw [zy4 _ (by omega) (by omega)];omega
   have eQ:fm+i<ss.length:=by omega
   have eI:((fm+i:Nat):Int)<(ss.length:Int):=by omega
   have eW:=D.xb.cell 0 _ rfl;rw [cE] at eW;have cs:=D.sec.cell (fm+i) _ (dN.out (fm+i) eQ);have lx:=D.xb.lt;have ls:=D.sec.lt;have fI:IntKind.i64.wrap ((i:Int)+1)=(i:Int)+1:=zy4 _ (by omega) (by omega);have aP:=hid (fun wx=>kfv (SF (fm+i)) n wx (eJ.out _))
   cases hR:Jvc (SF (fm+i)) n with
   | none =>
    rw [hR] at aP;simp only [rpV] at aP;have HF:Hid (aG=out):=by show _=_;rw [<-aU.out];exact kWh hR
    go_wp2_with fail;refine (aP.out _).mono ?_;rintro e w5 ⟨rfl,aT⟩;have D5:=D.below aT;have D6:=D5.below (zE5 w5 (.cells #[.int .i64 0,.int .i64 0,.int .i64 0,.string ⟨#[]⟩] 53));obtain ⟨o0,o1,o2⟩:=D6.ot.k3;obtain ⟨b0,b1,b2⟩:=D6.rb.k3;obtain ⟨cF,cK,cU⟩:=D6.rb.z3;have ol:=D6.ot.lt;have bl:=D6.rb.lt;have aC:=hid D6;have aW:¬ (w.heap.size+1=w3.heap.size+1):=by have:=D6.o2;have:=D6.o3;omega
    go_wp2;refine bodyPost_ret (v:=.agg #[.slice ya out.1.length yc,.int .i64 out.2.1,.int .i64 out.2.2]) (by simp [results,Tryz.results94,go_sem,b0,b1,b2]) rfl ?_;rw [HF.out];have aD:=aC.out.own_ne (k:=w.heap.size+1) (by have:=aC.out.o2;have:=aC.out.o3;omega);exact ⟨_,rfl,ownsRow_setCell_other (ownsRow_setCell_other (ownsRow_setCell_other aC.out.own aD _) aD _) aD _,((aC.out.be.setCell (by show w.heap.size<=w.heap.size+1;omega) _).setCell (by show w.heap.size<=w.heap.size+1;omega) _).setCell (by show w.heap.size<=w.heap.size+1;omega) _⟩
   | some xr =>
    obtain ⟨k,l,m,p⟩:=xr;obtain ⟨_,_,m0,m1,l0,l1,fT⟩:=v5k hR;rw [hR] at aP;simp only [rpV] at aP;have cN:IntKind.i64.wrap (m-(i:Int))=m-(i:Int):=zy4 _ (by omega) (by omega);have bW:=hid (fun wx=>vbI wk wl wm wp k l m p wx)
    by_cases aH:m-(i:Int)=first
    ·cases hgo:yoh wk wl k l with
     | false =>
      rw [hgo] at bW;have HF:Hid (aG=out):=by show _=_;rw [<-aU.out];exact ZgQ hR (by rw [hgo];simp)
      go_wp2_with fail;refine (aP.out _).mono ?_;rintro e w5 ⟨rfl,aT⟩;have D5:=D.below aT;have D6:=D5.below (zE5 w5 (.cells #[.int .i64 k,.int .i64 l,.int .i64 m,.string p] 53));have rP:=kR4 w5 #[.int .i64 k,.int .i64 l,.int .i64 m,.string p] 53 w5.heap.size rfl;obtain ⟨x0,x1,x2,x3⟩:=rP.k4;have xl:=rP.lt;obtain ⟨v0,v1,v2,v3⟩:=D6.ws.k4;have vl:=D6.ws.lt
      go_wp2_with (first | (go_at_call 102;refine (bW.out _).mono ?_;rintro e w7 ⟨rfl,aS⟩;have D7:=D6.below aS;have aO:=rP.below aS;clear aS x0 x1 x2 x3 xl v0 v1 v2 v3 vl D6 rP;have o0:=D7.ot.cell 0 _ rfl;have b0:=D7.rb.cell 0 _ rfl;have cF:=D7.rb.froz 0 (by simp);have o1:=D7.ot.cell 1 _ rfl;have b1:=D7.rb.cell 1 _ rfl;have cK:=D7.rb.froz 1 (by simp);have o2:=D7.ot.cell 2 _ rfl;have b2:=D7.rb.cell 2 _ rfl;have cU:=D7.rb.froz 2 (by simp);have ol:=D7.ot.lt;have bl:=D7.rb.lt;have aC:=hid D7;have aW:¬ (w.heap.size+1=w3.heap.size+1):=(by have:=D7.o2;have:=D7.o3;omega);clear D7))
      refine bodyPost_ret (v:=.agg #[.slice ya out.1.length yc,.int .i64 out.2.1,.int .i64 out.2.2]) (by simp [results,Tryz.results94,go_sem,b0,b1,b2]) rfl ?_;rw [HF.out];have aD:=aC.out.own_ne (k:=w.heap.size+1) (by have:=aC.out.o2;have:=aC.out.o3;omega);exact ⟨_,rfl,ownsRow_setCell_other (ownsRow_setCell_other (ownsRow_setCell_other aC.out.own aD _) aD _) aD _,((aC.out.be.setCell (by show w.heap.size<=w.heap.size+1;omega) _).setCell (by show w.heap.size<=w.heap.size+1;omega) _).setCell (by show w.heap.size<=w.heap.size+1;omega) _⟩
     | true =>
      rw [hgo] at bW;go_wp2_with fail;refine (aP.out _).mono ?_;rintro e w5 ⟨rfl,aT⟩;have D5:=D.below aT;have D6:=D5.below (zE5 w5 (.cells #[.int .i64 k,.int .i64 l,.int .i64 m,.string p] 53));have rP:=kR4 w5 #[.int .i64 k,.int .i64 l,.int .i64 m,.string p] 53 w5.heap.size rfl;obtain ⟨x0,x1,x2,x3⟩:=rP.k4;have xl:=rP.lt;obtain ⟨v0,v1,v2,v3⟩:=D6.ws.k4;have vl:=D6.ws.lt
      go_upto_region 14 with (first | (go_at_call 102;refine (bW.out _).mono ?_;rintro e w7 ⟨rfl,aS⟩;have D7:=D6.below aS;have aO:=rP.below aS;clear aS x0 x1 x2 x3 xl v0 v1 v2 v3 vl D6 rP;have b7:¬ (w3.heap.size+1+1=w5.heap.size):=(by have:=D5.ws.lt;omega);have p0:=aO.cell 0 _ rfl;have p1:=aO.cell 1 _ rfl;have p2:=aO.cell 2 _ rfl;have p3:=aO.cell 3 _ rfl;have pl:=aO.lt;have s0:=D7.ws.cell 0 _ rfl;have s1:=D7.ws.cell 1 _ rfl;have s2:=D7.ws.cell 2 _ rfl;have s3:=D7.ws.cell 3 _ rfl;have eF:=D7.ws.froz 0 (by simp);have eC:=D7.ws.froz 1 (by simp);have eG:=D7.ws.froz 2 (by simp);have eP:=D7.ws.froz 3 (by simp);have sl:=D7.ws.lt))
      have D8:=D7.setWas k l m p;have aR:=(((aO.other ⟨w3.heap.size+1+1,0,none⟩ b7 (.int .i64 k)).other ⟨w3.heap.size+1+1,1,none⟩ b7 (.int .i64 l)).other ⟨w3.heap.size+1+1,2,none⟩ b7 (.int .i64 m)).other ⟨w3.heap.size+1+1,3,none⟩ b7 (.string p);obtain ⟨w8,bI⟩:∃ z,z=((((w7.setCell ⟨w3.heap.size+1+1,0,none⟩ (.int .i64 k)).setCell ⟨w3.heap.size+1+1,1,none⟩ (.int .i64 l)).setCell ⟨w3.heap.size+1+1,2,none⟩ (.int .i64 m)).setCell ⟨w3.heap.size+1+1,3,none⟩ (.string p)):=⟨_,rfl⟩;rw [<-bI] at D8 aR ⊢;clear bI D7 aO p0 p1 p2 p3 pl s0 s1 s2 s3 eF eC eG eP sl;have p0:=aR.cell 0 _ rfl;have p1:=aR.cell 1 _ rfl;have p3:=aR.cell 3 _ rfl;have pl:=aR.lt;have z1:¬ (9223372036854775807<op.size+p.size):=by omega
      by_cases cC:k=1
      ·subst cC
       have bC:Hid (vb3 SF fm first n (N-(i+1)) (i+1) 1 l (op++p) out=aG):=by
        show _=_;rw [<-aU.out];have e1:N-i=(N-(i+1))+1:=by omega
        rw [e1];exact (ZDW hR (by rw [cN];exact aH) hgo).symm
       go_wp2;exact ⟨⟨i+1,op++p,1,l,m,p,out,_,_,rfl,rfl,by simp,by omega,(by rw [ByteArray.size_append];omega),by omega,bC.out,D8⟩,by simp [intOf];omega⟩
      ·have fC:(k == 1)=false:=by simp [cC]
       have dY:=hid (fun e1=>JRt (first:=first) (f:=N-(i+1)) (op:=op) (out:=out) hR (by rw [cN];exact aH) hgo e1);have e1:N-i=(N-(i+1))+1:=by omega
       have o1:=D8.ot.cell 1 _ rfl;have o2:=D8.ot.cell 2 _ rfl;have dQ:=D8.ot.froz 1 (by simp);have dZ:=D8.ot.froz 2 (by simp);have ol:=D8.ot.lt;have eO:¬ (w3.heap.size+1=w5.heap.size):=by have:=D5.ot.lt;omega
       have eS:¬ (w5.heap.size=w3.heap.size+1):=by have:=D5.ot.lt;omega
       by_cases cT:k=2
       ·subst cT
        have bC:Hid (vb3 SF fm first n (N-(i+1)) (i+1) 2 l ByteArray.empty (out.1++[op++p],(i:Int)+1,l)=aG):=by
         show _=_;rw [<-aU.out,e1];exact (dY.out (by omega)).symm
        have o0:=D8.ot.cell 0 _ rfl;have eL:=D8.ot.froz 0 (by simp);have D9:=D8.below (zE5 w8 (.cells #[.string (op++p)] 9));have dJ:=aR.alloc (.cells #[.string (op++p)] 9);have dU:=hid D9.own;have fJ:=D8.be.size;have fQ:(out.1.map Value.string).length=out.1.length:=List.length_map _;have aX:=hid D9;have dK:=hid dJ;clear D9 dJ
        go_upto_region 18 with (first | (at_builtin;refine WAL _ rfl _ _ 28 rfl w.heap.size Tryz.underlying28 HI.out rfl (by omega) _ out.1.length _ rfl dU.out ⟨w8.heap.size,0,none⟩ 1 1 [.string (op++p)] rfl rfl (vtr _ _ _) (Z75 _) (by simp;omega) (w8.heap.size+1) (by simp) ?_;intro gn cap cV aE aA aM dO;have aF:cV.ownsRow w.heap.size 9 1 (.slice (some ⟨gn,0,none⟩) (out.1.length+1) cap) (out.1++[op++p]).length ((out.1++[op++p]).map Value.string):=(by rw [List.length_append,List.map_append];exact aE);have dI:=hid (aX.out.push (ents':=out.1++[op++p]) aF aA (aM.elim (fun e=>.inl e) (fun e=>.inr (congrArg some e))) (by simp));have c10:=aX.out.own_ne (k:=w3.heap.size+1) (by omega);have eR:=fun i=>(World.cell?_of_block (a:=⟨w3.heap.size+1,i,none⟩) (aA.block (w3.heap.size+1) (by simp;omega) (fun e=>c10 e.symm)));have bG:=hid (dK.out.grown aA (fun e=>by have:=(D5.own.lt _ e.symm).2;omega));have bV:=aX.out.ot.grown aA (fun e=>c10 e.symm);have eU:=bV.cell 0 _ rfl;have cP:=bV.froz 0 (by simp);have cM:=bV.lt;clear aE aA aM aF))
        have aN:=dI.out;have aJ:=bG.out.other ⟨w3.heap.size+1,0,none⟩ eO (.slice (some ⟨gn,0,none⟩) (out.1.length+1) cap);obtain ⟨fA,aL⟩:∃ z,z=cV.setCell ⟨w3.heap.size+1,0,none⟩ (.slice (some ⟨gn,0,none⟩) (out.1.length+1) cap):=⟨_,rfl⟩;rw [<-aL] at aN aJ ⊢;clear aL dI bG aX dK dU eU cP cM bV eR c10 o0 eL o1 o2 dQ dZ ol p0 p1 p3 pl D8 aR;have o1:=aN.ot.cell 1 _ rfl;have o2:=aN.ot.cell 2 _ rfl;have dQ:=aN.ot.froz 1 (by simp);have dZ:=aN.ot.froz 2 (by simp);have ol:=aN.ot.lt;have p1:=aJ.cell 1 _ rfl;have pl:=aJ.lt;have cH:=hid (aN.setEnd ((i:Int)+1) l);clear aN aJ;go_wp2;exact ⟨⟨i+1,⟨#[]⟩,2,l,m,p,(out.1++[op++p],(i:Int)+1,l),_,_,rfl,rfl,by simp,by omega,by show 0<=_;omega,by show (out.1++[op++p]).length<=_;simp;omega,bC.out,cH.out⟩,by simp [intOf];omega⟩
       ·have eV:(k == 2)=false:=by simp [cT]
        have bC:Hid (vb3 SF fm first n (N-(i+1)) (i+1) k l ByteArray.empty (out.1,(i:Int)+1,l)=aG):=by
         show _=_;rw [<-aU.out,e1];have:=(dY.out cC).symm;rw [if_neg cT] at this;exact this
        have D9:=D8.setEnd ((i:Int)+1) l;have aX:=hid D9;clear D9;go_wp2;exact ⟨⟨i+1,⟨#[]⟩,k,l,m,p,(out.1,(i:Int)+1,l),_,_,rfl,rfl,by simp,by omega,by show 0<=_;omega,by show out.1.length<=_;omega,bC.out,aX.out⟩,by simp [intOf];omega⟩
    ·have HF:Hid (aG=out):=by show _=_;rw [<-aU.out];exact ZgQ hR (by rw [cN];exact fun h=>aH h.1)
     have fE:(m-(i:Int) == first)=false:=by simp [aH]
     go_wp2_with fail;refine (aP.out _).mono ?_;rintro e w5 ⟨rfl,aT⟩;have D5:=D.below aT;have D6:=D5.below (zE5 w5 (.cells #[.int .i64 k,.int .i64 l,.int .i64 m,.string p] 53));have rP:=kR4 w5 #[.int .i64 k,.int .i64 l,.int .i64 m,.string p] 53 w5.heap.size rfl;have x2:=rP.cell 2 _ rfl;have xl:=rP.lt;obtain ⟨o0,o1,o2⟩:=D6.ot.k3;obtain ⟨b0,b1,b2⟩:=D6.rb.k3;obtain ⟨cF,cK,cU⟩:=D6.rb.z3;have ol:=D6.ot.lt;have bl:=D6.rb.lt;have aC:=hid D6;have aW:¬ (w.heap.size+1=w3.heap.size+1):=by have:=D6.o2;have:=D6.o3;omega
     go_wp2;refine bodyPost_ret (v:=.agg #[.slice ya out.1.length yc,.int .i64 out.2.1,.int .i64 out.2.2]) (by simp [results,Tryz.results94,go_sem,b0,b1,b2]) rfl ?_;rw [HF.out];have aD:=aC.out.own_ne (k:=w.heap.size+1) (by have:=aC.out.o2;have:=aC.out.o3;omega);exact ⟨_,rfl,ownsRow_setCell_other (ownsRow_setCell_other (ownsRow_setCell_other aC.out.own aD _) aD _) aD _,((aC.out.be.setCell (by show w.heap.size<=w.heap.size+1;omega) _).setCell (by show w.heap.size<=w.heap.size+1;omega) _).setCell (by show w.heap.size<=w.heap.size+1;omega) _⟩
  ·have HF:Hid (aG=out):=by
    show _=_;rw [<-aU.out];have:N-i=0:=by omega
    rw [this];rfl
   have cO:¬ ((i:Int)<(N:Int)):=by omega
   obtain ⟨o0,o1,o2⟩:=D.ot.k3;obtain ⟨b0,b1,b2⟩:=D.rb.k3;obtain ⟨cF,cK,cU⟩:=D.rb.z3;have ol:=D.ot.lt;have bl:=D.rb.lt;have aC:=hid D;have aW:¬ (w.heap.size+1=w3.heap.size+1):=by have:=D.o2;have:=D.o3;omega
   go_wp2;refine bodyPost_ret (v:=.agg #[.slice ya out.1.length yc,.int .i64 out.2.1,.int .i64 out.2.2]) (by simp [results,Tryz.results94,go_sem,b0,b1,b2]) rfl ?_;rw [HF.out];have aD:=aC.out.own_ne (k:=w.heap.size+1) (by have:=aC.out.o2;have:=aC.out.o3;omega);exact ⟨_,rfl,ownsRow_setCell_other (ownsRow_setCell_other (ownsRow_setCell_other aC.out.own aD _) aD _) aD _,((aC.out.be.setCell (by show w.heap.size<=w.heap.size+1;omega) _).setCell (by show w.heap.size<=w.heap.size+1;omega) _).setCell (by show w.heap.size<=w.heap.size+1;omega) _⟩
theorem zlM (a:Option Addr) (ss:List ByteArray) (c:Nat) (a':Option Addr) (ws:List (Int×ByteArray)) (c':Nat) (aC size first aA n:Int) (w:World) (h:Strs w a ss) (h':Wrs w a' ws) (hl:ss.length<=1048576) (aD:ws.length<=1048576) (hs:∀ s∈ss,s.size<=1048576) (aE:∀ x∈ws,x.2.size<=1048576) :
  Calls Tryz.prog 94 #[Zoj a ss.length c a' ws.length c',.int .i64 aC,.int .i64 size,.int .i64 first,.int .i64 aA,.int .i64 n] w fun e w'=>xPk w w' e (scD ss ws aC size first aA n):=by
 by_cases aB:kAU ss ws aC size n
 ·exact kzz a ss c a' ws c' aC size first aA n w h h' hl aD hs aE aB
 ·rw [zd8 ss ws aC size first aA n aB]
  exact xjg a ss c a' ws c' aC size first aA n w h h' hl aD hs aE aB
end Go.Proofs.YtcdojnnkjeakmaaGreatDoor
