import Derived.Test.YthdilmkbnpmdaaaPrG45
set_option maxHeartbeats 32000000
namespace Go.Proofs.Ythdilmkbnpmdaaa
open Go.RowKit
set_option maxRecDepth 8000
set_option linter.unusedVariables false
set_option linter.unusedSimpArgs false
theorem i64_idS (x:Int) (h0:-9223372036854775808<=x) (h1:x<=9223372036854775807):IntKind.i64.wrap x=x:=by
 simp [IntKind.wrap,IntKind.bits,IntKind.signed]
 omega
theorem info_strS:(Try.prog.info? 9).map (fun i=>(i.zero,i.size,i.bytes))=some (some (.string ByteArray.empty),1,16):=by kernel_rfl
theorem info_partsSc {P:Program} {e:TypeId} {z:Value} {size bytes:Nat} (h:(P.info? e).map (fun i=>(i.zero,i.size,i.bytes))=some (some z,size,bytes)):∃ i,P.info? e=some i/\i.zero=some z/\i.size=size/\i.bytes=bytes:=by
 obtain ⟨i,hi,hh⟩:=Option.map_eq_some_iff.1 h
 simp only [Prod.mk.injEq] at hh
 exact ⟨i,hi,hh⟩
theorem news_atS (w:World) (cs:Array Value) (t:TypeId):∀ j u,cs.toList[j]?=some u->(w.alloc (.cells cs t)).cell? ((⟨w.heap.size,0,none⟩:Addr).add j)=some u:=World.news_of_block (heap_alloc_new w (.cells cs t))
theorem oneSS (k:ByteArray):∀ u∈[Value.string k],u.oneCell'=true:=by
 intro u hu
 simp only [List.mem_cons,List.not_mem_nil,or_false] at hu
 subst hu
 rfl
theorem sc_no (ss:List ByteArray) (ws:List (Int×ByteArray)) (frm size first life n:Int) (h:¬ scOk ss ws frm size n):scD ss ws frm size first life n=([],0,0):=by unfold scD;rw [if_neg h]
theorem scan_s_no (a:Option Addr) (ss:List ByteArray) (c:Nat) (a':Option Addr) (ws:List (Int×ByteArray)) (c':Nat) (frm size first life n:Int) (w:World) (h:Strs w a ss) (h':Wrs w a' ws) (hl:ss.length<=1048576) (hl':ws.length<=1048576) (hs:∀ s∈ss,s.size<=1048576) (hs':∀ x∈ws,x.2.size<=1048576) (hno:¬ scOk ss ws frm size n) :
  Calls Try.prog 78 #[diskV a ss.length c a' ws.length c',.int .i64 frm,.int .i64 size,.int .i64 first,.int .i64 life,.int .i64 n] w fun e w'=>ScPost w w' e ([],0,0):=by
 have hb0:∀ o1 o2,Below w.heap.size w ((w.alloc o1).alloc o2):=fun o1 o2=>((Below.refl _ _).alloc (Nat.le_refl _) _).alloc (by simp) _
 have HV:=hid (fun (wx:World) (hb:Below w.heap.size w wx)=>valid_s a ss c a' ws c' wx (h.below hb) (h'.below hb) hl hl' hs hs')
 cases hok:diskOk ss ws with
 | false =>
  have hd:decide (1<=n/\n<=8)=decide (1<=n/\n<=8):=rfl
  go_enter Try.func78,Try.ntmps78
  go_wp2_with (first | (go_at_call 8;refine (HV.out _ (hb0 _ _)).mono ?_;rw [hok];rintro e w1 ⟨rfl,hb1⟩;have r6:=((row_new' w #[.slice a ss.length c,.slice a' ws.length c'] 26 w.heap.size rfl).alloc (.cells #[.slice none 0 0,.int .i64 0,.int .i64 0] 140)).below hb1;have rRB:=(row_new' (w.alloc (.cells #[.slice a ss.length c,.slice a' ws.length c'] 26)) #[.slice none 0 0,.int .i64 0,.int .i64 0] 140 (w.heap.size+1) (by simp)).below hb1;have HB:=hid ((hb0 (.cells #[.slice a ss.length c,.slice a' ws.length c'] 26) (.cells #[.slice none 0 0,.int .i64 0,.int .i64 0] 140)).trans (hb1.mono (by simp<;>omega)));have q0:=r6.cell 0 _ rfl;have ql:=r6.lt;have b0:=rRB.cell 0 _ rfl;have b1:=rRB.cell 1 _ rfl;have b2:=rRB.cell 2 _ rfl;have bf0:=rRB.froz 0 (by simp);have bf1:=rRB.froz 1 (by simp);have bf2:=rRB.froz 2 (by simp);have bl:=rRB.lt;clear hb1 r6 rRB) | (go_at_call 50;refine (width_s _ _).mono ?_;rw [hd];rintro e wz ⟨rfl,hwz⟩;rw [hwz];clear hwz wz))
  refine bodyPost_ret (v:=.agg #[.slice none 0 0,.int .i64 0,.int .i64 0]) (by simp [results,Try.results78,go_sem,b0,b1,b2]) rfl ?_
  exact ⟨.slice none 0 0,rfl,World.ownsRow_nil _ _ _ _,((HB.out.setCell (by show w.heap.size<=w.heap.size+1;omega) _).setCell (by show w.heap.size<=w.heap.size+1;omega) _).setCell (by show w.heap.size<=w.heap.size+1;omega) _⟩
 | true =>
  obtain ⟨⟨hn1,hn2,hn3⟩,h64,hw⟩:=diskOk_of hok
  by_cases hn:1<=n/\n<=8
  ·have hd:decide (1<=n/\n<=8)=true:=decide_eq_true hn
   by_cases f0:frm<0
   ·clear hno
    go_enter Try.func78,Try.ntmps78
    go_wp2_with (first | (go_at_call 8;refine (HV.out _ (hb0 _ _)).mono ?_;rw [hok];rintro e w1 ⟨rfl,hb1⟩;have r6:=((row_new' w #[.slice a ss.length c,.slice a' ws.length c'] 26 w.heap.size rfl).alloc (.cells #[.slice none 0 0,.int .i64 0,.int .i64 0] 140)).below hb1;have rRB:=(row_new' (w.alloc (.cells #[.slice a ss.length c,.slice a' ws.length c'] 26)) #[.slice none 0 0,.int .i64 0,.int .i64 0] 140 (w.heap.size+1) (by simp)).below hb1;have HB:=hid ((hb0 (.cells #[.slice a ss.length c,.slice a' ws.length c'] 26) (.cells #[.slice none 0 0,.int .i64 0,.int .i64 0] 140)).trans (hb1.mono (by simp<;>omega)));have q0:=r6.cell 0 _ rfl;have ql:=r6.lt;have b0:=rRB.cell 0 _ rfl;have b1:=rRB.cell 1 _ rfl;have b2:=rRB.cell 2 _ rfl;have bf0:=rRB.froz 0 (by simp);have bf1:=rRB.froz 1 (by simp);have bf2:=rRB.froz 2 (by simp);have bl:=rRB.lt;clear hb1 r6 rRB) | (go_at_call 50;refine (width_s _ _).mono ?_;rw [hd];rintro e wz ⟨rfl,hwz⟩;rw [hwz];clear hwz wz))
    refine bodyPost_ret (v:=.agg #[.slice none 0 0,.int .i64 0,.int .i64 0]) (by simp [results,Try.results78,go_sem,b0,b1,b2]) rfl ?_
    exact ⟨.slice none 0 0,rfl,World.ownsRow_nil _ _ _ _,((HB.out.setCell (by show w.heap.size<=w.heap.size+1;omega) _).setCell (by show w.heap.size<=w.heap.size+1;omega) _).setCell (by show w.heap.size<=w.heap.size+1;omega) _⟩
   ·by_cases s0:size<0
    ·clear hno
     go_enter Try.func78,Try.ntmps78
     go_wp2_with (first | (go_at_call 8;refine (HV.out _ (hb0 _ _)).mono ?_;rw [hok];rintro e w1 ⟨rfl,hb1⟩;have r6:=((row_new' w #[.slice a ss.length c,.slice a' ws.length c'] 26 w.heap.size rfl).alloc (.cells #[.slice none 0 0,.int .i64 0,.int .i64 0] 140)).below hb1;have rRB:=(row_new' (w.alloc (.cells #[.slice a ss.length c,.slice a' ws.length c'] 26)) #[.slice none 0 0,.int .i64 0,.int .i64 0] 140 (w.heap.size+1) (by simp)).below hb1;have HB:=hid ((hb0 (.cells #[.slice a ss.length c,.slice a' ws.length c'] 26) (.cells #[.slice none 0 0,.int .i64 0,.int .i64 0] 140)).trans (hb1.mono (by simp<;>omega)));have q0:=r6.cell 0 _ rfl;have ql:=r6.lt;have b0:=rRB.cell 0 _ rfl;have b1:=rRB.cell 1 _ rfl;have b2:=rRB.cell 2 _ rfl;have bf0:=rRB.froz 0 (by simp);have bf1:=rRB.froz 1 (by simp);have bf2:=rRB.froz 2 (by simp);have bl:=rRB.lt;clear hb1 r6 rRB) | (go_at_call 50;refine (width_s _ _).mono ?_;rw [hd];rintro e wz ⟨rfl,hwz⟩;rw [hwz];clear hwz wz))
     refine bodyPost_ret (v:=.agg #[.slice none 0 0,.int .i64 0,.int .i64 0]) (by simp [results,Try.results78,go_sem,b0,b1,b2]) rfl ?_
     exact ⟨.slice none 0 0,rfl,World.ownsRow_nil _ _ _ _,((HB.out.setCell (by show w.heap.size<=w.heap.size+1;omega) _).setCell (by show w.heap.size<=w.heap.size+1;omega) _).setCell (by show w.heap.size<=w.heap.size+1;omega) _⟩
    ·by_cases f1:(ss.length:Int)<frm
     ·clear hno
      go_enter Try.func78,Try.ntmps78
      go_wp2_with (first | (go_at_call 8;refine (HV.out _ (hb0 _ _)).mono ?_;rw [hok];rintro e w1 ⟨rfl,hb1⟩;have r6:=((row_new' w #[.slice a ss.length c,.slice a' ws.length c'] 26 w.heap.size rfl).alloc (.cells #[.slice none 0 0,.int .i64 0,.int .i64 0] 140)).below hb1;have rRB:=(row_new' (w.alloc (.cells #[.slice a ss.length c,.slice a' ws.length c'] 26)) #[.slice none 0 0,.int .i64 0,.int .i64 0] 140 (w.heap.size+1) (by simp)).below hb1;have HB:=hid ((hb0 (.cells #[.slice a ss.length c,.slice a' ws.length c'] 26) (.cells #[.slice none 0 0,.int .i64 0,.int .i64 0] 140)).trans (hb1.mono (by simp<;>omega)));have q0:=r6.cell 0 _ rfl;have ql:=r6.lt;have b0:=rRB.cell 0 _ rfl;have b1:=rRB.cell 1 _ rfl;have b2:=rRB.cell 2 _ rfl;have bf0:=rRB.froz 0 (by simp);have bf1:=rRB.froz 1 (by simp);have bf2:=rRB.froz 2 (by simp);have bl:=rRB.lt;clear hb1 r6 rRB) | (go_at_call 50;refine (width_s _ _).mono ?_;rw [hd];rintro e wz ⟨rfl,hwz⟩;rw [hwz];clear hwz wz))
      refine bodyPost_ret (v:=.agg #[.slice none 0 0,.int .i64 0,.int .i64 0]) (by simp [results,Try.results78,go_sem,b0,b1,b2]) rfl ?_
      exact ⟨.slice none 0 0,rfl,World.ownsRow_nil _ _ _ _,((HB.out.setCell (by show w.heap.size<=w.heap.size+1;omega) _).setCell (by show w.heap.size<=w.heap.size+1;omega) _).setCell (by show w.heap.size<=w.heap.size+1;omega) _⟩
     ·have g3:IntKind.i64.wrap ((ss.length:Int)-frm)=(ss.length:Int)-frm:=i64_idS _ (by omega) (by omega)
      by_cases s1:(ss.length:Int)-frm<size
      ·clear hno
       go_enter Try.func78,Try.ntmps78
       go_wp2_with (first | (go_at_call 8;refine (HV.out _ (hb0 _ _)).mono ?_;rw [hok];rintro e w1 ⟨rfl,hb1⟩;have r6:=((row_new' w #[.slice a ss.length c,.slice a' ws.length c'] 26 w.heap.size rfl).alloc (.cells #[.slice none 0 0,.int .i64 0,.int .i64 0] 140)).below hb1;have rRB:=(row_new' (w.alloc (.cells #[.slice a ss.length c,.slice a' ws.length c'] 26)) #[.slice none 0 0,.int .i64 0,.int .i64 0] 140 (w.heap.size+1) (by simp)).below hb1;have HB:=hid ((hb0 (.cells #[.slice a ss.length c,.slice a' ws.length c'] 26) (.cells #[.slice none 0 0,.int .i64 0,.int .i64 0] 140)).trans (hb1.mono (by simp<;>omega)));have q0:=r6.cell 0 _ rfl;have ql:=r6.lt;have b0:=rRB.cell 0 _ rfl;have b1:=rRB.cell 1 _ rfl;have b2:=rRB.cell 2 _ rfl;have bf0:=rRB.froz 0 (by simp);have bf1:=rRB.froz 1 (by simp);have bf2:=rRB.froz 2 (by simp);have bl:=rRB.lt;clear hb1 r6 rRB) | (go_at_call 50;refine (width_s _ _).mono ?_;rw [hd];rintro e wz ⟨rfl,hwz⟩;rw [hwz];clear hwz wz))
       refine bodyPost_ret (v:=.agg #[.slice none 0 0,.int .i64 0,.int .i64 0]) (by simp [results,Try.results78,go_sem,b0,b1,b2]) rfl ?_
       exact ⟨.slice none 0 0,rfl,World.ownsRow_nil _ _ _ _,((HB.out.setCell (by show w.heap.size<=w.heap.size+1;omega) _).setCell (by show w.heap.size<=w.heap.size+1;omega) _).setCell (by show w.heap.size<=w.heap.size+1;omega) _⟩
      ·exact absurd ⟨hok,hn,by omega,by omega,by omega,by omega⟩ hno
  ·have hd:decide (1<=n/\n<=8)=false:=decide_eq_false hn
   clear hno
   go_enter Try.func78,Try.ntmps78
   go_wp2_with (first | (go_at_call 8;refine (HV.out _ (hb0 _ _)).mono ?_;rw [hok];rintro e w1 ⟨rfl,hb1⟩;have r6:=((row_new' w #[.slice a ss.length c,.slice a' ws.length c'] 26 w.heap.size rfl).alloc (.cells #[.slice none 0 0,.int .i64 0,.int .i64 0] 140)).below hb1;have rRB:=(row_new' (w.alloc (.cells #[.slice a ss.length c,.slice a' ws.length c'] 26)) #[.slice none 0 0,.int .i64 0,.int .i64 0] 140 (w.heap.size+1) (by simp)).below hb1;have HB:=hid ((hb0 (.cells #[.slice a ss.length c,.slice a' ws.length c'] 26) (.cells #[.slice none 0 0,.int .i64 0,.int .i64 0] 140)).trans (hb1.mono (by simp<;>omega)));have q0:=r6.cell 0 _ rfl;have ql:=r6.lt;have b0:=rRB.cell 0 _ rfl;have b1:=rRB.cell 1 _ rfl;have b2:=rRB.cell 2 _ rfl;have bf0:=rRB.froz 0 (by simp);have bf1:=rRB.froz 1 (by simp);have bf2:=rRB.froz 2 (by simp);have bl:=rRB.lt;clear hb1 r6 rRB) | (go_at_call 50;refine (width_s _ _).mono ?_;rw [hd];rintro e wz ⟨rfl,hwz⟩;rw [hwz];clear hwz wz))
   refine bodyPost_ret (v:=.agg #[.slice none 0 0,.int .i64 0,.int .i64 0]) (by simp [results,Try.results78,go_sem,b0,b1,b2]) rfl ?_
   exact ⟨.slice none 0 0,rfl,World.ownsRow_nil _ _ _ _,((HB.out.setCell (by show w.heap.size<=w.heap.size+1;omega) _).setCell (by show w.heap.size<=w.heap.size+1;omega) _).setCell (by show w.heap.size<=w.heap.size+1;omega) _⟩
theorem scan_s_yes (a:Option Addr) (ss:List ByteArray) (c:Nat) (a':Option Addr) (ws:List (Int×ByteArray)) (c':Nat) (frm size first life n:Int) (w:World) (h:Strs w a ss) (h':Wrs w a' ws) (hl:ss.length<=1048576) (hl':ws.length<=1048576) (hs:∀ s∈ss,s.size<=1048576) (hs':∀ x∈ws,x.2.size<=1048576) (hyes:scOk ss ws frm size n) :
  Calls Try.prog 78 #[diskV a ss.length c a' ws.length c',.int .i64 frm,.int .i64 size,.int .i64 first,.int .i64 life,.int .i64 n] w fun e w'=>ScPost w w' e (scD ss ws frm size first life n):=by
 have hb0:∀ o1 o2,Below w.heap.size w ((w.alloc o1).alloc o2):=fun o1 o2=>((Below.refl _ _).alloc (Nat.le_refl _) _).alloc (by simp) _
 have hres:scD ss ws frm size first life n=scanP (fun k=>(syncs ws ss).getD k ByteArray.empty) frm.toNat first n size.toNat 0 0 life ByteArray.empty ([],0,life):=by unfold scD;rw [if_pos hyes]
 rw [hres]
 clear hres
 obtain ⟨hok,hn,f0,s0,f1,s1⟩:=hyes
 obtain ⟨fm,rfl⟩:∃ k:Nat,frm=(k:Int):=⟨frm.toNat,by omega⟩
 obtain ⟨N,rfl⟩:∃ k:Nat,size=(k:Int):=⟨size.toNat,by omega⟩
 simp only [Int.toNat_natCast]
 have hd:decide (1<=n/\n<=8)=true:=decide_eq_true hn
 obtain ⟨⟨hn1,hn2,hn3⟩,h64,hw⟩:=diskOk_of hok
 obtain ⟨i0,hi0,hz0,hz1,hz2⟩:=info_partsSc info_strS
 have HI:=hid (And.intro hi0 (And.intro hz0 (And.intro hz1 hz2)))
 clear hi0 hz0 hz1 hz2
 have g0:¬ ((fm:Int)<0):=by omega
 have g1:¬ ((N:Int)<0):=by omega
 have g2:¬ ((ss.length:Int)<(fm:Int)):=by omega
 have g3:IntKind.i64.wrap ((ss.length:Int)-(fm:Int))=(ss.length:Int)-(fm:Int):=i64_idS _ (by omega) (by omega)
 have g4:¬ ((ss.length:Int)-(fm:Int)<(N:Int)):=by omega
 obtain ⟨SF,e_SF⟩:∃ SF:Nat->ByteArray,SF=fun k=>(syncs ws ss).getD k ByteArray.empty:=⟨_,rfl⟩
 have HSZ:Hid (∀ k,(SF k).size<=1048576):=fun k=>by rw [e_SF];exact syncs_le ws ss hs hs' k
 rw [<-e_SF]
 obtain ⟨RES,HRES⟩:∃ RES,Hid (RES=scanP SF fm first n N 0 0 life ByteArray.empty ([],0,life)):=⟨_,hid rfl⟩
 rw [<-HRES.out]
 go_enter Try.func78,Try.ntmps78
 go_wp2_with fail
 refine (valid_s a ss c a' ws c' _ (h.below (hb0 _ _)) (h'.below (hb0 _ _)) hl hl' hs hs').mono ?_
 rw [hok]
 rintro e w1 ⟨rfl,hb1⟩
 have r6:=(row_new' w #[.slice a ss.length c,.slice a' ws.length c'] 26 w.heap.size rfl).alloc (.cells #[.slice none 0 0,.int .i64 0,.int .i64 0] 140)
 have rRB:=row_new' (w.alloc (.cells #[.slice a ss.length c,.slice a' ws.length c'] 26)) #[.slice none 0 0,.int .i64 0,.int .i64 0] 140 (w.heap.size+1) (by simp)
 have r6:=r6.below hb1
 have rRB:=rRB.below hb1
 have be1:=(hb0 (.cells #[.slice a ss.length c,.slice a' ws.length c'] 26) (.cells #[.slice none 0 0,.int .i64 0,.int .i64 0] 140)).trans (hb1.mono (by simp<;>omega))
 have q0:=r6.cell 0 _ rfl
 have q1:=r6.cell 1 _ rfl
 have lRB:=rRB.lt
 clear hb1
 go_wp2_with (first | (go_at_call 50;refine (width_s _ _).mono ?_;rw [hd];rintro e wz ⟨rfl,hwz⟩;rw [hwz];clear hwz wz))
 refine (copy_s a ss c a' ws c' _ (h.below be1) (h'.below be1) hn2 hn3).mono ?_
 rintro e w2 ⟨g,c1,g',c1',rfl,hod,hg,hg',hb2⟩
 have hlen:ss.length≠0:=by omega
 have hg1:w1.heap.size<=g:=hg g (by unfold blk;rw [if_neg hlen];rfl)
 have hrs:Row w2 g (ss.map Value.string):=by
  rcases hod.s with e | ⟨b,e,hr⟩
  ·exact absurd (congrArg List.length e) (by rw [List.length_map,List.length_nil];omega)
  ·cases e;exact hr
 have hne:wcells ws≠[]->g'≠g:=fun hc=>by
  have hl:ws.length≠0:=fun e=>hc (by rw [List.eq_nil_of_length_eq_zero e];rfl)
  rcases hod.ne with e | e | e
  ·unfold blk at e;rw [if_neg hlen] at e;exact absurd e (by simp)
  ·unfold blk at e;rw [if_neg hl] at e;exact absurd e (by simp)
  ·unfold blk at e;rw [if_neg hlen,if_neg hl] at e;exact fun e2=>e (by rw [e2])
 have HY:=hid (sync_s g g' ss c1 ws c1' w2 hrs hod.p hne hn2 hn3 (fun x hx=>by have:=of_decide_eq_true (hw x hx);omega))
 have be2:=be1.trans (hb2.mono be1.size)
 have rRB:=rRB.below hb2
 have l12:=hb2.size
 clear q0 q1 hod hg hg' hb2 hrs hne r6
 go_wp2_with fail
 refine HY.out.mono ?_
 rintro e w3 ⟨x,rfl,hx1,hx2,hr3,hgr⟩
 have be3:=be2.trans (grown_below hgr be2.size (fun k hk=>by cases hk;have:=be1.size;omega))
 have rRB:=rRB.grown hgr (fun e=>by injection e with e;omega)
 have hgl3:g<w3.heap.size:=hr3.lt
 have hrl:((syncs ws ss).map Value.string).length=ss.length:=by rw [List.length_map,syncs_length]
 have HCL:Hid (∀ k,k<ss.length->((syncs ws ss).map Value.string)[k]?=some (.string (SF k))):=fun k hk=>by
  rw [e_SF]
  simp [List.getD,syncs_length,hk]
 obtain ⟨SV,e_SV⟩:∃ SV,SV=(syncs ws ss).map Value.string:=⟨_,rfl⟩
 rw [<-e_SV] at hr3 hrl HCL
 clear e_SV HY e_SF hgr h h' hs hs' h64 hw
 have D0:ScB w (((w3.alloc (.cells #[.slice (some ⟨g,0,none⟩) ss.length c1,.slice (some ⟨x,0,none⟩) 0 0] 26)).alloc (.cells #[.slice none 0 0,.int .i64 0,.int .i64 life] 140)).alloc (.cells #[.int .i64 0,.int .i64 life,.int .i64 0,.string ⟨#[]⟩] 106)) (w.heap.size+1) g w3.heap.size (w3.heap.size+1) (w3.heap.size+1+1) SV c1 (.slice (some ⟨x,0,none⟩) 0 0) (.slice none 0 0) [] 0 life 0 life 0 ⟨#[]⟩:=by
  refine ⟨((rRB.alloc _).alloc _).alloc _,((hr3.alloc _).alloc _).alloc _,?_,?_,?_,World.ownsRow_nil _ _ _ _,by omega,by omega,by omega,by omega,by omega,fun k hk=>(by cases hk),?_⟩
  ·rw [hrl]
   exact ((row_new _ _ _).alloc _).alloc _
  ·exact (row_new' _ _ _ _ (by simp)).alloc _
  ·exact row_new' _ _ _ _ (by simp)
  ·have b1:=be3.alloc be3.size (.cells #[.slice (some ⟨g,0,none⟩) ss.length c1,.slice (some ⟨x,0,none⟩) 0 0] 26)
   have b2:=b1.alloc b1.size (.cells #[.slice none 0 0,.int .i64 0,.int .i64 life] 140)
   exact b2.alloc b2.size _
 clear rRB hr3 be3 be2 be1
 go_wp2
 go_loopw [16,17] (fun ov iv wr=>∃ (i:Nat) (op:ByteArray) (wk wl wm:Int) (wp:ByteArray) (out:Scd) (Y:Value) (W:World),W=wr/\ov=.string op/\iv=.int .i64 (i:Int)/\i<=N/\op.size<=64*i/\out.1.length<=i/\Hid (scanP SF fm first n (N-i) i wk wl op out=RES)/\ScB w W (w.heap.size+1) g w3.heap.size (w3.heap.size+1) (w3.heap.size+1+1) SV c1 (.slice (some ⟨x,0,none⟩) 0 0) Y out.1 out.2.1 out.2.2 wk wl wm wp) (fun _ iv _=>((N:Int)-intOf iv).toNat)
 case atStart=>exact ⟨0,⟨#[]⟩,0,life,0,⟨#[]⟩,([],0,life),_,_,rfl,rfl,rfl,Nat.zero_le _,by decide,Nat.le_refl _,by show _=_;rw [HRES.out];rfl,D0⟩
 case round =>
  obtain ⟨i,op,wk,wl,wm,wp,out,y,wr,rfl,rfl,rfl,hiN,hop,hol,HSC,D⟩:=hrel
  clear D0
  obtain ⟨ya,yc,rfl⟩:∃ ya yc,y=.slice ya out.1.length yc:=by
   rcases owns_forms D.own with ⟨h1,h2⟩ | ⟨gg,cap,h1,_⟩
   ·exact ⟨none,0,by rw [h1,h2]⟩
   ·exact ⟨_,cap,h1⟩
  by_cases hlt:i<N
  ·have hlt':(i:Int)<(N:Int):=by omega
   have hadd:IntKind.i64.wrap ((fm:Int)+(i:Int))=((fm+i:Nat):Int):=by rw [i64_idS _ (by omega) (by omega)];omega
   have hix:fm+i<ss.length:=by omega
   have hixi:((fm+i:Nat):Int)<(ss.length:Int):=by omega
   have cx0:=D.xb.cell 0 _ rfl
   rw [hrl] at cx0
   have cs:=D.sec.cell (fm+i) _ (HCL.out (fm+i) hix)
   have lx:=D.xb.lt
   have ls:=D.sec.lt
   have hw1:IntKind.i64.wrap ((i:Int)+1)=(i:Int)+1:=i64_idS _ (by omega) (by omega)
   have HRP:=hid (fun wx=>readpage_s_any (SF (fm+i)) n wx (HSZ.out _))
   cases hR:rpRes (SF (fm+i)) n with
   | none =>
    rw [hR] at HRP
    simp only [rpV] at HRP
    have HF:Hid (RES=out):=by show _=_;rw [<-HSC.out];exact scanP_none hR
    go_wp2_with fail
    refine (HRP.out _).mono ?_
    rintro e w5 ⟨rfl,hb5⟩
    have D5:=D.below hb5
    have D6:=D5.below (below_new w5 (.cells #[.int .i64 0,.int .i64 0,.int .i64 0,.string ⟨#[]⟩] 106))
    obtain ⟨o0,o1,o2⟩:=D6.ot.k3
    obtain ⟨b0,b1,b2⟩:=D6.rb.k3
    obtain ⟨bf0,bf1,bf2⟩:=D6.rb.z3
    have ol:=D6.ot.lt
    have bl:=D6.rb.lt
    have HDD:=hid D6
    have hneO:¬ (w.heap.size+1=w3.heap.size+1):=by have:=D6.o2;have:=D6.o3;omega
    go_wp2
    refine bodyPost_ret (v:=.agg #[.slice ya out.1.length yc,.int .i64 out.2.1,.int .i64 out.2.2]) (by simp [results,Try.results78,go_sem,b0,b1,b2]) rfl ?_
    rw [HF.out]
    have hnR:=HDD.out.own_ne (k:=w.heap.size+1) (by have:=HDD.out.o2;have:=HDD.out.o3;omega)
    exact ⟨_,rfl,ownsRow_setCell_other (ownsRow_setCell_other (ownsRow_setCell_other HDD.out.own hnR _) hnR _) hnR _,((HDD.out.be.setCell (by show w.heap.size<=w.heap.size+1;omega) _).setCell (by show w.heap.size<=w.heap.size+1;omega) _).setCell (by show w.heap.size<=w.heap.size+1;omega) _⟩
   | some xr =>
    obtain ⟨k,l,m,p⟩:=xr
    obtain ⟨_,_,m0,m1,l0,l1,hps⟩:=rpRes_some hR
    rw [hR] at HRP
    simp only [rpV] at HRP
    have hmi:IntKind.i64.wrap (m-(i:Int))=m-(i:Int):=i64_idS _ (by omega) (by omega)
    have HGO:=hid (fun wx=>goes_s wk wl wm wp k l m p wx)
    by_cases hnum:m-(i:Int)=first
    ·cases hgo:goesP wk wl k l with
     | false =>
      rw [hgo] at HGO
      have HF:Hid (RES=out):=by show _=_;rw [<-HSC.out];exact scanP_no hR (by rw [hgo];simp)
      go_wp2_with fail
      refine (HRP.out _).mono ?_
      rintro e w5 ⟨rfl,hb5⟩
      have D5:=D.below hb5
      have D6:=D5.below (below_new w5 (.cells #[.int .i64 k,.int .i64 l,.int .i64 m,.string p] 106))
      have rP:=row_new' w5 #[.int .i64 k,.int .i64 l,.int .i64 m,.string p] 106 w5.heap.size rfl
      obtain ⟨x0,x1,x2,x3⟩:=rP.k4
      have xl:=rP.lt
      obtain ⟨v0,v1,v2,v3⟩:=D6.ws.k4
      have vl:=D6.ws.lt
      go_wp2_with (first | (go_at_call 82;refine (HGO.out _).mono ?_;rintro e w7 ⟨rfl,hb7⟩;have D7:=D6.below hb7;have rP7:=rP.below hb7;clear hb7 x0 x1 x2 x3 xl v0 v1 v2 v3 vl D6 rP;have o0:=D7.ot.cell 0 _ rfl;have b0:=D7.rb.cell 0 _ rfl;have bf0:=D7.rb.froz 0 (by simp);have o1:=D7.ot.cell 1 _ rfl;have b1:=D7.rb.cell 1 _ rfl;have bf1:=D7.rb.froz 1 (by simp);have o2:=D7.ot.cell 2 _ rfl;have b2:=D7.rb.cell 2 _ rfl;have bf2:=D7.rb.froz 2 (by simp);have ol:=D7.ot.lt;have bl:=D7.rb.lt;have HDD:=hid D7;have hneO:¬ (w.heap.size+1=w3.heap.size+1):=(by have:=D7.o2;have:=D7.o3;omega);clear D7))
      refine bodyPost_ret (v:=.agg #[.slice ya out.1.length yc,.int .i64 out.2.1,.int .i64 out.2.2]) (by simp [results,Try.results78,go_sem,b0,b1,b2]) rfl ?_
      rw [HF.out]
      have hnR:=HDD.out.own_ne (k:=w.heap.size+1) (by have:=HDD.out.o2;have:=HDD.out.o3;omega)
      exact ⟨_,rfl,ownsRow_setCell_other (ownsRow_setCell_other (ownsRow_setCell_other HDD.out.own hnR _) hnR _) hnR _,((HDD.out.be.setCell (by show w.heap.size<=w.heap.size+1;omega) _).setCell (by show w.heap.size<=w.heap.size+1;omega) _).setCell (by show w.heap.size<=w.heap.size+1;omega) _⟩
     | true =>
      rw [hgo] at HGO
      go_wp2_with fail
      refine (HRP.out _).mono ?_
      rintro e w5 ⟨rfl,hb5⟩
      have D5:=D.below hb5
      have D6:=D5.below (below_new w5 (.cells #[.int .i64 k,.int .i64 l,.int .i64 m,.string p] 106))
      have rP:=row_new' w5 #[.int .i64 k,.int .i64 l,.int .i64 m,.string p] 106 w5.heap.size rfl
      obtain ⟨x0,x1,x2,x3⟩:=rP.k4
      have xl:=rP.lt
      obtain ⟨v0,v1,v2,v3⟩:=D6.ws.k4
      have vl:=D6.ws.lt
      go_upto_region 14 with (first | (go_at_call 82;refine (HGO.out _).mono ?_;rintro e w7 ⟨rfl,hb7⟩;have D7:=D6.below hb7;have rP7:=rP.below hb7;clear hb7 x0 x1 x2 x3 xl v0 v1 v2 v3 vl D6 rP;have hnP:¬ (w3.heap.size+1+1=w5.heap.size):=(by have:=D5.ws.lt;omega);have p0:=rP7.cell 0 _ rfl;have p1:=rP7.cell 1 _ rfl;have p2:=rP7.cell 2 _ rfl;have p3:=rP7.cell 3 _ rfl;have pl:=rP7.lt;have s0:=D7.ws.cell 0 _ rfl;have s1:=D7.ws.cell 1 _ rfl;have s2:=D7.ws.cell 2 _ rfl;have s3:=D7.ws.cell 3 _ rfl;have sf0:=D7.ws.froz 0 (by simp);have sf1:=D7.ws.froz 1 (by simp);have sf2:=D7.ws.froz 2 (by simp);have sf3:=D7.ws.froz 3 (by simp);have sl:=D7.ws.lt))
      have D8:=D7.setWas k l m p
      have rP8:=(((rP7.other ⟨w3.heap.size+1+1,0,none⟩ hnP (.int .i64 k)).other ⟨w3.heap.size+1+1,1,none⟩ hnP (.int .i64 l)).other ⟨w3.heap.size+1+1,2,none⟩ hnP (.int .i64 m)).other ⟨w3.heap.size+1+1,3,none⟩ hnP (.string p)
      obtain ⟨w8,e_w8⟩:∃ z,z=((((w7.setCell ⟨w3.heap.size+1+1,0,none⟩ (.int .i64 k)).setCell ⟨w3.heap.size+1+1,1,none⟩ (.int .i64 l)).setCell ⟨w3.heap.size+1+1,2,none⟩ (.int .i64 m)).setCell ⟨w3.heap.size+1+1,3,none⟩ (.string p)):=⟨_,rfl⟩
      rw [<-e_w8] at D8 rP8 ⊢
      clear e_w8 D7 rP7 p0 p1 p2 p3 pl s0 s1 s2 s3 sf0 sf1 sf2 sf3 sl
      have p0:=rP8.cell 0 _ rfl
      have p1:=rP8.cell 1 _ rfl
      have p3:=rP8.cell 3 _ rfl
      have pl:=rP8.lt
      have z1:¬ (9223372036854775807<op.size+p.size):=by omega
      by_cases hk1:k=1
      ·subst hk1
       have HS2:Hid (scanP SF fm first n (N-(i+1)) (i+1) 1 l (op++p) out=RES):=by
        show _=_
        rw [<-HSC.out]
        have e1:N-i=(N-(i+1))+1:=by omega
        rw [e1]
        exact (scanP_part hR (by rw [hmi];exact hnum) hgo).symm
       go_wp2
       exact ⟨⟨i+1,op++p,1,l,m,p,out,_,_,rfl,rfl,by simp,by omega,(by rw [ByteArray.size_append];omega),by omega,HS2.out,D8⟩,by simp [intOf];omega⟩
      ·have hkb:(k == 1)=false:=by simp [hk1]
       have HS1:=hid (fun e1=>scanP_end (first:=first) (f:=N-(i+1)) (op:=op) (out:=out) hR (by rw [hmi];exact hnum) hgo e1)
       have e1:N-i=(N-(i+1))+1:=by omega
       have o1:=D8.ot.cell 1 _ rfl
       have o2:=D8.ot.cell 2 _ rfl
       have of1:=D8.ot.froz 1 (by simp)
       have of2:=D8.ot.froz 2 (by simp)
       have ol:=D8.ot.lt
       have hnO:¬ (w3.heap.size+1=w5.heap.size):=by have:=D5.ot.lt;omega
       have hnO2:¬ (w5.heap.size=w3.heap.size+1):=by have:=D5.ot.lt;omega
       by_cases hk2:k=2
       ·subst hk2
        have HS2:Hid (scanP SF fm first n (N-(i+1)) (i+1) 2 l ByteArray.empty (out.1++[op++p],(i:Int)+1,l)=RES):=by
         show _=_
         rw [<-HSC.out,e1]
         exact (HS1.out (by omega)).symm
        have o0:=D8.ot.cell 0 _ rfl
        have of0:=D8.ot.froz 0 (by simp)
        have D9:=D8.below (below_new w8 (.cells #[.string (op++p)] 9))
        have rP9:=rP8.alloc (.cells #[.string (op++p)] 9)
        have HO9:=hid D9.own
        have hy0:=D8.be.size
        have hml:(out.1.map Value.string).length=out.1.length:=List.length_map _
        have HD9:=hid D9
        have HP9:=hid rP9
        clear D9 rP9
        go_upto_region 18 with (first | (at_builtin;refine WAL _ rfl _ _ 23 rfl w.heap.size Try.underlying23 HI.out rfl (by omega) _ out.1.length _ rfl HO9.out ⟨w8.heap.size,0,none⟩ 1 1 [.string (op++p)] rfl rfl (news_atS _ _ _) (oneSS _) (by simp;omega) (w8.heap.size+1) (by simp) ?_;intro gn cap w10 hown10 hgrow10 hat10 hlt10;have hown11:w10.ownsRow w.heap.size 9 1 (.slice (some ⟨gn,0,none⟩) (out.1.length+1) cap) (out.1++[op++p]).length ((out.1++[op++p]).map Value.string):=(by rw [List.length_append,List.map_append];exact hown10);have D10:=hid (HD9.out.push (ents':=out.1++[op++p]) hown11 hgrow10 (hat10.elim (fun e=>.inl e) (fun e=>.inr (congrArg some e))) (by simp));have c10:=HD9.out.own_ne (k:=w3.heap.size+1) (by omega);have g10:=fun i=>(World.cell?_of_block (a:=⟨w3.heap.size+1,i,none⟩) (hgrow10.block (w3.heap.size+1) (by simp;omega) (fun e=>c10 e.symm)));have rP10:=hid (HP9.out.grown hgrow10 (fun e=>by have:=(D5.own.lt _ e.symm).2;omega));have hlO:=HD9.out.ot.grown hgrow10 (fun e=>c10 e.symm);have h00:=hlO.cell 0 _ rfl;have hf00:=hlO.froz 0 (by simp);have hl00:=hlO.lt;clear hown10 hgrow10 hat10 hown11))
        have D11:=D10.out
        have rP11:=rP10.out.other ⟨w3.heap.size+1,0,none⟩ hnO (.slice (some ⟨gn,0,none⟩) (out.1.length+1) cap)
        obtain ⟨w11,e_w11⟩:∃ z,z=w10.setCell ⟨w3.heap.size+1,0,none⟩ (.slice (some ⟨gn,0,none⟩) (out.1.length+1) cap):=⟨_,rfl⟩
        rw [<-e_w11] at D11 rP11 ⊢
        clear e_w11 D10 rP10 HD9 HP9 HO9 h00 hf00 hl00 hlO g10 c10 o0 of0 o1 o2 of1 of2 ol p0 p1 p3 pl D8 rP8
        have o1:=D11.ot.cell 1 _ rfl
        have o2:=D11.ot.cell 2 _ rfl
        have of1:=D11.ot.froz 1 (by simp)
        have of2:=D11.ot.froz 2 (by simp)
        have ol:=D11.ot.lt
        have p1:=rP11.cell 1 _ rfl
        have pl:=rP11.lt
        have HD12:=hid (D11.setEnd ((i:Int)+1) l)
        clear D11 rP11
        go_wp2
        exact ⟨⟨i+1,⟨#[]⟩,2,l,m,p,(out.1++[op++p],(i:Int)+1,l),_,_,rfl,rfl,by simp,by omega,by show 0<=_;omega,by show (out.1++[op++p]).length<=_;simp;omega,HS2.out,HD12.out⟩,by simp [intOf];omega⟩
       ·have hkb2:(k == 2)=false:=by simp [hk2]
        have HS2:Hid (scanP SF fm first n (N-(i+1)) (i+1) k l ByteArray.empty (out.1,(i:Int)+1,l)=RES):=by
         show _=_
         rw [<-HSC.out,e1]
         have:=(HS1.out hk1).symm
         rw [if_neg hk2] at this
         exact this
        have D9:=D8.setEnd ((i:Int)+1) l
        have HD9:=hid D9
        clear D9
        go_wp2
        exact ⟨⟨i+1,⟨#[]⟩,k,l,m,p,(out.1,(i:Int)+1,l),_,_,rfl,rfl,by simp,by omega,by show 0<=_;omega,by show out.1.length<=_;omega,HS2.out,HD9.out⟩,by simp [intOf];omega⟩
    ·have HF:Hid (RES=out):=by show _=_;rw [<-HSC.out];exact scanP_no hR (by rw [hmi];exact fun h=>hnum h.1)
     have hnb:(m-(i:Int) == first)=false:=by simp [hnum]
     go_wp2_with fail
     refine (HRP.out _).mono ?_
     rintro e w5 ⟨rfl,hb5⟩
     have D5:=D.below hb5
     have D6:=D5.below (below_new w5 (.cells #[.int .i64 k,.int .i64 l,.int .i64 m,.string p] 106))
     have rP:=row_new' w5 #[.int .i64 k,.int .i64 l,.int .i64 m,.string p] 106 w5.heap.size rfl
     have x2:=rP.cell 2 _ rfl
     have xl:=rP.lt
     obtain ⟨o0,o1,o2⟩:=D6.ot.k3
     obtain ⟨b0,b1,b2⟩:=D6.rb.k3
     obtain ⟨bf0,bf1,bf2⟩:=D6.rb.z3
     have ol:=D6.ot.lt
     have bl:=D6.rb.lt
     have HDD:=hid D6
     have hneO:¬ (w.heap.size+1=w3.heap.size+1):=by have:=D6.o2;have:=D6.o3;omega
     go_wp2
     refine bodyPost_ret (v:=.agg #[.slice ya out.1.length yc,.int .i64 out.2.1,.int .i64 out.2.2]) (by simp [results,Try.results78,go_sem,b0,b1,b2]) rfl ?_
     rw [HF.out]
     have hnR:=HDD.out.own_ne (k:=w.heap.size+1) (by have:=HDD.out.o2;have:=HDD.out.o3;omega)
     exact ⟨_,rfl,ownsRow_setCell_other (ownsRow_setCell_other (ownsRow_setCell_other HDD.out.own hnR _) hnR _) hnR _,((HDD.out.be.setCell (by show w.heap.size<=w.heap.size+1;omega) _).setCell (by show w.heap.size<=w.heap.size+1;omega) _).setCell (by show w.heap.size<=w.heap.size+1;omega) _⟩
  ·have HF:Hid (RES=out):=by
    show _=_
    rw [<-HSC.out]
    have:N-i=0:=by omega
    rw [this]
    rfl
   have hlt':¬ ((i:Int)<(N:Int)):=by omega
   obtain ⟨o0,o1,o2⟩:=D.ot.k3
   obtain ⟨b0,b1,b2⟩:=D.rb.k3
   obtain ⟨bf0,bf1,bf2⟩:=D.rb.z3
   have ol:=D.ot.lt
   have bl:=D.rb.lt
   have HDD:=hid D
   have hneO:¬ (w.heap.size+1=w3.heap.size+1):=by have:=D.o2;have:=D.o3;omega
   go_wp2
   refine bodyPost_ret (v:=.agg #[.slice ya out.1.length yc,.int .i64 out.2.1,.int .i64 out.2.2]) (by simp [results,Try.results78,go_sem,b0,b1,b2]) rfl ?_
   rw [HF.out]
   have hnR:=HDD.out.own_ne (k:=w.heap.size+1) (by have:=HDD.out.o2;have:=HDD.out.o3;omega)
   exact ⟨_,rfl,ownsRow_setCell_other (ownsRow_setCell_other (ownsRow_setCell_other HDD.out.own hnR _) hnR _) hnR _,((HDD.out.be.setCell (by show w.heap.size<=w.heap.size+1;omega) _).setCell (by show w.heap.size<=w.heap.size+1;omega) _).setCell (by show w.heap.size<=w.heap.size+1;omega) _⟩
theorem scan_s (a:Option Addr) (ss:List ByteArray) (c:Nat) (a':Option Addr) (ws:List (Int×ByteArray)) (c':Nat) (frm size first life n:Int) (w:World) (h:Strs w a ss) (h':Wrs w a' ws) (hl:ss.length<=1048576) (hl':ws.length<=1048576) (hs:∀ s∈ss,s.size<=1048576) (hs':∀ x∈ws,x.2.size<=1048576) :
  Calls Try.prog 78 #[diskV a ss.length c a' ws.length c',.int .i64 frm,.int .i64 size,.int .i64 first,.int .i64 life,.int .i64 n] w fun e w'=>ScPost w w' e (scD ss ws frm size first life n):=by
 by_cases hyes:scOk ss ws frm size n
 ·exact scan_s_yes a ss c a' ws c' frm size first life n w h h' hl hl' hs hs' hyes
 ·rw [sc_no ss ws frm size first life n hyes]
  exact scan_s_no a ss c a' ws c' frm size first life n w h h' hl hl' hs hs' hyes
end Go.Proofs.Ythdilmkbnpmdaaa
