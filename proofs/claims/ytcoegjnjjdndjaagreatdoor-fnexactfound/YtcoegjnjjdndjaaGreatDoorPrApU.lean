import Derived.Test.YtcoegjnjjdndjaaGreatDoorPrG44
import Derived.Test.YtcoegjnjjdndjaaGreatDoorPrG33
import Derived.Test.YtcoegjnjjdndjaaGreatDoorPrG53
namespace Go.Proofs.YtcoegjnjjdndjaaGreatDoor
open Go.RowKit
set_option linter.unusedVariables false
set_option linter.unusedSimpArgs false
set_option maxRecDepth 8000
theorem Row.below3 {w w':World} {N g:Nat} {cs:List Value} (h:Row w g cs) (hg:g<N) (hb:Below N w w'):Row w' g cs :=
 ⟨Nat.lt_of_lt_of_le h.lt hb.size,fun i v hv=>(hb.cell (p:=⟨g,i,none⟩) hg).trans (h.cell i v hv),fun i hi=>(hb.frozen (p:=⟨g,i,none⟩) hg).trans (h.froz i hi)⟩
theorem prs_news {w:World} {b o:Nat} {rs:List Pr} (h:Prs w (some ⟨b,o,none⟩) rs):∀ j u,(prcells rs)[j]?=some u->w.cell? ((⟨b,o,none⟩:Addr).add j)=some u:=fun j u hj=>by
 rw [Addr.add_lit]
 have hjl:j<rs.length*2:=by have:=(List.getElem?_eq_some_iff.1 hj).1;rw [pr_len] at this;exact this
 obtain ⟨b',o',s0,s1,e,h0,h1,HS⟩:=h.at (k:=j / 2) (by omega)
 cases e
 have hp:=prcells_at rs (j / 2) (by omega)
 rcases (show j=j / 2*2\/j=j / 2*2+1 by omega) with e | e
 ·rw [e] at hj ⊢
  rw [hp.1,<-HS.out] at hj
  rw [<-hj];exact h0
 ·rw [e] at hj ⊢
  rw [hp.2,<-HS.out] at hj
  rw [<-hj,<-Nat.add_assoc];exact h1
theorem app_nil (t e ty:TypeId) (ht:Tryz.prog.underlying t=some (.slice e)) (hs:((Tryz.prog.info? e).map (·.size)).isSome=true) (a:Option Addr) (c:Nat) (w:World):(Builtin.append_ #[t,t] ty #[.slice none 0 0,.slice a 0 c]).run Tryz.prog w=.ok (.slice none 0 0) w:=by
 cases hq:Tryz.prog.info? e with
 | none=>simp [hq] at hs
 | some i =>
  cases a with
  | none=>simp [Builtin.append_,run_underlying ht,Builtin.lenOf,Builtin.firstCells,sizeOf,typeInfo,hq]
  | some ad=>simp [Builtin.append_,run_underlying ht,Builtin.lenOf,Builtin.firstCells,sizeOf,typeInfo,hq,loadCells,loadCellsFrom]
structure TB (w wr:World) (y:Value) (cur:List Pr):Prop where
 own:wr.ownsRow (w.heap.size+1+1+1) 111 2 y cur.length (prcells cur)
 asc:ascP cur
 r1:Row wr (w.heap.size+1) [.slice none 0 0]
 r2:Row wr (w.heap.size+1+1) [.int .i64 0]
 bel:Below w.heap.size w wr
theorem TB.post {w wr:World} {ya:Option Addr} {yc:Nat} {cur:List Pr} {x:Value} (h:TB w wr (.slice ya cur.length yc) cur):ApPost w ((wr.setCell ⟨w.heap.size+1,0,none⟩ (.slice ya cur.length yc)).setCell ⟨w.heap.size+1+1,0,none⟩ x) (.returned (.tuple #[.agg #[.slice ya cur.length yc],.int .i64 0])) cur 0:=by
 have hcap:cur.length<=yc:=by
  rcases h.own.2 with ⟨e1,e2⟩ | ⟨g,cap,cc,e1,_,_,h3,_⟩
  ·rw [e2];omega
  ·cases e1;exact h3
 have hof:OwnS wr ya (prcells cur):=by
  rcases owns_forms h.own with ⟨_,e2⟩ | ⟨g,cap,e1,_,_,e4⟩
  ·exact .inl (by rw [List.eq_nil_of_length_eq_zero e2];rfl)
  ·cases e1;exact .inr ⟨g,rfl,e4⟩
 have hge:∀ g,ya=some ⟨g,0,none⟩->prcells cur≠[]->w.heap.size+1+1<g:=fun g hg hne=>by subst hg;have:=(h.own.lt g rfl).1;omega
 refine ⟨ya,yc,rfl,hcap,(hof.setA _ (fun g hg hne=>by have:=hge g hg hne;show w.heap.size+1≠g;omega) _).setA _ (fun g hg hne=>by have:=hge g hg hne;show w.heap.size+1+1≠g;omega) _,fun g hg=>?_,(h.bel.setCell (p:=⟨w.heap.size+1,0,none⟩) (by show w.heap.size<=w.heap.size+1;omega) _).setCell (p:=⟨w.heap.size+1+1,0,none⟩) (by show w.heap.size<=w.heap.size+1+1;omega) _⟩
 unfold blk at hg
 split at hg
 ·cases hg
 ·cases ya with
  | none=>cases hg
  | some ad =>
   simp at hg
   subst hg
   have:=(h.own.lt ad.block rfl).1
   omega
set_option maxHeartbeats 8000000 in
theorem try_i (a:Option Addr) (rs:List Pr) (c:Nat) (a2:Option Addr) (b:List Ch) (c2:Nat) (w:World) (h:Prs w a rs) (hok:stateOk rs=true) (h2:Chs w a2 b) (hokb:batchOk b=true) :
  Calls Tryz.prog 141 #[stV a rs.length c,.slice a2 b.length c2] w fun e w'=>ApPost w w' e (apR rs b) (apC rs b):=by
 obtain ⟨i0,hi0,hz0,hz1,hz2⟩:=info_partsP info_prC
 have HI:=hid (And.intro hi0 (And.intro hz0 (And.intro hz1 hz2)))
 clear hi0 hz0 hz1 hz2
 have hle:rs.length<=100:=(stateOk_of hok).1
 have hle2:b.length<=20:=(batchOk_of hokb).1.2
 have hasc:=asc_of hok
 have HLN:=hid (apU_len rs b)
 unfold stV
 unfold apR apC
 rw [hok,hokb]
 simp only [Bool.and_self,if_true]
 have hmf:∀ (fn:Fn) (first cap:Array Value) (w:World),(Instr.makeFunc fn first cap).run Tryz.prog w=.ok (.func fn first cap) w:=fun _ _ _ _=>rfl
 obtain ⟨wb,hwb⟩:∃ wb,wb=((w.alloc (.cells #[.slice a rs.length c] 39)).alloc (.cells #[.slice none 0 0] 39)).alloc (.cells #[.int .i64 0] 3):=⟨_,rfl⟩
 have hwbs:wb.heap.size=w.heap.size+1+1+1:=by rw [hwb];simp
 have hbb:Below w.heap.size w wb:=by rw [hwb];exact (((Below.refl _ _).alloc (Nat.le_refl _) _).alloc (by simp) _).alloc (by simp<;>omega) _
 have r0:Row wb w.heap.size [.slice a rs.length c]:=by rw [hwb];exact ((row_new w _ _).alloc _).alloc _
 have r1:Row wb (w.heap.size+1) [.slice none 0 0]:=by rw [hwb];exact (row_atA (w:=w.alloc _) (by simp)).alloc _
 have r2:Row wb (w.heap.size+1+1) [.int .i64 0]:=by rw [hwb];exact row_atA (w:=(w.alloc _).alloc _) (by simp)
 have q0:=r0.cell 0 _ rfl
 have l0:=r0.lt
 have HR1:=hid r1
 have HR2:=hid r2
 have HBB:=hid hbb
 have HPR:=hid (h.below hbb)
 have HAS:=hid hasc
 clear r0 r1 r2 hbb hasc hok hokb
 by_cases hz:rs.length=0
 case pos =>
  obtain rfl:=List.eq_nil_of_length_eq_zero hz
  have HTB:Hid (TB w wb (.slice none 0 0) []):=⟨World.ownsRow_nil _ _ _ _,HAS.out,HR1.out,HR2.out,HBB.out⟩
  go_enter_defers Tryz.func141,Tryz.ntmps141
  go_wp2_with (at_builtin;refine Lib.wpList_append_run _ rfl _ _ 37 37 rfl _ _ rfl rfl _ _ (app_nil _ 111 _ Tryz.underlying37 (by kernel_rfl) a c _) ?_)
  simp only [List.length_nil] at hwb
  rw [<-hwb]
  clear hwb q0 l0
  go_wp2_with fail
  go_loopw [6,15] (fun y i wr=>∃ k:Nat,k<=b.length/\i=.int .i64 (k:Int)/\TB w wr y (apU [] (b.take k))) (fun _ i _=>b.length-(intOf i).toNat)
  case atStart=>exact ⟨0,Nat.zero_le _,rfl,HTB.out⟩
  case round =>
   obtain ⟨k,hk,rfl,htb⟩:=hrel
   have hN:=HLN.out k
   have hsr:w.heap.size+1<wr.heap.size:=htb.r1.lt
   have hsr2:w.heap.size+1+1<wr.heap.size:=htb.r2.lt
   by_cases hlt:k<b.length
   ·obtain ⟨bb,oo,s0,s1,g0,rfl,hc0,hc1,hc2,HS⟩:=(h2.below htb.bel).at hlt
    have hlbb:bb<w.heap.size:=by
     rcases h2 with h | ⟨b',o',h1,h2,_⟩
     ·subst h;simp at hlt
     ·cases h1;exact h2
    have hlt':(k:Int)<(b.length:Int):=by omega
    have hk0:(0:Int)<=(k:Int):=by omega
    have hst:apU [] (b.take (k+1))=chF (s0,s1,g0) (apU [] (b.take k)):=by rw [takeA_snoc b k (ByteArray.empty,ByteArray.empty,false) hlt,apU_snoc,<-HS.out]
    have HST:=hid hst
    obtain ⟨cur,hcur⟩:∃ cur,cur=apU [] (b.take k):=⟨_,rfl⟩
    rw [<-hcur] at htb HST hN
    have HTB2:=hid htb
    clear hst hcur HS htb
    have meth1:=meth_setA
    have meth2:=meth_remA
    cases g0 with
    | false =>
     go_wp2_with (first | (go_at_call 157;refine (edit_i0 s0 s1 _).mono ?_;rintro e w5 ⟨rfl,hb5⟩;have hb5':=((Below.refl wr.heap.size wr).alloc (Nat.le_refl _) (.cells #[.string s0,.string s1,.bool false] 184)).trans (hb5.mono (by simp));have HAP:=hid (setap_i (w.heap.size+1+1+1) _ cur s0 s1 w5 (owns_below HTB2.out.own hb5') HTB2.out.asc (by omega) (by have:=hb5'.size;omega));have HB5:=hid hb5';clear hb5 hb5') | (go_at_call 210;refine HAP.out.mono ?_;rintro e w6 ⟨v6,rfl,ho6,ha6,hb6⟩))
     refine ⟨⟨k+1,by omega,by go_num,?_⟩,by simp [intOf];omega⟩
     rw [HST.out]
     exact ⟨ho6,ha6,(HTB2.out.r1.below HB5.out).below3 (by omega) hb6,(HTB2.out.r2.below HB5.out).below3 (by omega) hb6,HTB2.out.bel.trans ((HB5.out.mono HTB2.out.bel.size).trans (hb6.mono (by omega)))⟩
    | true =>
     go_wp2_with (first | (go_at_call 157;refine (edit_i1 s0 s1 _).mono ?_;rintro e w5 ⟨rfl,hb5⟩;have hb5':=((Below.refl wr.heap.size wr).alloc (Nat.le_refl _) (.cells #[.string s0,.string s1,.bool true] 184)).trans (hb5.mono (by simp));have HAP:=hid (remap_i (w.heap.size+1+1+1) _ cur s0 s1 w5 (owns_below HTB2.out.own hb5') HTB2.out.asc (by omega) (by have:=hb5'.size;omega));have HB5:=hid hb5';clear hb5 hb5') | (go_at_call 201;refine HAP.out.mono ?_;rintro e w6 ⟨v6,rfl,ho6,ha6,hb6⟩))
     refine ⟨⟨k+1,by omega,by go_num,?_⟩,by simp [intOf];omega⟩
     rw [HST.out]
     exact ⟨ho6,ha6,(HTB2.out.r1.below HB5.out).below3 (by omega) hb6,(HTB2.out.r2.below HB5.out).below3 (by omega) hb6,HTB2.out.bel.trans ((HB5.out.mono HTB2.out.bel.size).trans (hb6.mono (by omega)))⟩
   ·have hkl:k=b.length:=by omega
    subst hkl
    rw [List.take_length] at htb
    obtain ⟨ya,yc,rfl,hyp⟩:=own_prs htb.own
    have q1:=htb.r1.cell 0 _ rfl
    have f1:=htb.r1.froz 0 (by simp)
    have q2:=htb.r2.cell 0 _ rfl
    have f2:=htb.r2.froz 0 (by simp)
    have HTB2:=hid htb
    clear htb hyp
    by_cases h100:(apU [] b).length<=100
    ·go_wp2_with (go_at_call 158;refine (fit_ok _ _ _ h100 _).mono ?_;rintro e w5 ⟨⟨x,rfl⟩,rfl⟩)
     refine leaves_cons (f:=156) (args:=#[.pointer (some ⟨w.heap.size+1,0,none⟩),.pointer (some ⟨w.heap.size+1+1,0,none⟩)]) (by simp) (by simp [go_sem]) ?_
     refine (catch_idle _ _ _).mono ?_
     rintro e u' w'' ⟨rfl,rfl,rfl⟩
     simp [Leaves,settle,results,Tryz.results141,go_sem,q1,q2]
     exact HTB2.out.post
    ·go_wp2_with (go_at_call 158;refine (fit_no _ _ _ (by omega) _).mono ?_;rintro e w5 ⟨rfl,rfl⟩)
     refine leaves_cons (f:=156) (args:=#[.pointer (some ⟨w.heap.size+1,0,none⟩),.pointer (some ⟨w.heap.size+1+1,0,none⟩)]) (by simp) (by simp [go_sem]) ?_
     refine (catch_panic _ _ [] _ _ _ q1 q2 f1 f2 (by simp)).mono ?_
     rintro e u' w'' ⟨rfl,rfl,rfl⟩
     simp [Leaves,settle,results,Tryz.results141,go_sem,q1,q2]
     exact ap_no rfl ((HTB2.out.bel.setCell (p:=⟨w.heap.size+1,0,none⟩) (by show w.heap.size<=w.heap.size+1;omega) _).setCell (p:=⟨w.heap.size+1+1,0,none⟩) (by show w.heap.size<=w.heap.size+1+1;omega) _)
 case neg =>
  have hpr:=HPR.out
  rcases hpr with h0 | ⟨ab,ao,rfl,hal,hac⟩
  ·exact absurd (by rw [h0];rfl) hz
  have HNW:=hid (prs_news HPR.out)
  have hm0:0<rs.length:=by omega
  go_enter_defers Tryz.func141,Tryz.ntmps141
  go_wp2_with (at_builtin;rw [<-hwb];refine wpList_append_lies _ rfl _ _ 37 rfl (w.heap.size+1+1+1) 111 i0 (.agg #[.string ByteArray.empty,.string ByteArray.empty]) 2 32 Tryz.underlying37 HI.out.1 HI.out.2.1 HI.out.2.2.1 HI.out.2.2.2 rfl (by omega) _ 0 [] rfl (World.ownsRow_nil _ _ _ _) ⟨ab,ao,none⟩ rs.length c (prcells rs) rfl (pr_len rs) HNW.out (pr_one rs) hm0 (by unfold maxLen;omega) (by omega) (by omega) wb.heap.size rfl ?_;intro g9 cap9 w9 hown9 hgrow9 hat9 hlt9;have hb9:Below wb.heap.size wb w9:=below_of_grown hgrow9 (Nat.le_refl _) (fun k hk=>by cases hk);have HTB:Hid (TB w w9 (.slice (some ⟨g9,0,none⟩) (0+rs.length) cap9) rs):=hid (by rw [Nat.zero_add] at hown9;exact ⟨by rw [Nat.zero_add];simpa using hown9,HAS.out,HR1.out.below hb9,HR2.out.below hb9,HBB.out.trans (hb9.mono (by omega))⟩);clear hown9 hgrow9 hat9 hb9)
  clear hwb q0 l0 hal hac HNW
  go_wp2_with fail
  go_loopw [6,15] (fun y i wr=>∃ k:Nat,k<=b.length/\i=.int .i64 (k:Int)/\TB w wr y (apU rs (b.take k))) (fun _ i _=>b.length-(intOf i).toNat)
  case atStart=>exact ⟨0,Nat.zero_le _,rfl,by rw [Nat.zero_add] at HTB;exact HTB.out⟩
  case round =>
   obtain ⟨k,hk,rfl,htb⟩:=hrel
   have hN:=HLN.out k
   have hsr:w.heap.size+1<wr.heap.size:=htb.r1.lt
   have hsr2:w.heap.size+1+1<wr.heap.size:=htb.r2.lt
   by_cases hlt:k<b.length
   ·obtain ⟨bb,oo,s0,s1,g0,rfl,hc0,hc1,hc2,HS⟩:=(h2.below htb.bel).at hlt
    have hlbb:bb<w.heap.size:=by
     rcases h2 with h | ⟨b',o',h1,h2,_⟩
     ·subst h;simp at hlt
     ·cases h1;exact h2
    have hlt':(k:Int)<(b.length:Int):=by omega
    have hk0:(0:Int)<=(k:Int):=by omega
    have hst:apU rs (b.take (k+1))=chF (s0,s1,g0) (apU rs (b.take k)):=by rw [takeA_snoc b k (ByteArray.empty,ByteArray.empty,false) hlt,apU_snoc,<-HS.out]
    have HST:=hid hst
    obtain ⟨cur,hcur⟩:∃ cur,cur=apU rs (b.take k):=⟨_,rfl⟩
    rw [<-hcur] at htb HST hN
    have HTB2:=hid htb
    clear hst hcur HS htb
    have meth1:=meth_setA
    have meth2:=meth_remA
    cases g0 with
    | false =>
     go_wp2_with (first | (go_at_call 157;refine (edit_i0 s0 s1 _).mono ?_;rintro e w5 ⟨rfl,hb5⟩;have hb5':=((Below.refl wr.heap.size wr).alloc (Nat.le_refl _) (.cells #[.string s0,.string s1,.bool false] 184)).trans (hb5.mono (by simp));have HAP:=hid (setap_i (w.heap.size+1+1+1) _ cur s0 s1 w5 (owns_below HTB2.out.own hb5') HTB2.out.asc (by omega) (by have:=hb5'.size;omega));have HB5:=hid hb5';clear hb5 hb5') | (go_at_call 210;refine HAP.out.mono ?_;rintro e w6 ⟨v6,rfl,ho6,ha6,hb6⟩))
     refine ⟨⟨k+1,by omega,by go_num,?_⟩,by simp [intOf];omega⟩
     rw [HST.out]
     exact ⟨ho6,ha6,(HTB2.out.r1.below HB5.out).below3 (by omega) hb6,(HTB2.out.r2.below HB5.out).below3 (by omega) hb6,HTB2.out.bel.trans ((HB5.out.mono HTB2.out.bel.size).trans (hb6.mono (by omega)))⟩
    | true =>
     go_wp2_with (first | (go_at_call 157;refine (edit_i1 s0 s1 _).mono ?_;rintro e w5 ⟨rfl,hb5⟩;have hb5':=((Below.refl wr.heap.size wr).alloc (Nat.le_refl _) (.cells #[.string s0,.string s1,.bool true] 184)).trans (hb5.mono (by simp));have HAP:=hid (remap_i (w.heap.size+1+1+1) _ cur s0 s1 w5 (owns_below HTB2.out.own hb5') HTB2.out.asc (by omega) (by have:=hb5'.size;omega));have HB5:=hid hb5';clear hb5 hb5') | (go_at_call 201;refine HAP.out.mono ?_;rintro e w6 ⟨v6,rfl,ho6,ha6,hb6⟩))
     refine ⟨⟨k+1,by omega,by go_num,?_⟩,by simp [intOf];omega⟩
     rw [HST.out]
     exact ⟨ho6,ha6,(HTB2.out.r1.below HB5.out).below3 (by omega) hb6,(HTB2.out.r2.below HB5.out).below3 (by omega) hb6,HTB2.out.bel.trans ((HB5.out.mono HTB2.out.bel.size).trans (hb6.mono (by omega)))⟩
   ·have hkl:k=b.length:=by omega
    subst hkl
    rw [List.take_length] at htb
    obtain ⟨ya,yc,rfl,hyp⟩:=own_prs htb.own
    have q1:=htb.r1.cell 0 _ rfl
    have f1:=htb.r1.froz 0 (by simp)
    have q2:=htb.r2.cell 0 _ rfl
    have f2:=htb.r2.froz 0 (by simp)
    have HTB2:=hid htb
    clear htb hyp
    by_cases h100:(apU rs b).length<=100
    ·go_wp2_with (go_at_call 158;refine (fit_ok _ _ _ h100 _).mono ?_;rintro e w5 ⟨⟨x,rfl⟩,rfl⟩)
     refine leaves_cons (f:=156) (args:=#[.pointer (some ⟨w.heap.size+1,0,none⟩),.pointer (some ⟨w.heap.size+1+1,0,none⟩)]) (by simp) (by simp [go_sem]) ?_
     refine (catch_idle _ _ _).mono ?_
     rintro e u' w'' ⟨rfl,rfl,rfl⟩
     simp [Leaves,settle,results,Tryz.results141,go_sem,q1,q2]
     exact HTB2.out.post
    ·go_wp2_with (go_at_call 158;refine (fit_no _ _ _ (by omega) _).mono ?_;rintro e w5 ⟨rfl,rfl⟩)
     refine leaves_cons (f:=156) (args:=#[.pointer (some ⟨w.heap.size+1,0,none⟩),.pointer (some ⟨w.heap.size+1+1,0,none⟩)]) (by simp) (by simp [go_sem]) ?_
     refine (catch_panic _ _ [] _ _ _ q1 q2 f1 f2 (by simp)).mono ?_
     rintro e u' w'' ⟨rfl,rfl,rfl⟩
     simp [Leaves,settle,results,Tryz.results141,go_sem,q1,q2]
     exact ap_no rfl ((HTB2.out.bel.setCell (p:=⟨w.heap.size+1,0,none⟩) (by show w.heap.size<=w.heap.size+1;omega) _).setCell (p:=⟨w.heap.size+1+1,0,none⟩) (by show w.heap.size<=w.heap.size+1+1;omega) _)
set_option maxHeartbeats 4000000 in
theorem apply_i (a:Option Addr) (rs:List Pr) (c:Nat) (a2:Option Addr) (b:List Ch) (c2:Nat) (w:World) (h:Prs w a rs) (hl:rs.length<=1048576) (hs:∀ x∈rs,x.1.size<=1048576/\x.2.size<=1048576) (h2:Chs w a2 b) (hl2:b.length<=1048576) (hs2:∀ x∈b,x.1.size<=1048576/\x.2.1.size<=1048576) :
  Calls Tryz.prog 112 #[stV a rs.length c,.slice a2 b.length c2] w fun e w'=>ApPost w w' e (apR rs b) (apC rs b):=by
 have HVS:=hid (fun w' h'=>vstate_i a rs c w' h' hl hs)
 have HVB:=hid (fun w' h'=>vbatch_i a2 b c2 w' h' hl2 hs2)
 have HTR:=hid (fun w' h' hok h2' hokb=>try_i a rs c a2 b c2 w' h' hok h2' hokb)
 have hb0:∀ o1 o2,Below w.heap.size w ((w.alloc o1).alloc o2):=fun o1 o2=>((Below.refl _ _).alloc (Nat.le_refl _) _).alloc (by simp) _
 obtain ⟨R,hR⟩:∃ R,R=apR rs b:=⟨_,rfl⟩
 obtain ⟨C,hC⟩:∃ C,C=apC rs b:=⟨_,rfl⟩
 rw [<-hR,<-hC] at HTR ⊢
 unfold ApPost at HTR
 unfold stV at HTR ⊢
 cases hok:stateOk rs with
 | false =>
  have h1:C=1:=by rw [hC];unfold apC;rw [hok];rfl
  have h0:R=[]:=by rw [hR];unfold apR;rw [<-hC,h1];rfl
  subst h0 h1
  rw [hok] at HVS
  clear hR hC
  go_enter Tryz.func112,Tryz.ntmps112
  go_wp2_with (go_at_call 101;refine (HVS.out _ (h.below (hb0 _ _))).mono ?_;rintro e w3 ⟨rfl,hb3⟩;have q1:w3.cell? ⟨w.heap.size+1,0,none⟩=some (.slice none 0 0):=(hb3.cell (p:=⟨w.heap.size+1,0,none⟩) (by simp)).trans (by go_simp);have f1:w3.frozen? ⟨w.heap.size+1,0,none⟩=false:=(hb3.frozen (p:=⟨w.heap.size+1,0,none⟩) (by simp)).trans (by go_simp);have l1:w.heap.size+1<w3.heap.size:=Nat.lt_of_lt_of_le (by simp) hb3.size)
  refine bodyPost_ret (v:=.tuple #[stV none 0 0,.int .i64 1]) (by simp [results,Tryz.results112,go_sem,stV,q1]) rfl (ap_no rfl ?_)
  exact ((hb0 _ _).trans (hb3.mono (by simp;omega))).setCell (p:=⟨w.heap.size+1,0,none⟩) (by show w.heap.size<=w.heap.size+1;omega) _
 | true =>
  rw [hok] at HVS
  cases hokb:batchOk b with
  | false =>
   have h1:C=1:=by rw [hC];unfold apC;rw [hok,hokb];rfl
   have h0:R=[]:=by rw [hR];unfold apR;rw [<-hC,h1];rfl
   subst h0 h1
   rw [hokb] at HVB
   clear hR hC
   go_enter Tryz.func112,Tryz.ntmps112
   go_wp2_with (first | (go_at_call 101;refine (HVS.out _ (h.below (hb0 _ _))).mono ?_;rintro e w3 ⟨rfl,hb3⟩;have HB3:=hid hb3;clear hb3) | (go_at_call 140;refine (HVB.out _ (h2.below ((hb0 _ _).trans (HB3.out.mono (by simp;omega))))).mono ?_;rintro e w4 ⟨rfl,hb4⟩;have hb3:=HB3.out;have hb34:=hb3.trans (hb4.mono hb3.size);have q1:w4.cell? ⟨w.heap.size+1,0,none⟩=some (.slice none 0 0):=(hb34.cell (p:=⟨w.heap.size+1,0,none⟩) (by simp)).trans (by go_simp);have f1:w4.frozen? ⟨w.heap.size+1,0,none⟩=false:=(hb34.frozen (p:=⟨w.heap.size+1,0,none⟩) (by simp)).trans (by go_simp);have l1:w.heap.size+1<w4.heap.size:=Nat.lt_of_lt_of_le (by simp) hb34.size))
   refine bodyPost_ret (v:=.tuple #[stV none 0 0,.int .i64 1]) (by simp [results,Tryz.results112,go_sem,stV,q1]) rfl (ap_no rfl ?_)
   exact ((hb0 _ _).trans (hb34.mono (by simp;omega))).setCell (p:=⟨w.heap.size+1,0,none⟩) (by show w.heap.size<=w.heap.size+1;omega) _
  | true =>
   rw [hokb] at HVB
   clear hR hC
   have HOK:=hid hok
   have HOKB:=hid hokb
   clear hok hokb
   go_enter Tryz.func112,Tryz.ntmps112
   go_wp2_with (first | (go_at_call 101;refine (HVS.out _ (h.below (hb0 _ _))).mono ?_;rintro e w3 ⟨rfl,hb3⟩;have HB3:=hid hb3;clear hb3) | (go_at_call 140;refine (HVB.out _ (h2.below ((hb0 _ _).trans (HB3.out.mono (by simp;omega))))).mono ?_;rintro e w4 ⟨rfl,hb4⟩;have HB4:=hid (HB3.out.trans (hb4.mono HB3.out.size));clear hb4;have q0:w4.cell? ⟨w.heap.size,0,none⟩=some (.slice a rs.length c):=(HB4.out.cell (p:=⟨w.heap.size,0,none⟩) (by simp;omega)).trans (by go_simp)) | (go_at_call 141;have hbw:Below w.heap.size w w4:=(hb0 _ _).trans (HB4.out.mono (by simp;omega));refine (HTR.out _ (h.below hbw) HOK.out (h2.below hbw) HOKB.out).mono ?_;rintro e w5 ⟨a5,c5,rfl,hc5,ho5,hg5,hb5⟩;have hb45:=HB4.out.trans (hb5.mono HB4.out.size);have q1:w5.cell? ⟨w.heap.size+1,0,none⟩=some (.slice none 0 0):=(hb45.cell (p:=⟨w.heap.size+1,0,none⟩) (by simp)).trans (by go_simp);have f1:w5.frozen? ⟨w.heap.size+1,0,none⟩=false:=(hb45.frozen (p:=⟨w.heap.size+1,0,none⟩) (by simp)).trans (by go_simp);have l1:w.heap.size+1<w5.heap.size:=Nat.lt_of_lt_of_le (by simp) hb45.size;have hs4:w.heap.size+1<w4.heap.size:=Nat.lt_of_lt_of_le (by simp) HB4.out.size;have HO5:=hid ho5;have HG5:=hid hg5;have HB5:=hid (hbw.trans (hb5.mono hbw.size));clear ho5 hg5 hb5 hb45 hbw))
   refine bodyPost_ret (v:=.tuple #[stV a5 R.length c5,.int .i64 C]) (by simp [results,Tryz.results112,go_sem,stV,q1]) rfl ⟨a5,c5,rfl,hc5,?_,fun g hg=>by have:=HG5.out g hg;omega,?_⟩
   ·exact HO5.out.setA _ (fun g hg hne=>by have:=HG5.out g (by subst hg;exact blk_pos _ _ _ (prcells_neA hne));show w.heap.size+1≠g;omega) _
   ·exact HB5.out.setCell (p:=⟨w.heap.size+1,0,none⟩) (by show w.heap.size<=w.heap.size+1;omega) _
end Go.Proofs.YtcoegjnjjdndjaaGreatDoor
