import Derived.Test.YtcoegjnjjdndjaaGreatDoorPrG44
import Derived.Test.YtcoegjnjjdndjaaGreatDoorPrG39
import Derived.Test.YtcoegjnjjdndjaaGreatDoorPrG49
import Derived.Test.YtcoegjnjjdndjaaGreatDoorPrG38
import Derived.Test.YtcoegjnjjdndjaaGreatDoorPrG32
namespace Go.Proofs.YtcoegjnjjdndjaaGreatDoor
open Go.RowKit
set_option linter.unusedVariables false
set_option linter.unusedSimpArgs false
set_option maxRecDepth 8000
theorem onePr (k v:ByteArray):∀ u∈[Value.string k,.string v],u.oneCell'=true:=by
 intro u hu
 simp only [List.mem_cons,List.not_mem_nil,or_false] at hu
 rcases hu with rfl | rfl<;>rfl
theorem prcells_snocA (o:List Pr) (c:Pr):prcells (o++[c])=prcells o++[.string c.1,.string c.2]:=by rw [prcells_append];rfl
theorem row_atA {w:World} {A:Array Value} {t:TypeId} {g:Nat} (hg:w.heap.size=g):Row (w.alloc (.cells A t)) g A.toList:=by subst hg;exact row_new w A t
theorem undrewA {w w':World} {o:Obj} {r:Option Nat} (h:(w.drew.alloc o).grownBy w' r):(w.alloc o).grownBy w' r:=⟨h.os,h.tape,h.output,h.size,h.block⟩
theorem owns_span' {w w':World} {base:Nat} {e:TypeId} {s:Nat} {v:Value} {n:Nat} {xs:List Value} (h:w.ownsRow base e s v n xs) (hk:∀ b,base<=b->b<w.heap.size->w'.heap[b]?=w.heap[b]?):w'.ownsRow base e s v n xs:=by
 refine ⟨h.1,?_⟩
 rcases h.2 with hn | ⟨g,cap,cur,rfl,hb,hgg,rest⟩
 ·exact .inl hn
 ·exact .inr ⟨g,cap,cur,rfl,hb,(hk g hb (Array.getElem?_eq_some_iff.1 hgg).1).trans hgg,rest⟩
theorem takeA_snoc {α:Type} (l:List α) (k:Nat) (d:α) (h:k<l.length):l.take (k+1)=l.take k++[l.getD k d]:=by
 rw [List.take_succ_eq_append_getElem h]
 simp [List.getD,h]
structure OutX (w wb wr:World) (v:Value) (o:List Pr):Prop where
 row:Row wr (w.heap.size+1+1+1) [v]
 own:wr.ownsRow (w.heap.size+1+1+1+1) 111 2 v o.length (prcells o)
 bel:Below (w.heap.size+1+1+1) wb wr
theorem OutX.below {w wb wr w':World} {v:Value} {o:List Pr} (h:OutX w wb wr v o) (hb:Below wr.heap.size wr w'):OutX w wb w' v o:=⟨h.row.below hb,owns_below h.own hb,h.bel.trans (hb.mono (by have:=h.row.lt;omega))⟩
theorem OutX.sl {w wb wr:World} {v:Value} {o:List Pr} (h:OutX w wb wr v o):∃ va vc,v=Value.slice va o.length vc:=by
 rcases owns_forms h.own with ⟨e1,e2⟩ | ⟨g,cap,e1,_⟩
 ·exact ⟨none,0,by rw [e1,e2]⟩
 ·exact ⟨_,cap,e1⟩
theorem OutX.push {w wb wr w9:World} {va:Option Addr} {vc g9 cap9:Nat} {out:List Pr} {x:Pr} {o:Obj} (h:OutX w wb wr (.slice va out.length vc) out)
  (hown:w9.ownsRow (w.heap.size+1+1+1+1) 111 2 (.slice (some ⟨g9,0,none⟩) (out.length+1) cap9) (out.length+1) (prcells out++[.string x.1,.string x.2])) (hg:(wr.alloc o).grownBy w9 (Value.slice va out.length vc).ownBlock) :
  Row w9 (w.heap.size+1+1+1) [.slice va out.length vc]/\OutX w wb (w9.setCell ⟨w.heap.size+1+1+1,0,none⟩ (.slice (some ⟨g9,0,none⟩) (out.length+1) cap9)) (.slice (some ⟨g9,0,none⟩) (out.length+1) cap9) (out++[x])/\Below (w.heap.size+1+1+1) wb w9:=by
 have hlt:=h.row.lt
 have hr:Row w9 (w.heap.size+1+1+1) [.slice va out.length vc]:=(h.row.alloc o).grown hg (fun e=>by have:=(h.own.lt _ e.symm).1;omega)
 have hB9:Below (w.heap.size+1+1+1) wb w9:=h.bel.trans (below_of_grown (w:=wr) ⟨hg.os,hg.tape,hg.output,Nat.le_trans (by simp) hg.size,fun k hk hne=>(hg.block k (by simp;omega) hne).trans (((Below.refl wr.heap.size wr).alloc (Nat.le_refl _) o).block k hk)⟩ (by omega) (fun k hk=>by have:=(h.own.lt k hk).1;omega))
 have hg9:=(hown.lt g9 rfl).1
 refine ⟨hr,⟨hr.set 0 (by simp) _,?_,hB9.setCell (p:=⟨w.heap.size+1+1+1,0,none⟩) (Nat.le_refl _) _⟩,hB9⟩
 have hgs:w9.grownBy (w9.setCell ⟨w.heap.size+1+1+1,0,none⟩ (.slice (some ⟨g9,0,none⟩) (out.length+1) cap9)) (some (w.heap.size+1+1+1)):=⟨rfl,rfl,rfl,by simp [World.setCell],fun k _ hk=>Below.heap_setCell _ _ _ k (fun e=>hk (by rw [e]))⟩
 have:=hown.kept hgs (.inr (by simp [Value.ownBlock];omega))
 rw [List.length_append,prcells_snocA]
 exact this
theorem cp_of {w wb wr w':World} {va:Option Addr} {vc:Nat} {out:List Pr} (h:OutX w wb wr (.slice va out.length vc) out) (hb:Below w.heap.size wr w') (hk:∀ k,w.heap.size+1+1+1+1<=k->w'.heap[k]?=wr.heap[k]?) (hwb:Below w.heap.size w wb) (hs:w.heap.size+1+1+1+1<=wb.heap.size):CpPost w w' (.returned (stV va out.length vc)) out:=by
 have hcap:out.length<=vc:=by
  rcases h.own.2 with ⟨e1,e2⟩ | ⟨g,cap,cur,e1,_,_,h3,_⟩
  ·rw [e2];omega
  ·cases e1;exact h3
 have ho:=owns_span' h.own (fun b h1 _=>hk b h1)
 refine ⟨va,vc,rfl,hcap,?_,fun g hg=>?_,hwb.trans ((h.bel.mono (by omega)).trans hb)⟩
 ·rcases owns_forms ho with ⟨_,e2⟩ | ⟨g,cap,e1,_,_,e4⟩
  ·exact .inl (by rw [List.eq_nil_of_length_eq_zero e2];rfl)
  ·cases e1;exact .inr ⟨g,rfl,e4⟩
 ·unfold blk at hg
  split at hg
  ·cases hg
  ·cases va with
   | none=>cases hg
   | some ad =>
    simp at hg
    subst hg
    have:=(h.own.lt ad.block rfl).1
    omega
set_option maxHeartbeats 8000000 in
theorem change_s (a:Option Addr) (rs:List Pr) (c:Nat) (key val:ByteArray) (gone:Bool) (w:World) (h:Prs w a rs) (hl:rs.length<=100000) :
  Calls Tryz.prog 128 #[stV a rs.length c,.agg #[.string key,.string val,.bool gone]] w fun e w'=>CpPost w w' e (chF (key,val,gone) rs):=by
 obtain ⟨i0,hi0,hz0,hz1,hz2⟩:=info_partsP info_prC
 have HI:=hid (And.intro hi0 (And.intro hz0 (And.intro hz1 hz2)))
 clear hi0 hz0 hz1 hz2
 unfold stV
 obtain ⟨wb,HWB⟩:∃ wb,wb=(((w.alloc (.cells #[.slice a rs.length c] 39)).alloc (.cells #[.string key,.string val,.bool gone] 184)).alloc (.cells #[.slice none 0 0] 39)).alloc (.cells #[.slice none 0 0] 39):=⟨_,rfl⟩
 have hwbs:wb.heap.size=w.heap.size+1+1+1+1:=by rw [HWB];simp
 have HBB:Hid (Below w.heap.size w wb):=by show Below _ _ _;rw [HWB];exact ((((Below.refl _ _).alloc (Nat.le_refl _) _).alloc (by simp) _).alloc (by simp<;>omega) _).alloc (by simp<;>omega) _
 have HRW:Hid (∀ w',Below (w.heap.size+1+1+1) wb w'->Row w' (w.heap.size) [.slice a rs.length c]/\Row w' (w.heap.size+1) [.string key,.string val,.bool gone]/\Row w' (w.heap.size+1+1) [.slice none 0 0]):=fun w' hb=>by
  have r0:Row wb (w.heap.size) [.slice a rs.length c]:=by rw [HWB];exact (((row_new w _ _).alloc _).alloc _).alloc _
  have r1:Row wb (w.heap.size+1) [.string key,.string val,.bool gone]:=by rw [HWB];exact ((row_atA (w:=w.alloc _) (by simp)).alloc _).alloc _
  have r2:Row wb (w.heap.size+1+1) [.slice none 0 0]:=by rw [HWB];exact (row_atA (w:=(w.alloc _).alloc _) (by simp)).alloc _
  have key:∀ {g:Nat} {cs:List Value},g<w.heap.size+1+1+1->Row wb g cs->Row w' g cs:=fun hg r=>⟨Nat.lt_of_lt_of_le r.lt hb.size,fun i v hv=>(hb.cell (p:=⟨_,i,none⟩) hg).trans (r.cell i v hv),fun i hi=>(hb.frozen (p:=⟨_,i,none⟩) hg).trans (r.froz i hi)⟩
  exact ⟨key (by omega) r0,key (by omega) r1,key (by omega) r2⟩
 have hrow3:Row wb (w.heap.size+1+1+1) [.slice none 0 0]:=by rw [HWB];exact row_atA (w:=((w.alloc _).alloc _).alloc _) (by simp)
 have HOW:Hid (Row wb (w.heap.size+1+1+1) [.slice none 0 0]):=hrow3
 clear hrow3
 go_enter Tryz.func128,Tryz.ntmps128
 go_wp2_with fail
 rw [<-HWB]
 clear HWB
 go_loopw [6,7] (fun d i wr=>∃ k:Nat,k<=rs.length/\i=.int .i64 (k:Int)/\d=.bool (chW (key,val,gone) (rs.take k)).1/\∃ y,OutX w wb wr y (chW (key,val,gone) (rs.take k)).2) (fun _ i _=>rs.length-(intOf i).toNat)
 case atStart=>exact ⟨0,Nat.zero_le _,rfl,by simp [chW],.slice none 0 0,⟨HOW.out,World.ownsRow_nil _ _ _ _,Below.refl _ _⟩⟩
 case round =>
  obtain ⟨k,hk,rfl,rfl,y,hx⟩:=hrel
  obtain ⟨out,hout⟩:∃ out,out=(chW (key,val,gone) (rs.take k)).2:=⟨_,rfl⟩
  obtain ⟨d,hd⟩:∃ d,d=(chW (key,val,gone) (rs.take k)).1:=⟨_,rfl⟩
  have hst:chW (key,val,gone) (rs.take k)=(d,out):=by rw [hd,hout]
  rw [<-hout] at hx
  rw [<-hd]
  have holen:out.length<=100001:=by
   have:=(chW_len (key,val,gone) (rs.take k) _ rfl).1
   rw [<-hout,List.length_take] at this
   split at this<;>omega
  clear hout hd
  obtain ⟨va,vc,rfl⟩:=hx.sl
  obtain ⟨hR0,hR1,hR2⟩:=HRW.out _ hx.bel
  have q0:=hR0.cell 0 _ rfl
  have q10:=hR1.cell 0 _ rfl
  have q11:=hR1.cell 1 _ rfl
  have q3:=hx.row.cell 0 _ rfl
  have r3:=hx.row.froz 0 (by simp)
  have l3:=hx.row.lt
  have hbw:Below w.heap.size w wr:=HBB.out.trans (hx.bel.mono (by omega))
  have HX:=hid hx
  clear hx
  by_cases hlt:k<rs.length
  ·obtain ⟨b,o,s0,s1,rfl,hc0,hc1,HS⟩:=(h.below hbw).at hlt
   have hlb:b<w.heap.size:=by
    rcases h with h | ⟨b',o',h1,h2,_⟩
    ·subst h;simp at hlt
    ·cases h1;exact h2
   have hlt':(k:Int)<(rs.length:Int):=by omega
   have hk0:(0:Int)<=(k:Int):=by omega
   have hstep:chW (key,val,gone) (rs.take (k+1))=stepC key val (d,out) (s0,s1):=by rw [takeA_snoc rs k (ByteArray.empty,ByteArray.empty) hlt,chW_snoc,<-HS.out,hst]
   have HSTEP:=hid hstep
   clear hstep hst HS hR0 hR1 hR2
   have HCS:Hid (∀ w',Below (w.heap.size+1+1+1) wr w'->w'.cell? ⟨w.heap.size,0,none⟩=some (.slice (some ⟨b,o,none⟩) rs.length c)/\w'.cell? ⟨b,o+k*2,none⟩=some (.string s0)/\w'.cell? ⟨b,o+k*2+1,none⟩=some (.string s1)/\w'.cell? ⟨w.heap.size+1,0,none⟩=some (.string key)/\w'.cell? ⟨w.heap.size+1,1,none⟩=some (.string val)):=fun w' hb=>⟨(hb.cell (p:=⟨w.heap.size,0,none⟩) (by show w.heap.size<_;omega)).trans q0,(hb.cell (p:=⟨b,o+k*2,none⟩) (by show b<_;omega)).trans hc0,(hb.cell (p:=⟨b,o+k*2+1,none⟩) (by show b<_;omega)).trans hc1,(hb.cell (p:=⟨w.heap.size+1,0,none⟩) (by show w.heap.size+1<_;omega)).trans q10,(hb.cell (p:=⟨w.heap.size+1,1,none⟩) (by show w.heap.size+1<_;omega)).trans q11⟩
   have HPB:Hid (∀ w',Below w.heap.size w w'->w'.cell? ⟨b,o+k*2,none⟩=some (.string s0)/\w'.cell? ⟨b,o+k*2+1,none⟩=some (.string s1)):=fun w' hb=>⟨(hb.cell (p:=⟨b,o+k*2,none⟩) hlb).trans ((hbw.cell (p:=⟨b,o+k*2,none⟩) hlb).symm.trans hc0),(hb.cell (p:=⟨b,o+k*2+1,none⟩) hlb).trans ((hbw.cell (p:=⟨b,o+k*2+1,none⟩) hlb).symm.trans hc1)⟩
   cases d with
   | true =>
    go_wp2_with fail
    refine wp_region_held_drew (S:=fun w'=>w'.cell? ⟨w.heap.size,0,none⟩=some (.slice (some ⟨b,o,none⟩) rs.length c)/\w'.cell? ⟨b,o+k*2,none⟩=some (.string s0)/\w'.cell? ⟨b,o+k*2+1,none⟩=some (.string s1)/\w'.cell? ⟨w.heap.size+1,0,none⟩=some (.string key)/\w'.cell? ⟨w.heap.size+1,1,none⟩=some (.string val)) (by kernel_rfl) (HCS.out _ (Below.refl _ _).drew) (fun hHeld=>?_)
    refine TY (i:=0) (v:=.bool true) rfl hHeld ?_
    simp only [PS]
    refine TY (i:=1) (v:=.bool false) rfl hHeld ?_
    simp only [PS]
    refine TY (i:=2) (v:=.bool false) rfl hHeld ?_
    simp only [PS]
    refine TK (i:=3) (v:=undef) rfl (Or.inr ⟨by kernel_rfl,rfl⟩) hHeld ?_
    simp only [PS]
    refine TK (i:=4) (v:=undef) rfl (Or.inr ⟨by kernel_rfl,rfl⟩) hHeld ?_
    simp only [PS]
    refine TK (i:=5) (v:=undef) rfl (Or.inr ⟨by kernel_rfl,rfl⟩) hHeld ?_
    simp only [PS]
    refine TK (i:=6) (v:=undef) rfl (Or.inr ⟨by kernel_rfl,rfl⟩) hHeld ?_
    simp only [PS]
    refine TK (i:=7) (v:=undef) rfl (Or.inr ⟨by kernel_rfl,rfl⟩) hHeld ?_
    simp only [PS]
    refine TK (i:=8) (v:=undef) rfl (Or.inr ⟨by kernel_rfl,rfl⟩) hHeld ?_
    simp only [PS]
    refine TK (i:=9) (v:=undef) rfl (Or.inr ⟨by kernel_rfl,rfl⟩) hHeld ?_
    simp only [PS]
    refine TK (i:=10) (v:=undef) rfl (Or.inr ⟨by kernel_rfl,rfl⟩) hHeld ?_
    simp only [PS]
    refine TK (i:=11) (v:=undef) rfl (Or.inr ⟨by kernel_rfl,rfl⟩) hHeld ?_
    simp only [PS]
    refine TY (i:=12) (v:=.bool false) rfl hHeld ?_
    simp only [PS]
    refine wpAnyH_done (by kernel_rfl) ?_ _
    obtain ⟨wd0,hwd0⟩:∃ wd0,wd0=wr.drew:=⟨_,rfl⟩
    have hbd0:Below wr.heap.size wr wd0:=by rw [hwd0];exact (Below.refl _ _).drew
    rw [<-hwd0]
    have HX0:=HX
    have HCS0:=HCS
    have hbw0:Below w.heap.size w wd0:=hbw.trans (hbd0.mono hbw.size)
    have HXz:=hid (HX0.out.below hbd0)
    have HCSz:Hid (∀ w',Below (w.heap.size+1+1+1) wd0 w'->w'.cell? ⟨w.heap.size,0,none⟩=some (.slice (some ⟨b,o,none⟩) rs.length c)/\w'.cell? ⟨b,o+k*2,none⟩=some (.string s0)/\w'.cell? ⟨b,o+k*2+1,none⟩=some (.string s1)/\w'.cell? ⟨w.heap.size+1,0,none⟩=some (.string key)/\w'.cell? ⟨w.heap.size+1,1,none⟩=some (.string val)):=fun w' hb=>HCS0.out w' ((hbd0.mono (Nat.le_of_lt l3)).trans hb)
    clear hwd0 HX HCS hbw q0 q10 q11 q3 r3 l3 hc0 hc1 HX0 HCS0 hbd0 hHeld
    generalize wd0=wr at *
    have HX:=HXz
    have HCS:=HCSz
    clear HXz HCSz
    have q3:=HX.out.row.cell 0 _ rfl
    have r3:=HX.out.row.froz 0 (by simp)
    have l3:=HX.out.row.lt
    have q10:=(HCS.out _ (Below.refl _ _)).2.2.2.1
    have q11:=(HCS.out _ (Below.refl _ _)).2.2.2.2
    go_wp2_with fail
    by_cases he:s0=key
    ·have HE:=hid he
     clear he
     have he2:(s0.toList == key.toList)=true:=by rw [HE.out];simp
     refine wp_region_held_drew (S:=fun w'=>w'.cell? ⟨w.heap.size,0,none⟩=some (.slice (some ⟨b,o,none⟩) rs.length c)/\w'.cell? ⟨b,o+k*2,none⟩=some (.string s0)/\w'.cell? ⟨b,o+k*2+1,none⟩=some (.string s1)/\w'.cell? ⟨w.heap.size+1,0,none⟩=some (.string key)/\w'.cell? ⟨w.heap.size+1,1,none⟩=some (.string val)) (by kernel_rfl) (HCS.out _ (Below.refl _ _).drew) (fun hHeld=>?_)
     refine TY (i:=0) (v:=.pointer (some ⟨w.heap.size,0,none⟩)) rfl hHeld ?_
     simp only [PS]
     refine TY (i:=1) (v:=.slice (some ⟨b,o,none⟩) rs.length c) rfl hHeld ?_
     simp only [PS]
     refine TY (i:=2) (v:=.int .i64 (k:Int)) rfl hHeld ?_
     simp only [PS]
     refine TY (i:=3) (v:=.pointer (some ⟨b,o+k*2,none⟩)) rfl hHeld ?_
     simp only [PS]
     refine TY (i:=4) (v:=.pointer (some ⟨b,o+k*2,none⟩)) rfl hHeld ?_
     simp only [PS]
     refine TY (i:=5) (v:=.string s0) rfl hHeld ?_
     simp only [PS]
     refine TY (i:=6) (v:=.pointer (some ⟨w.heap.size+1,0,none⟩)) rfl hHeld ?_
     simp only [PS]
     refine TY (i:=7) (v:=.string key) rfl hHeld ?_
     simp only [PS]
     refine TY (i:=8) (v:=.bool false) rfl hHeld ?_
     simp only [PS]
     refine wpAnyH_done (by kernel_rfl) ?_ _
     go_wp2
     have he:=HE.out
     refine ⟨⟨k+1,by omega,by go_num,by rw [HSTEP.out];simp [stepC,he],.slice va out.length vc,?_⟩,by simp [intOf];omega⟩
     have hfe:(chW (key,val,gone) (rs.take (k+1))).2=out:=by rw [HSTEP.out];simp [stepC,he]
     rw [hfe]
     exact HX.out.below (Below.refl _ _).drew
    ·have HE:=hid he
     clear he
     have he2:(s0.toList == key.toList)=false:=by rw [beq_eq_false_iff_ne];intro hh;rw [ByteArray.toList_eq,ByteArray.toList_eq] at hh;exact HE.out (ByteArray.ext (Array.ext' hh))
     refine wp_region_held_drew (S:=fun w'=>w'.cell? ⟨w.heap.size,0,none⟩=some (.slice (some ⟨b,o,none⟩) rs.length c)/\w'.cell? ⟨b,o+k*2,none⟩=some (.string s0)/\w'.cell? ⟨b,o+k*2+1,none⟩=some (.string s1)/\w'.cell? ⟨w.heap.size+1,0,none⟩=some (.string key)/\w'.cell? ⟨w.heap.size+1,1,none⟩=some (.string val)) (by kernel_rfl) (HCS.out _ (Below.refl _ _).drew) (fun hHeld=>?_)
     refine TY (i:=0) (v:=.pointer (some ⟨w.heap.size,0,none⟩)) rfl hHeld ?_
     simp only [PS]
     refine TY (i:=1) (v:=.slice (some ⟨b,o,none⟩) rs.length c) rfl hHeld ?_
     simp only [PS]
     refine TY (i:=2) (v:=.int .i64 (k:Int)) rfl hHeld ?_
     simp only [PS]
     refine TY (i:=3) (v:=.pointer (some ⟨b,o+k*2,none⟩)) rfl hHeld ?_
     simp only [PS]
     refine TY (i:=4) (v:=.pointer (some ⟨b,o+k*2,none⟩)) rfl hHeld ?_
     simp only [PS]
     refine TY (i:=5) (v:=.string s0) rfl hHeld ?_
     simp only [PS]
     refine TY (i:=6) (v:=.pointer (some ⟨w.heap.size+1,0,none⟩)) rfl hHeld ?_
     simp only [PS]
     refine TY (i:=7) (v:=.string key) rfl hHeld ?_
     simp only [PS]
     refine TY (i:=8) (v:=.bool true) rfl hHeld ?_
     simp only [PS]
     refine wpAnyH_done (by kernel_rfl) ?_ _
     obtain ⟨wd,hwd⟩:∃ wd,wd=wr.drew:=⟨_,rfl⟩
     have hbd:Below wr.heap.size wr wd:=by rw [hwd];exact (Below.refl _ _).drew
     rw [<-hwd]
     clear hwd
     have HXd:=hid (HX.out.below hbd)
     have qd:=HXd.out.row.cell 0 _ rfl
     have rd:=HXd.out.row.froz 0 (by simp)
     have ld:=HXd.out.row.lt
     have HCSd:Hid (∀ w',Below (w.heap.size+1+1+1) wd w'->w'.cell? ⟨w.heap.size,0,none⟩=some (.slice (some ⟨b,o,none⟩) rs.length c)/\w'.cell? ⟨b,o+k*2,none⟩=some (.string s0)/\w'.cell? ⟨b,o+k*2+1,none⟩=some (.string s1)/\w'.cell? ⟨w.heap.size+1,0,none⟩=some (.string key)/\w'.cell? ⟨w.heap.size+1,1,none⟩=some (.string val)):=fun w' hb=>HCS.out w' ((hbd.mono (Nat.le_of_lt l3)).trans hb)
     clear hHeld
     go_wp2_with fail
     refine wp_region_held_drew (S:=fun w'=>w'.cell? ⟨w.heap.size,0,none⟩=some (.slice (some ⟨b,o,none⟩) rs.length c)/\w'.cell? ⟨b,o+k*2,none⟩=some (.string s0)/\w'.cell? ⟨b,o+k*2+1,none⟩=some (.string s1)/\w'.cell? ⟨w.heap.size+1,0,none⟩=some (.string key)/\w'.cell? ⟨w.heap.size+1,1,none⟩=some (.string val)) (by kernel_rfl) (HCSd.out _ (Below.refl _ _).drew) (fun hHeld=>?_)
     refine TY (i:=0) (v:=.pointer (some ⟨w.heap.size+1+1+1,0,none⟩)) rfl hHeld ?_
     simp only [PS]
     refine TY (i:=2) (v:=.pointer (some ⟨w.heap.size,0,none⟩)) rfl hHeld ?_
     simp only [PS]
     refine TY (i:=3) (v:=.slice (some ⟨b,o,none⟩) rs.length c) rfl hHeld ?_
     simp only [PS]
     refine TY (i:=4) (v:=.int .i64 (k:Int)) rfl hHeld ?_
     simp only [PS]
     refine TY (i:=5) (v:=.pointer (some ⟨b,o+k*2,none⟩)) rfl hHeld ?_
     simp only [PS]
     refine TY (i:=6) (v:=.agg #[.string s0,.string s1]) rfl hHeld ?_
     simp only [PS]
     refine wpAnyH_ready (rs:=[1,7]) (by kernel_rfl) (by simp) ?_
     refine AllReadyH.cons rfl (fun K hK=>?_) (AllReadyH.cons rfl (fun K hK=>?_) AllReadyH.nil)
     ·go_simp
      refine hK.out _ _ hHeld (fun _=>?_)
      clear hK K
      try simp only [PS]
      refine RD (i:=7) rfl (fun K hK=>?_)
      go_simp
      refine hK.out _ _ (HCSd.out _ ((Below.refl _ _).drew.alloc (Nat.le_of_lt ld) _)) (fun hHd2=>?_)
      clear hK K
      try simp only [PS]
      refine RD (i:=8) rfl (fun K hK=>?_)
      refine step_append_lies _ (by rfl) _ _ _ (by rfl) (w.heap.size+1+1+1+1) 111 i0 (.agg #[.string ByteArray.empty,.string ByteArray.empty]) 2 32 Tryz.underlying37 HI.out.1 HI.out.2.1 HI.out.2.2.1 HI.out.2.2.2 rfl (by omega) (.slice va out.length vc) out.length _ (by rfl) (owns_below HXd.out.own ((Below.refl _ _).drew.alloc (Nat.le_refl _) _)) ⟨wd.heap.size,0,none⟩ 1 1 [.string s0,.string s1] (by rfl) rfl (World.news_of_block (heap_alloc_new wd.drew _)) (onePr _ _) (by omega) (by unfold maxLen;(try simp)<;>omega) (by (try simp)<;>omega) (by (try simp)<;>omega) (wd.heap.size+1) (by simp) ?_
      intro g9 cap9 w9 hown9 hgrow9 hat9 hlt9
      have hpu:=OutX.push (x:=(s0,s1)) HXd.out hown9 (undrewA hgrow9)
      have q9:=hpu.1.cell 0 _ rfl
      have r9:=hpu.1.froz 0 (by simp)
      have l9:=hpu.1.lt
      have HP9:=hid hpu
      have hb9:Below (w.heap.size+1+1+1) wd w9:=below_of_grown ⟨hgrow9.os,hgrow9.tape,hgrow9.output,Nat.le_trans (by simp) hgrow9.size,fun k hk hne=>(hgrow9.block k (by simp;omega) hne).trans (((Below.refl wd.heap.size wd).drew.alloc (Nat.le_refl _) _).block k hk)⟩ (Nat.le_of_lt ld) (fun k hk=>by have:=(HXd.out.own.lt k hk).1;omega)
      clear hown9 hgrow9 hat9 hpu
      refine hK.out _ _ (HCSd.out _ hb9) (fun hHd3=>?_)
      clear hK K
      try simp only [PS]
      refine TY (i:=9) (v:=.pointer (some ⟨w.heap.size+1+1+1,0,none⟩)) rfl hHd3 ?_
      simp only [PS]
      refine RD (i:=10) rfl (fun K hK=>?_)
      go_simp
      refine hK.out _ _ (HCSd.out _ (hb9.setCell (p:=⟨w.heap.size+1+1+1,0,none⟩) (Nat.le_refl _) _)) (fun hHd4=>?_)
      clear hK K
      try simp only [PS]
      refine wpAnyH_done (by kernel_rfl) ?_ _
      go_wp2
      have he:=HE.out
      refine ⟨⟨k+1,by omega,by go_num,by rw [HSTEP.out];simp [stepC,he],.slice (some ⟨g9,0,none⟩) (out.length+1) cap9,?_⟩,by simp [intOf];omega⟩
      have hfe:(chW (key,val,gone) (rs.take (k+1))).2=out++[(s0,s1)]:=by rw [HSTEP.out];simp [stepC,he]
      rw [hfe]
      simpa only [List.length_append,List.length_singleton] using HP9.out.2.1
     ·go_simp
      refine hK.out _ _ (HCSd.out _ ((Below.refl _ _).drew.alloc (Nat.le_of_lt ld) _)) (fun hHd5=>?_)
      clear hK K
      try simp only [PS]
      refine RD (i:=1) rfl (fun K hK=>?_)
      go_simp
      refine hK.out _ _ hHd5 (fun _=>?_)
      clear hK K
      try simp only [PS]
      refine RD (i:=8) rfl (fun K hK=>?_)
      refine step_append_lies _ (by rfl) _ _ _ (by rfl) (w.heap.size+1+1+1+1) 111 i0 (.agg #[.string ByteArray.empty,.string ByteArray.empty]) 2 32 Tryz.underlying37 HI.out.1 HI.out.2.1 HI.out.2.2.1 HI.out.2.2.2 rfl (by omega) (.slice va out.length vc) out.length _ (by rfl) (owns_below HXd.out.own ((Below.refl _ _).drew.alloc (Nat.le_refl _) _)) ⟨wd.heap.size,0,none⟩ 1 1 [.string s0,.string s1] (by rfl) rfl (World.news_of_block (heap_alloc_new wd.drew _)) (onePr _ _) (by omega) (by unfold maxLen;(try simp)<;>omega) (by (try simp)<;>omega) (by (try simp)<;>omega) (wd.heap.size+1) (by simp) ?_
      intro g9 cap9 w9 hown9 hgrow9 hat9 hlt9
      have hpu:=OutX.push (x:=(s0,s1)) HXd.out hown9 (undrewA hgrow9)
      have q9:=hpu.1.cell 0 _ rfl
      have r9:=hpu.1.froz 0 (by simp)
      have l9:=hpu.1.lt
      have HP9:=hid hpu
      have hb9:Below (w.heap.size+1+1+1) wd w9:=below_of_grown ⟨hgrow9.os,hgrow9.tape,hgrow9.output,Nat.le_trans (by simp) hgrow9.size,fun k hk hne=>(hgrow9.block k (by simp;omega) hne).trans (((Below.refl wd.heap.size wd).drew.alloc (Nat.le_refl _) _).block k hk)⟩ (Nat.le_of_lt ld) (fun k hk=>by have:=(HXd.out.own.lt k hk).1;omega)
      clear hown9 hgrow9 hat9 hpu
      refine hK.out _ _ (HCSd.out _ hb9) (fun hHd7=>?_)
      clear hK K
      try simp only [PS]
      refine TY (i:=9) (v:=.pointer (some ⟨w.heap.size+1+1+1,0,none⟩)) rfl hHd7 ?_
      simp only [PS]
      refine RD (i:=10) rfl (fun K hK=>?_)
      go_simp
      refine hK.out _ _ (HCSd.out _ (hb9.setCell (p:=⟨w.heap.size+1+1+1,0,none⟩) (Nat.le_refl _) _)) (fun hHd8=>?_)
      clear hK K
      try simp only [PS]
      refine wpAnyH_done (by kernel_rfl) ?_ _
      go_wp2
      have he:=HE.out
      refine ⟨⟨k+1,by omega,by go_num,by rw [HSTEP.out];simp [stepC,he],.slice (some ⟨g9,0,none⟩) (out.length+1) cap9,?_⟩,by simp [intOf];omega⟩
      have hfe:(chW (key,val,gone) (rs.take (k+1))).2=out++[(s0,s1)]:=by rw [HSTEP.out];simp [stepC,he]
      rw [hfe]
      simpa only [List.length_append,List.length_singleton] using HP9.out.2.1
   | false =>
    rcases Int.lt_trichotomy (cmpB s0 key) 0 with hcm | hcm | hcm
    ·have HDK:Hid (klt key s0=false):=klt_no hcm
     have HE:Hid (¬ s0=key):=fun e=>by rw [e,cmpB_self] at hcm;omega
     have hb1:Op.bytesLess s0.toList key.toList=true:=(cmpB_lt _ _).1 hcm
     go_wp2_with fail
     refine wp_region_held_drew (S:=fun w'=>w'.cell? ⟨w.heap.size,0,none⟩=some (.slice (some ⟨b,o,none⟩) rs.length c)/\w'.cell? ⟨b,o+k*2,none⟩=some (.string s0)/\w'.cell? ⟨b,o+k*2+1,none⟩=some (.string s1)/\w'.cell? ⟨w.heap.size+1,0,none⟩=some (.string key)/\w'.cell? ⟨w.heap.size+1,1,none⟩=some (.string val)) (by kernel_rfl) (HCS.out _ (Below.refl _ _).drew) (fun hHeld=>?_)
     refine TY (i:=0) (v:=.bool false) rfl hHeld ?_
     simp only [PS]
     refine TY (i:=1) (v:=.bool true) rfl hHeld ?_
     simp only [PS]
     refine TY (i:=2) (v:=.bool true) rfl hHeld ?_
     simp only [PS]
     refine TY (i:=3) (v:=.pointer (some ⟨w.heap.size,0,none⟩)) rfl hHeld ?_
     simp only [PS]
     refine TY (i:=4) (v:=.slice (some ⟨b,o,none⟩) rs.length c) rfl hHeld ?_
     simp only [PS]
     refine TY (i:=5) (v:=.int .i64 (k:Int)) rfl hHeld ?_
     simp only [PS]
     refine TY (i:=6) (v:=.pointer (some ⟨b,o+k*2,none⟩)) rfl hHeld ?_
     simp only [PS]
     refine TY (i:=7) (v:=.pointer (some ⟨b,o+k*2,none⟩)) rfl hHeld ?_
     simp only [PS]
     refine TY (i:=8) (v:=.string s0) rfl hHeld ?_
     simp only [PS]
     refine TY (i:=9) (v:=.pointer (some ⟨w.heap.size+1,0,none⟩)) rfl hHeld ?_
     simp only [PS]
     refine TY (i:=10) (v:=.string key) rfl hHeld ?_
     simp only [PS]
     refine TY (i:=11) (v:=.bool false) rfl hHeld ?_
     simp only [PS]
     refine TY (i:=12) (v:=.bool false) rfl hHeld ?_
     simp only [PS]
     refine wpAnyH_done (by kernel_rfl) ?_ _
     obtain ⟨wd0,hwd0⟩:∃ wd0,wd0=wr.drew:=⟨_,rfl⟩
     have hbd0:Below wr.heap.size wr wd0:=by rw [hwd0];exact (Below.refl _ _).drew
     rw [<-hwd0]
     have HX0:=HX
     have HCS0:=HCS
     have hbw0:Below w.heap.size w wd0:=hbw.trans (hbd0.mono hbw.size)
     have HXz:=hid (HX0.out.below hbd0)
     have HCSz:Hid (∀ w',Below (w.heap.size+1+1+1) wd0 w'->w'.cell? ⟨w.heap.size,0,none⟩=some (.slice (some ⟨b,o,none⟩) rs.length c)/\w'.cell? ⟨b,o+k*2,none⟩=some (.string s0)/\w'.cell? ⟨b,o+k*2+1,none⟩=some (.string s1)/\w'.cell? ⟨w.heap.size+1,0,none⟩=some (.string key)/\w'.cell? ⟨w.heap.size+1,1,none⟩=some (.string val)):=fun w' hb=>HCS0.out w' ((hbd0.mono (Nat.le_of_lt l3)).trans hb)
     clear hwd0 HX HCS hbw q0 q10 q11 q3 r3 l3 hc0 hc1 HX0 HCS0 hbd0 hHeld
     generalize wd0=wr at *
     have HX:=HXz
     have HCS:=HCSz
     clear HXz HCSz
     have q3:=HX.out.row.cell 0 _ rfl
     have r3:=HX.out.row.froz 0 (by simp)
     have l3:=HX.out.row.lt
     have q10:=(HCS.out _ (Below.refl _ _)).2.2.2.1
     have q11:=(HCS.out _ (Below.refl _ _)).2.2.2.2
     go_wp2_with fail
     have he2:(s0.toList == key.toList)=false:=by rw [beq_eq_false_iff_ne];intro hh;rw [ByteArray.toList_eq,ByteArray.toList_eq] at hh;exact HE.out (ByteArray.ext (Array.ext' hh))
     refine wp_region_held_drew (S:=fun w'=>w'.cell? ⟨w.heap.size,0,none⟩=some (.slice (some ⟨b,o,none⟩) rs.length c)/\w'.cell? ⟨b,o+k*2,none⟩=some (.string s0)/\w'.cell? ⟨b,o+k*2+1,none⟩=some (.string s1)/\w'.cell? ⟨w.heap.size+1,0,none⟩=some (.string key)/\w'.cell? ⟨w.heap.size+1,1,none⟩=some (.string val)) (by kernel_rfl) (HCS.out _ (Below.refl _ _).drew) (fun hHeld=>?_)
     refine TY (i:=0) (v:=.pointer (some ⟨w.heap.size,0,none⟩)) rfl hHeld ?_
     simp only [PS]
     refine TY (i:=1) (v:=.slice (some ⟨b,o,none⟩) rs.length c) rfl hHeld ?_
     simp only [PS]
     refine TY (i:=2) (v:=.int .i64 (k:Int)) rfl hHeld ?_
     simp only [PS]
     refine TY (i:=3) (v:=.pointer (some ⟨b,o+k*2,none⟩)) rfl hHeld ?_
     simp only [PS]
     refine TY (i:=4) (v:=.pointer (some ⟨b,o+k*2,none⟩)) rfl hHeld ?_
     simp only [PS]
     refine TY (i:=5) (v:=.string s0) rfl hHeld ?_
     simp only [PS]
     refine TY (i:=6) (v:=.pointer (some ⟨w.heap.size+1,0,none⟩)) rfl hHeld ?_
     simp only [PS]
     refine TY (i:=7) (v:=.string key) rfl hHeld ?_
     simp only [PS]
     refine TY (i:=8) (v:=.bool true) rfl hHeld ?_
     simp only [PS]
     refine wpAnyH_done (by kernel_rfl) ?_ _
     obtain ⟨wd,hwd⟩:∃ wd,wd=wr.drew:=⟨_,rfl⟩
     have hbd:Below wr.heap.size wr wd:=by rw [hwd];exact (Below.refl _ _).drew
     rw [<-hwd]
     clear hwd
     have HXd:=hid (HX.out.below hbd)
     have qd:=HXd.out.row.cell 0 _ rfl
     have rd:=HXd.out.row.froz 0 (by simp)
     have ld:=HXd.out.row.lt
     have HCSd:Hid (∀ w',Below (w.heap.size+1+1+1) wd w'->w'.cell? ⟨w.heap.size,0,none⟩=some (.slice (some ⟨b,o,none⟩) rs.length c)/\w'.cell? ⟨b,o+k*2,none⟩=some (.string s0)/\w'.cell? ⟨b,o+k*2+1,none⟩=some (.string s1)/\w'.cell? ⟨w.heap.size+1,0,none⟩=some (.string key)/\w'.cell? ⟨w.heap.size+1,1,none⟩=some (.string val)):=fun w' hb=>HCS.out w' ((hbd.mono (Nat.le_of_lt l3)).trans hb)
     clear hHeld
     go_wp2_with fail
     refine wp_region_held_drew (S:=fun w'=>w'.cell? ⟨w.heap.size,0,none⟩=some (.slice (some ⟨b,o,none⟩) rs.length c)/\w'.cell? ⟨b,o+k*2,none⟩=some (.string s0)/\w'.cell? ⟨b,o+k*2+1,none⟩=some (.string s1)/\w'.cell? ⟨w.heap.size+1,0,none⟩=some (.string key)/\w'.cell? ⟨w.heap.size+1,1,none⟩=some (.string val)) (by kernel_rfl) (HCSd.out _ (Below.refl _ _).drew) (fun hHeld=>?_)
     refine TY (i:=0) (v:=.pointer (some ⟨w.heap.size+1+1+1,0,none⟩)) rfl hHeld ?_
     simp only [PS]
     refine TY (i:=2) (v:=.pointer (some ⟨w.heap.size,0,none⟩)) rfl hHeld ?_
     simp only [PS]
     refine TY (i:=3) (v:=.slice (some ⟨b,o,none⟩) rs.length c) rfl hHeld ?_
     simp only [PS]
     refine TY (i:=4) (v:=.int .i64 (k:Int)) rfl hHeld ?_
     simp only [PS]
     refine TY (i:=5) (v:=.pointer (some ⟨b,o+k*2,none⟩)) rfl hHeld ?_
     simp only [PS]
     refine TY (i:=6) (v:=.agg #[.string s0,.string s1]) rfl hHeld ?_
     simp only [PS]
     refine wpAnyH_ready (rs:=[1,7]) (by kernel_rfl) (by simp) ?_
     refine AllReadyH.cons rfl (fun K hK=>?_) (AllReadyH.cons rfl (fun K hK=>?_) AllReadyH.nil)
     ·go_simp
      refine hK.out _ _ hHeld (fun _=>?_)
      clear hK K
      try simp only [PS]
      refine RD (i:=7) rfl (fun K hK=>?_)
      go_simp
      refine hK.out _ _ (HCSd.out _ ((Below.refl _ _).drew.alloc (Nat.le_of_lt ld) _)) (fun hHd2=>?_)
      clear hK K
      try simp only [PS]
      refine RD (i:=8) rfl (fun K hK=>?_)
      refine step_append_lies _ (by rfl) _ _ _ (by rfl) (w.heap.size+1+1+1+1) 111 i0 (.agg #[.string ByteArray.empty,.string ByteArray.empty]) 2 32 Tryz.underlying37 HI.out.1 HI.out.2.1 HI.out.2.2.1 HI.out.2.2.2 rfl (by omega) (.slice va out.length vc) out.length _ (by rfl) (owns_below HXd.out.own ((Below.refl _ _).drew.alloc (Nat.le_refl _) _)) ⟨wd.heap.size,0,none⟩ 1 1 [.string s0,.string s1] (by rfl) rfl (World.news_of_block (heap_alloc_new wd.drew _)) (onePr _ _) (by omega) (by unfold maxLen;(try simp)<;>omega) (by (try simp)<;>omega) (by (try simp)<;>omega) (wd.heap.size+1) (by simp) ?_
      intro g9 cap9 w9 hown9 hgrow9 hat9 hlt9
      have hpu:=OutX.push (x:=(s0,s1)) HXd.out hown9 (undrewA hgrow9)
      have q9:=hpu.1.cell 0 _ rfl
      have r9:=hpu.1.froz 0 (by simp)
      have l9:=hpu.1.lt
      have HP9:=hid hpu
      have hb9:Below (w.heap.size+1+1+1) wd w9:=below_of_grown ⟨hgrow9.os,hgrow9.tape,hgrow9.output,Nat.le_trans (by simp) hgrow9.size,fun k hk hne=>(hgrow9.block k (by simp;omega) hne).trans (((Below.refl wd.heap.size wd).drew.alloc (Nat.le_refl _) _).block k hk)⟩ (Nat.le_of_lt ld) (fun k hk=>by have:=(HXd.out.own.lt k hk).1;omega)
      clear hown9 hgrow9 hat9 hpu
      refine hK.out _ _ (HCSd.out _ hb9) (fun hHd3=>?_)
      clear hK K
      try simp only [PS]
      refine TY (i:=9) (v:=.pointer (some ⟨w.heap.size+1+1+1,0,none⟩)) rfl hHd3 ?_
      simp only [PS]
      refine RD (i:=10) rfl (fun K hK=>?_)
      go_simp
      refine hK.out _ _ (HCSd.out _ (hb9.setCell (p:=⟨w.heap.size+1+1+1,0,none⟩) (Nat.le_refl _) _)) (fun hHd4=>?_)
      clear hK K
      try simp only [PS]
      refine wpAnyH_done (by kernel_rfl) ?_ _
      go_wp2
      have he:=HE.out
      refine ⟨⟨k+1,by omega,by go_num,by rw [HSTEP.out];simp [stepC,he,HDK.out,klt_self],.slice (some ⟨g9,0,none⟩) (out.length+1) cap9,?_⟩,by simp [intOf];omega⟩
      have hfe:(chW (key,val,gone) (rs.take (k+1))).2=out++[(s0,s1)]:=by rw [HSTEP.out];simp [stepC,he,HDK.out,klt_self]
      rw [hfe]
      simpa only [List.length_append,List.length_singleton] using HP9.out.2.1
     ·go_simp
      refine hK.out _ _ (HCSd.out _ ((Below.refl _ _).drew.alloc (Nat.le_of_lt ld) _)) (fun hHd5=>?_)
      clear hK K
      try simp only [PS]
      refine RD (i:=1) rfl (fun K hK=>?_)
      go_simp
      refine hK.out _ _ hHd5 (fun _=>?_)
      clear hK K
      try simp only [PS]
      refine RD (i:=8) rfl (fun K hK=>?_)
      refine step_append_lies _ (by rfl) _ _ _ (by rfl) (w.heap.size+1+1+1+1) 111 i0 (.agg #[.string ByteArray.empty,.string ByteArray.empty]) 2 32 Tryz.underlying37 HI.out.1 HI.out.2.1 HI.out.2.2.1 HI.out.2.2.2 rfl (by omega) (.slice va out.length vc) out.length _ (by rfl) (owns_below HXd.out.own ((Below.refl _ _).drew.alloc (Nat.le_refl _) _)) ⟨wd.heap.size,0,none⟩ 1 1 [.string s0,.string s1] (by rfl) rfl (World.news_of_block (heap_alloc_new wd.drew _)) (onePr _ _) (by omega) (by unfold maxLen;(try simp)<;>omega) (by (try simp)<;>omega) (by (try simp)<;>omega) (wd.heap.size+1) (by simp) ?_
      intro g9 cap9 w9 hown9 hgrow9 hat9 hlt9
      have hpu:=OutX.push (x:=(s0,s1)) HXd.out hown9 (undrewA hgrow9)
      have q9:=hpu.1.cell 0 _ rfl
      have r9:=hpu.1.froz 0 (by simp)
      have l9:=hpu.1.lt
      have HP9:=hid hpu
      have hb9:Below (w.heap.size+1+1+1) wd w9:=below_of_grown ⟨hgrow9.os,hgrow9.tape,hgrow9.output,Nat.le_trans (by simp) hgrow9.size,fun k hk hne=>(hgrow9.block k (by simp;omega) hne).trans (((Below.refl wd.heap.size wd).drew.alloc (Nat.le_refl _) _).block k hk)⟩ (Nat.le_of_lt ld) (fun k hk=>by have:=(HXd.out.own.lt k hk).1;omega)
      clear hown9 hgrow9 hat9 hpu
      refine hK.out _ _ (HCSd.out _ hb9) (fun hHd7=>?_)
      clear hK K
      try simp only [PS]
      refine TY (i:=9) (v:=.pointer (some ⟨w.heap.size+1+1+1,0,none⟩)) rfl hHd7 ?_
      simp only [PS]
      refine RD (i:=10) rfl (fun K hK=>?_)
      go_simp
      refine hK.out _ _ (HCSd.out _ (hb9.setCell (p:=⟨w.heap.size+1+1+1,0,none⟩) (Nat.le_refl _) _)) (fun hHd8=>?_)
      clear hK K
      try simp only [PS]
      refine wpAnyH_done (by kernel_rfl) ?_ _
      go_wp2
      have he:=HE.out
      refine ⟨⟨k+1,by omega,by go_num,by rw [HSTEP.out];simp [stepC,he,HDK.out,klt_self],.slice (some ⟨g9,0,none⟩) (out.length+1) cap9,?_⟩,by simp [intOf];omega⟩
      have hfe:(chW (key,val,gone) (rs.take (k+1))).2=out++[(s0,s1)]:=by rw [HSTEP.out];simp [stepC,he,HDK.out,klt_self]
      rw [hfe]
      simpa only [List.length_append,List.length_singleton] using HP9.out.2.1
    ·have he:=(cmpB_zero _ _).1 hcm
     have HDK:Hid (klt key s0=false):=by show _=_;rw [he];exact klt_self _
     have HE:=hid he
     have hb1:s0.toList=key.toList:=by rw [he]
     clear he
     go_wp2_with fail
     refine wp_region_held_drew (S:=fun w'=>w'.cell? ⟨w.heap.size,0,none⟩=some (.slice (some ⟨b,o,none⟩) rs.length c)/\w'.cell? ⟨b,o+k*2,none⟩=some (.string s0)/\w'.cell? ⟨b,o+k*2+1,none⟩=some (.string s1)/\w'.cell? ⟨w.heap.size+1,0,none⟩=some (.string key)/\w'.cell? ⟨w.heap.size+1,1,none⟩=some (.string val)) (by kernel_rfl) (HCS.out _ (Below.refl _ _).drew) (fun hHeld=>?_)
     refine TY (i:=0) (v:=.bool false) rfl hHeld ?_
     simp only [PS]
     refine TY (i:=1) (v:=.bool true) rfl hHeld ?_
     simp only [PS]
     refine TY (i:=2) (v:=.bool true) rfl hHeld ?_
     simp only [PS]
     refine TY (i:=3) (v:=.pointer (some ⟨w.heap.size,0,none⟩)) rfl hHeld ?_
     simp only [PS]
     refine TY (i:=4) (v:=.slice (some ⟨b,o,none⟩) rs.length c) rfl hHeld ?_
     simp only [PS]
     refine TY (i:=5) (v:=.int .i64 (k:Int)) rfl hHeld ?_
     simp only [PS]
     refine TY (i:=6) (v:=.pointer (some ⟨b,o+k*2,none⟩)) rfl hHeld ?_
     simp only [PS]
     refine TY (i:=7) (v:=.pointer (some ⟨b,o+k*2,none⟩)) rfl hHeld ?_
     simp only [PS]
     refine TY (i:=8) (v:=.string s0) rfl hHeld ?_
     simp only [PS]
     refine TY (i:=9) (v:=.pointer (some ⟨w.heap.size+1,0,none⟩)) rfl hHeld ?_
     simp only [PS]
     refine TY (i:=10) (v:=.string key) rfl hHeld ?_
     simp only [PS]
     refine TY (i:=11) (v:=.bool false) rfl hHeld ?_
     simp only [PS]
     refine TY (i:=12) (v:=.bool false) rfl hHeld ?_
     simp only [PS]
     refine wpAnyH_done (by kernel_rfl) ?_ _
     obtain ⟨wd0,hwd0⟩:∃ wd0,wd0=wr.drew:=⟨_,rfl⟩
     have hbd0:Below wr.heap.size wr wd0:=by rw [hwd0];exact (Below.refl _ _).drew
     rw [<-hwd0]
     have HX0:=HX
     have HCS0:=HCS
     have hbw0:Below w.heap.size w wd0:=hbw.trans (hbd0.mono hbw.size)
     have HXz:=hid (HX0.out.below hbd0)
     have HCSz:Hid (∀ w',Below (w.heap.size+1+1+1) wd0 w'->w'.cell? ⟨w.heap.size,0,none⟩=some (.slice (some ⟨b,o,none⟩) rs.length c)/\w'.cell? ⟨b,o+k*2,none⟩=some (.string s0)/\w'.cell? ⟨b,o+k*2+1,none⟩=some (.string s1)/\w'.cell? ⟨w.heap.size+1,0,none⟩=some (.string key)/\w'.cell? ⟨w.heap.size+1,1,none⟩=some (.string val)):=fun w' hb=>HCS0.out w' ((hbd0.mono (Nat.le_of_lt l3)).trans hb)
     clear hwd0 HX HCS hbw q0 q10 q11 q3 r3 l3 hc0 hc1 HX0 HCS0 hbd0 hHeld
     generalize wd0=wr at *
     have HX:=HXz
     have HCS:=HCSz
     clear HXz HCSz
     have q3:=HX.out.row.cell 0 _ rfl
     have r3:=HX.out.row.froz 0 (by simp)
     have l3:=HX.out.row.lt
     have q10:=(HCS.out _ (Below.refl _ _)).2.2.2.1
     have q11:=(HCS.out _ (Below.refl _ _)).2.2.2.2
     go_wp2_with fail
     have he2:(s0.toList == key.toList)=true:=by rw [HE.out];simp
     refine wp_region_held_drew (S:=fun w'=>w'.cell? ⟨w.heap.size,0,none⟩=some (.slice (some ⟨b,o,none⟩) rs.length c)/\w'.cell? ⟨b,o+k*2,none⟩=some (.string s0)/\w'.cell? ⟨b,o+k*2+1,none⟩=some (.string s1)/\w'.cell? ⟨w.heap.size+1,0,none⟩=some (.string key)/\w'.cell? ⟨w.heap.size+1,1,none⟩=some (.string val)) (by kernel_rfl) (HCS.out _ (Below.refl _ _).drew) (fun hHeld=>?_)
     refine TY (i:=0) (v:=.pointer (some ⟨w.heap.size,0,none⟩)) rfl hHeld ?_
     simp only [PS]
     refine TY (i:=1) (v:=.slice (some ⟨b,o,none⟩) rs.length c) rfl hHeld ?_
     simp only [PS]
     refine TY (i:=2) (v:=.int .i64 (k:Int)) rfl hHeld ?_
     simp only [PS]
     refine TY (i:=3) (v:=.pointer (some ⟨b,o+k*2,none⟩)) rfl hHeld ?_
     simp only [PS]
     refine TY (i:=4) (v:=.pointer (some ⟨b,o+k*2,none⟩)) rfl hHeld ?_
     simp only [PS]
     refine TY (i:=5) (v:=.string s0) rfl hHeld ?_
     simp only [PS]
     refine TY (i:=6) (v:=.pointer (some ⟨w.heap.size+1,0,none⟩)) rfl hHeld ?_
     simp only [PS]
     refine TY (i:=7) (v:=.string key) rfl hHeld ?_
     simp only [PS]
     refine TY (i:=8) (v:=.bool false) rfl hHeld ?_
     simp only [PS]
     refine wpAnyH_done (by kernel_rfl) ?_ _
     go_wp2
     have he:=HE.out
     refine ⟨⟨k+1,by omega,by go_num,by rw [HSTEP.out];simp [stepC,he,HDK.out,klt_self],.slice va out.length vc,?_⟩,by simp [intOf];omega⟩
     have hfe:(chW (key,val,gone) (rs.take (k+1))).2=out:=by rw [HSTEP.out];simp [stepC,he,HDK.out,klt_self]
     rw [hfe]
     exact HX.out.below (Below.refl _ _).drew
    ·have HDK:Hid (klt key s0=true):=cmpB_anti hcm
     have HE:Hid (¬ s0=key):=fun e=>by rw [e,cmpB_self] at hcm;omega
     have hb1:¬ (s0.toList=key.toList):=fun hh=>by rw [ByteArray.toList_eq,ByteArray.toList_eq] at hh;exact HE.out (ByteArray.ext (Array.ext' hh))
     have hb2:Op.bytesLess s0.toList key.toList=false:=by cases hq:Op.bytesLess s0.toList key.toList with | false=>rfl | true=>(have:=(cmpB_lt _ _).2 hq;omega)
     go_wp2_with fail
     refine wp_region_held_drew (S:=fun w'=>w'.cell? ⟨w.heap.size,0,none⟩=some (.slice (some ⟨b,o,none⟩) rs.length c)/\w'.cell? ⟨b,o+k*2,none⟩=some (.string s0)/\w'.cell? ⟨b,o+k*2+1,none⟩=some (.string s1)/\w'.cell? ⟨w.heap.size+1,0,none⟩=some (.string key)/\w'.cell? ⟨w.heap.size+1,1,none⟩=some (.string val)) (by kernel_rfl) (HCS.out _ (Below.refl _ _).drew) (fun hHeld=>?_)
     refine TY (i:=0) (v:=.bool false) rfl hHeld ?_
     simp only [PS]
     refine TY (i:=1) (v:=.bool true) rfl hHeld ?_
     simp only [PS]
     refine TY (i:=2) (v:=.bool true) rfl hHeld ?_
     simp only [PS]
     refine TY (i:=3) (v:=.pointer (some ⟨w.heap.size,0,none⟩)) rfl hHeld ?_
     simp only [PS]
     refine TY (i:=4) (v:=.slice (some ⟨b,o,none⟩) rs.length c) rfl hHeld ?_
     simp only [PS]
     refine TY (i:=5) (v:=.int .i64 (k:Int)) rfl hHeld ?_
     simp only [PS]
     refine TY (i:=6) (v:=.pointer (some ⟨b,o+k*2,none⟩)) rfl hHeld ?_
     simp only [PS]
     refine TY (i:=7) (v:=.pointer (some ⟨b,o+k*2,none⟩)) rfl hHeld ?_
     simp only [PS]
     refine TY (i:=8) (v:=.string s0) rfl hHeld ?_
     simp only [PS]
     refine TY (i:=9) (v:=.pointer (some ⟨w.heap.size+1,0,none⟩)) rfl hHeld ?_
     simp only [PS]
     refine TY (i:=10) (v:=.string key) rfl hHeld ?_
     simp only [PS]
     refine TY (i:=11) (v:=.bool true) rfl hHeld ?_
     simp only [PS]
     refine TY (i:=12) (v:=.bool true) rfl hHeld ?_
     simp only [PS]
     refine wpAnyH_done (by kernel_rfl) ?_ _
     obtain ⟨wd0,hwd0⟩:∃ wd0,wd0=wr.drew:=⟨_,rfl⟩
     have hbd0:Below wr.heap.size wr wd0:=by rw [hwd0];exact (Below.refl _ _).drew
     rw [<-hwd0]
     have HX0:=HX
     have HCS0:=HCS
     have hbw0:Below w.heap.size w wd0:=hbw.trans (hbd0.mono hbw.size)
     have HXz:=hid (HX0.out.below hbd0)
     have HCSz:Hid (∀ w',Below (w.heap.size+1+1+1) wd0 w'->w'.cell? ⟨w.heap.size,0,none⟩=some (.slice (some ⟨b,o,none⟩) rs.length c)/\w'.cell? ⟨b,o+k*2,none⟩=some (.string s0)/\w'.cell? ⟨b,o+k*2+1,none⟩=some (.string s1)/\w'.cell? ⟨w.heap.size+1,0,none⟩=some (.string key)/\w'.cell? ⟨w.heap.size+1,1,none⟩=some (.string val)):=fun w' hb=>HCS0.out w' ((hbd0.mono (Nat.le_of_lt l3)).trans hb)
     clear hwd0 HX HCS hbw q0 q10 q11 q3 r3 l3 hc0 hc1 HX0 HCS0 hbd0 hHeld
     generalize wd0=wr at *
     have HX:=HXz
     have HCS:=HCSz
     clear HXz HCSz
     have q3:=HX.out.row.cell 0 _ rfl
     have r3:=HX.out.row.froz 0 (by simp)
     have l3:=HX.out.row.lt
     have q10:=(HCS.out _ (Below.refl _ _)).2.2.2.1
     have q11:=(HCS.out _ (Below.refl _ _)).2.2.2.2
     go_wp2_with (at_builtin;refine wpList_append_lies _ rfl _ _ 37 rfl (w.heap.size+1+1+1+1) 111 i0 (.agg #[.string ByteArray.empty,.string ByteArray.empty]) 2 32 Tryz.underlying37 HI.out.1 HI.out.2.1 HI.out.2.2.1 HI.out.2.2.2 rfl (by omega) _ out.length _ rfl (HX.out.own.alloc _) ⟨wr.heap.size,0,none⟩ 1 1 [.string key,.string val] rfl rfl (World.news_of_block (heap_alloc_new wr _)) (onePr _ _) (by omega) (by unfold maxLen;omega) (by omega) (by simp;omega) (wr.heap.size+1) (by simp) ?_;intro g7 cap7 w7 hown7 hgrow7 hat7 hlt7;have hpu:=OutX.push (x:=(key,val)) HX.out hown7 hgrow7;have q7:=hpu.1.cell 0 _ rfl;have r7:=hpu.1.froz 0 (by simp);have l7:=hpu.1.lt;have q72:=(HRW.out _ hpu.2.2).2.2.cell 0 _ rfl;have r72:=(HRW.out _ hpu.2.2).2.2.froz 0 (by simp);have HPU:=hid hpu;clear hown7 hgrow7 hat7 hpu)
     obtain ⟨w8,hw8⟩:∃ w8,w8=w7.setCell ⟨w.heap.size+1+1+1,0,none⟩ (.slice (some ⟨g7,0,none⟩) (out.length+1) cap7):=⟨_,rfl⟩
     have hx8:=HPU.out.2.1
     rw [<-hw8] at hx8 ⊢
     clear hw8 q7 r7 l7 q72 r72 HPU
     have e8:Value.slice (some ⟨g7,0,none⟩) (out.length+1) cap7=.slice (some ⟨g7,0,none⟩) (out++[(key,val)]).length cap7:=by rw [List.length_append];rfl
     rw [e8] at hx8
     have q8:=hx8.row.cell 0 _ rfl
     have r8:=hx8.row.froz 0 (by simp)
     have l8:=hx8.row.lt
     have HX8:=hid hx8
     have HCS8:Hid (∀ w',Below (w.heap.size+1+1+1) w8 w'->w'.cell? ⟨w.heap.size,0,none⟩=some (.slice (some ⟨b,o,none⟩) rs.length c)/\w'.cell? ⟨b,o+k*2,none⟩=some (.string s0)/\w'.cell? ⟨b,o+k*2+1,none⟩=some (.string s1)/\w'.cell? ⟨w.heap.size+1,0,none⟩=some (.string key)/\w'.cell? ⟨w.heap.size+1,1,none⟩=some (.string val)):=fun w' hb=>by
      obtain ⟨hR0,hR1,hR2⟩:=HRW.out _ (HX8.out.bel.trans hb)
      have hbx:Below w.heap.size w w':=HBB.out.trans ((HX8.out.bel.trans hb).mono (by omega))
      obtain ⟨hp0,hp1⟩:=HPB.out w' hbx
      exact ⟨hR0.cell 0 _ rfl,hp0,hp1,hR1.cell 0 _ rfl,hR1.cell 1 _ rfl⟩
     clear hx8
     have he2:(s0.toList == key.toList)=false:=by rw [beq_eq_false_iff_ne];intro hh;rw [ByteArray.toList_eq,ByteArray.toList_eq] at hh;exact HE.out (ByteArray.ext (Array.ext' hh))
     refine wp_region_held_drew (S:=fun w'=>w'.cell? ⟨w.heap.size,0,none⟩=some (.slice (some ⟨b,o,none⟩) rs.length c)/\w'.cell? ⟨b,o+k*2,none⟩=some (.string s0)/\w'.cell? ⟨b,o+k*2+1,none⟩=some (.string s1)/\w'.cell? ⟨w.heap.size+1,0,none⟩=some (.string key)/\w'.cell? ⟨w.heap.size+1,1,none⟩=some (.string val)) (by kernel_rfl) (HCS8.out _ (Below.refl _ _).drew) (fun hHeld=>?_)
     refine TY (i:=0) (v:=.pointer (some ⟨w.heap.size,0,none⟩)) rfl hHeld ?_
     simp only [PS]
     refine TY (i:=1) (v:=.slice (some ⟨b,o,none⟩) rs.length c) rfl hHeld ?_
     simp only [PS]
     refine TY (i:=2) (v:=.int .i64 (k:Int)) rfl hHeld ?_
     simp only [PS]
     refine TY (i:=3) (v:=.pointer (some ⟨b,o+k*2,none⟩)) rfl hHeld ?_
     simp only [PS]
     refine TY (i:=4) (v:=.pointer (some ⟨b,o+k*2,none⟩)) rfl hHeld ?_
     simp only [PS]
     refine TY (i:=5) (v:=.string s0) rfl hHeld ?_
     simp only [PS]
     refine TY (i:=6) (v:=.pointer (some ⟨w.heap.size+1,0,none⟩)) rfl hHeld ?_
     simp only [PS]
     refine TY (i:=7) (v:=.string key) rfl hHeld ?_
     simp only [PS]
     refine TY (i:=8) (v:=.bool true) rfl hHeld ?_
     simp only [PS]
     refine wpAnyH_done (by kernel_rfl) ?_ _
     obtain ⟨wd,hwd⟩:∃ wd,wd=w8.drew:=⟨_,rfl⟩
     have hbd:Below w8.heap.size w8 wd:=by rw [hwd];exact (Below.refl _ _).drew
     rw [<-hwd]
     clear hwd
     have HXd:=hid (HX8.out.below hbd)
     have qd:=HXd.out.row.cell 0 _ rfl
     have rd:=HXd.out.row.froz 0 (by simp)
     have ld:=HXd.out.row.lt
     have HCSd:Hid (∀ w',Below (w.heap.size+1+1+1) wd w'->w'.cell? ⟨w.heap.size,0,none⟩=some (.slice (some ⟨b,o,none⟩) rs.length c)/\w'.cell? ⟨b,o+k*2,none⟩=some (.string s0)/\w'.cell? ⟨b,o+k*2+1,none⟩=some (.string s1)/\w'.cell? ⟨w.heap.size+1,0,none⟩=some (.string key)/\w'.cell? ⟨w.heap.size+1,1,none⟩=some (.string val)):=fun w' hb=>HCS8.out w' ((hbd.mono (Nat.le_of_lt l8)).trans hb)
     clear hHeld
     go_wp2_with fail
     refine wp_region_held_drew (S:=fun w'=>w'.cell? ⟨w.heap.size,0,none⟩=some (.slice (some ⟨b,o,none⟩) rs.length c)/\w'.cell? ⟨b,o+k*2,none⟩=some (.string s0)/\w'.cell? ⟨b,o+k*2+1,none⟩=some (.string s1)/\w'.cell? ⟨w.heap.size+1,0,none⟩=some (.string key)/\w'.cell? ⟨w.heap.size+1,1,none⟩=some (.string val)) (by kernel_rfl) (HCSd.out _ (Below.refl _ _).drew) (fun hHeld=>?_)
     refine TY (i:=0) (v:=.pointer (some ⟨w.heap.size+1+1+1,0,none⟩)) rfl hHeld ?_
     simp only [PS]
     refine TY (i:=2) (v:=.pointer (some ⟨w.heap.size,0,none⟩)) rfl hHeld ?_
     simp only [PS]
     refine TY (i:=3) (v:=.slice (some ⟨b,o,none⟩) rs.length c) rfl hHeld ?_
     simp only [PS]
     refine TY (i:=4) (v:=.int .i64 (k:Int)) rfl hHeld ?_
     simp only [PS]
     refine TY (i:=5) (v:=.pointer (some ⟨b,o+k*2,none⟩)) rfl hHeld ?_
     simp only [PS]
     refine TY (i:=6) (v:=.agg #[.string s0,.string s1]) rfl hHeld ?_
     simp only [PS]
     refine wpAnyH_ready (rs:=[1,7]) (by kernel_rfl) (by simp) ?_
     refine AllReadyH.cons rfl (fun K hK=>?_) (AllReadyH.cons rfl (fun K hK=>?_) AllReadyH.nil)
     ·go_simp
      refine hK.out _ _ hHeld (fun _=>?_)
      clear hK K
      try simp only [PS]
      refine RD (i:=7) rfl (fun K hK=>?_)
      go_simp
      refine hK.out _ _ (HCSd.out _ ((Below.refl _ _).drew.alloc (Nat.le_of_lt ld) _)) (fun hHd2=>?_)
      clear hK K
      try simp only [PS]
      refine RD (i:=8) rfl (fun K hK=>?_)
      refine step_append_lies _ (by rfl) _ _ _ (by rfl) (w.heap.size+1+1+1+1) 111 i0 (.agg #[.string ByteArray.empty,.string ByteArray.empty]) 2 32 Tryz.underlying37 HI.out.1 HI.out.2.1 HI.out.2.2.1 HI.out.2.2.2 rfl (by omega) (.slice (some ⟨g7,0,none⟩) (out++[(key,val)]).length cap7) (out++[(key,val)]).length _ (by rfl) (owns_below HXd.out.own ((Below.refl _ _).drew.alloc (Nat.le_refl _) _)) ⟨wd.heap.size,0,none⟩ 1 1 [.string s0,.string s1] (by rfl) rfl (World.news_of_block (heap_alloc_new wd.drew _)) (onePr _ _) (by omega) (by unfold maxLen;(try simp)<;>omega) (by (try simp)<;>omega) (by (try simp)<;>omega) (wd.heap.size+1) (by simp) ?_
      intro g9 cap9 w9 hown9 hgrow9 hat9 hlt9
      have hpu:=OutX.push (x:=(s0,s1)) HXd.out hown9 (undrewA hgrow9)
      have q9:=hpu.1.cell 0 _ rfl
      have r9:=hpu.1.froz 0 (by simp)
      have l9:=hpu.1.lt
      have HP9:=hid hpu
      have hb9:Below (w.heap.size+1+1+1) wd w9:=below_of_grown ⟨hgrow9.os,hgrow9.tape,hgrow9.output,Nat.le_trans (by simp) hgrow9.size,fun k hk hne=>(hgrow9.block k (by simp;omega) hne).trans (((Below.refl wd.heap.size wd).drew.alloc (Nat.le_refl _) _).block k hk)⟩ (Nat.le_of_lt ld) (fun k hk=>by have:=(HXd.out.own.lt k hk).1;omega)
      clear hown9 hgrow9 hat9 hpu
      refine hK.out _ _ (HCSd.out _ hb9) (fun hHd3=>?_)
      clear hK K
      try simp only [PS]
      refine TY (i:=9) (v:=.pointer (some ⟨w.heap.size+1+1+1,0,none⟩)) rfl hHd3 ?_
      simp only [PS]
      refine RD (i:=10) rfl (fun K hK=>?_)
      go_simp
      refine hK.out _ _ (HCSd.out _ (hb9.setCell (p:=⟨w.heap.size+1+1+1,0,none⟩) (Nat.le_refl _) _)) (fun hHd4=>?_)
      clear hK K
      try simp only [PS]
      refine wpAnyH_done (by kernel_rfl) ?_ _
      go_wp2
      have he:=HE.out
      refine ⟨⟨k+1,by omega,by go_num,by rw [HSTEP.out];simp [stepC,he,HDK.out,klt_self],.slice (some ⟨g9,0,none⟩) ((out++[(key,val)]).length+1) cap9,?_⟩,by simp [intOf];omega⟩
      have hfe:(chW (key,val,gone) (rs.take (k+1))).2=(out++[(key,val)])++[(s0,s1)]:=by rw [HSTEP.out];simp [stepC,he,HDK.out,klt_self]
      rw [hfe]
      simpa only [List.length_append,List.length_singleton] using HP9.out.2.1
     ·go_simp
      refine hK.out _ _ (HCSd.out _ ((Below.refl _ _).drew.alloc (Nat.le_of_lt ld) _)) (fun hHd5=>?_)
      clear hK K
      try simp only [PS]
      refine RD (i:=1) rfl (fun K hK=>?_)
      go_simp
      refine hK.out _ _ hHd5 (fun _=>?_)
      clear hK K
      try simp only [PS]
      refine RD (i:=8) rfl (fun K hK=>?_)
      refine step_append_lies _ (by rfl) _ _ _ (by rfl) (w.heap.size+1+1+1+1) 111 i0 (.agg #[.string ByteArray.empty,.string ByteArray.empty]) 2 32 Tryz.underlying37 HI.out.1 HI.out.2.1 HI.out.2.2.1 HI.out.2.2.2 rfl (by omega) (.slice (some ⟨g7,0,none⟩) (out++[(key,val)]).length cap7) (out++[(key,val)]).length _ (by rfl) (owns_below HXd.out.own ((Below.refl _ _).drew.alloc (Nat.le_refl _) _)) ⟨wd.heap.size,0,none⟩ 1 1 [.string s0,.string s1] (by rfl) rfl (World.news_of_block (heap_alloc_new wd.drew _)) (onePr _ _) (by omega) (by unfold maxLen;(try simp)<;>omega) (by (try simp)<;>omega) (by (try simp)<;>omega) (wd.heap.size+1) (by simp) ?_
      intro g9 cap9 w9 hown9 hgrow9 hat9 hlt9
      have hpu:=OutX.push (x:=(s0,s1)) HXd.out hown9 (undrewA hgrow9)
      have q9:=hpu.1.cell 0 _ rfl
      have r9:=hpu.1.froz 0 (by simp)
      have l9:=hpu.1.lt
      have HP9:=hid hpu
      have hb9:Below (w.heap.size+1+1+1) wd w9:=below_of_grown ⟨hgrow9.os,hgrow9.tape,hgrow9.output,Nat.le_trans (by simp) hgrow9.size,fun k hk hne=>(hgrow9.block k (by simp;omega) hne).trans (((Below.refl wd.heap.size wd).drew.alloc (Nat.le_refl _) _).block k hk)⟩ (Nat.le_of_lt ld) (fun k hk=>by have:=(HXd.out.own.lt k hk).1;omega)
      clear hown9 hgrow9 hat9 hpu
      refine hK.out _ _ (HCSd.out _ hb9) (fun hHd7=>?_)
      clear hK K
      try simp only [PS]
      refine TY (i:=9) (v:=.pointer (some ⟨w.heap.size+1+1+1,0,none⟩)) rfl hHd7 ?_
      simp only [PS]
      refine RD (i:=10) rfl (fun K hK=>?_)
      go_simp
      refine hK.out _ _ (HCSd.out _ (hb9.setCell (p:=⟨w.heap.size+1+1+1,0,none⟩) (Nat.le_refl _) _)) (fun hHd8=>?_)
      clear hK K
      try simp only [PS]
      refine wpAnyH_done (by kernel_rfl) ?_ _
      go_wp2
      have he:=HE.out
      refine ⟨⟨k+1,by omega,by go_num,by rw [HSTEP.out];simp [stepC,he,HDK.out,klt_self],.slice (some ⟨g9,0,none⟩) ((out++[(key,val)]).length+1) cap9,?_⟩,by simp [intOf];omega⟩
      have hfe:(chW (key,val,gone) (rs.take (k+1))).2=(out++[(key,val)])++[(s0,s1)]:=by rw [HSTEP.out];simp [stepC,he,HDK.out,klt_self]
      rw [hfe]
      simpa only [List.length_append,List.length_singleton] using HP9.out.2.1
  ·have hkl:k=rs.length:=by omega
   subst hkl
   rw [List.take_length] at hst
   have q2:=hR2.cell 0 _ rfl
   have r2:=hR2.froz 0 (by simp)
   have l2:=hR2.lt
   clear hR0 hR1 hR2
   cases d with
   | true =>
    have hF:chF (key,val,gone) rs=out:=by unfold chF;rw [hst];rfl
    have HF:=hid hF
    clear hst hF
    go_wp2_with fail
    rw [HF.out]
    refine bodyPost_ret (v:=stV va out.length vc) (by simp [results,Tryz.results128,go_sem,stV,q2]) rfl (cp_of HX.out ?_ ?_ HBB.out (by omega))
    ·exact ((Below.refl _ _).setCell (p:=⟨w.heap.size+1+1,0,none⟩) (by show w.heap.size<=w.heap.size+1+1;omega) _)
    ·exact fun k hk=>Below.heap_setCell _ _ _ k (by show _≠w.heap.size+1+1;omega)
   | false =>
    have hF:chF (key,val,gone) rs=out++[(key,val)]:=by unfold chF;rw [hst];rfl
    have HF:=hid hF
    clear hst hF
    go_wp2_with (at_builtin;refine wpList_append_lies _ rfl _ _ 37 rfl (w.heap.size+1+1+1+1) 111 i0 (.agg #[.string ByteArray.empty,.string ByteArray.empty]) 2 32 Tryz.underlying37 HI.out.1 HI.out.2.1 HI.out.2.2.1 HI.out.2.2.2 rfl (by omega) _ out.length _ rfl (HX.out.own.alloc _) ⟨wr.heap.size,0,none⟩ 1 1 [.string key,.string val] rfl rfl (World.news_of_block (heap_alloc_new wr _)) (onePr _ _) (by omega) (by unfold maxLen;omega) (by omega) (by simp;omega) (wr.heap.size+1) (by simp) ?_;intro g7 cap7 w7 hown7 hgrow7 hat7 hlt7;have hpu:=OutX.push (x:=(key,val)) HX.out hown7 hgrow7;have q7:=hpu.1.cell 0 _ rfl;have r7:=hpu.1.froz 0 (by simp);have l7:=hpu.1.lt;have q72:=(HRW.out _ hpu.2.2).2.2.cell 0 _ rfl;have r72:=(HRW.out _ hpu.2.2).2.2.froz 0 (by simp);have HPU:=hid hpu;clear hown7 hgrow7 hat7 hpu)
    have q72:w7.cell? ⟨w.heap.size+1+1,0,none⟩=some (.slice none 0 0):=(HRW.out _ HPU.out.2.2).2.2.cell 0 _ rfl
    rw [HF.out]
    have e8:Value.slice (some ⟨g7,0,none⟩) (out.length+1) cap7=.slice (some ⟨g7,0,none⟩) (out++[(key,val)]).length cap7:=by rw [List.length_append];rfl
    have hx8:=HPU.out.2.1
    rw [e8] at hx8
    refine bodyPost_ret (v:=stV (some ⟨g7,0,none⟩) (out++[(key,val)]).length cap7) (by simp [results,Tryz.results128,go_sem,stV,q72]) rfl (cp_of hx8 ?_ ?_ HBB.out (by omega))
    ·rw [<-e8];exact ((Below.refl _ _).setCell (p:=⟨w.heap.size+1+1,0,none⟩) (by show w.heap.size<=w.heap.size+1+1;omega) _)
    ·rw [<-e8];exact fun k hk=>Below.heap_setCell _ _ _ k (by show _≠w.heap.size+1+1;omega)
end Go.Proofs.YtcoegjnjjdndjaaGreatDoor
