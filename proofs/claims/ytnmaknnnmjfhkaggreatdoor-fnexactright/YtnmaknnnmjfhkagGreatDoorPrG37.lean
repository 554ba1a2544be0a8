import Derived.Test.YtnmaknnnmjfhkagGreatDoorPrG34
import Derived.Test.YtnmaknnnmjfhkagGreatDoorPrG35
import Derived.RangeFuncNested
import Derived.RangeFuncBound
import Derived.RangeFuncCalls
import Derived.RangeFuncLeaves
import Derived.RangeFuncBox
import Derived.Shelf.Abstract
import Derived.Shelf.RegionOpenV
import Derived.WalkKit
import Derived.OwnWalkIn
import Derived.TacticsInMore
import Derived.LoopNIn
import Derived.LoopIn
import Derived.Sort.QuietIn
import Derived.Maps.AppendAt
import Derived.Maps.OwnIn
set_option maxHeartbeats 16000000
set_option maxRecDepth 8000
set_option linter.unusedVariables false
set_option linter.unusedSimpArgs false
namespace Go.Proofs.YtnmaknnnmjfhkagGreatDoor
open Go.RowKit
theorem oneCS (k v:ByteArray) (g:Bool):∀ u∈[Value.string k,.string v,.bool g],u.oneCell'=true:=by
 intro u hu
 simp only [List.mem_cons,List.not_mem_nil,or_false] at hu
 rcases hu with rfl | rfl | rfl<;>rfl
theorem owns_last {w:World} {base g cap m:Nat} {e:TypeId} {vs:List Value} {x:Value} (ho:w.ownsRow base e 1 (.slice (some ⟨g,0,none⟩) (m+1) cap) (m+1) (vs++[x])) (hl:vs.length=m):w.cell? ⟨g,m,none⟩=some x/\w.frozen? ⟨g,m,none⟩=false:=by
 have hr:=owns_row ho
 exact ⟨hr.cell m x (by rw [<-hl];simp),hr.froz m (by simp;omega)⟩
theorem grown_row {w w1:World} {base g cap m n0:Nat} {vs xs:List Value} {x:Value} {o:Obj} (ho:w.ownsRow base 54 1 (.slice (some ⟨g,0,none⟩) (m+1) cap) (m+1) (vs++[x])/\vs.length=m) (hx:w.ownsRow base 69 3 x n0 xs) (hg:(w.alloc o).grownBy w1 x.ownBlock):w1.cell? ⟨g,m,none⟩=some x/\w1.frozen? ⟨g,m,none⟩=false:=by
 have ne:(54:TypeId)≠69:=by decide
 exact owns_last ((ho.1.alloc o).kept hg (rows_apart ho.1 hx ne)) ho.2
theorem Rest.alloc {w:World} {base:Nat} {bss:List (List Ch)} {vs:List Value} {x:Value} (h:Rest w base bss vs x) (o:Obj):Rest (w.alloc o) base bss vs x:=⟨h.len,fun i hi=>(h.own i hi).alloc o,h.apart,h.last⟩
theorem news1 (w:World) (A:Obj) (cs:Array Value) (t:TypeId):∀ j u,cs.toList[j]?=some u->((w.alloc A).alloc (.cells cs t)).cell? ((⟨w.heap.size+1,0,none⟩:Addr).add j)=some u:=by
 have h:=heap_alloc_new (w.alloc A) (.cells cs t)
 rw [World.size_alloc] at h
 exact World.news_of_block h
theorem lit_kept {wr w7:World} {base n:Nat} {v:Value} {vs:List Value} {o:Obj} (h1:wr.ownsRow base 54 1 v n vs) (hb:base<=wr.heap.size) (hg:((wr.alloc (.cells #[] 69)).alloc o).grownBy w7 v.ownBlock):w7.ownsRow base 69 3 (.slice (some ⟨wr.heap.size,0,none⟩) 0 0) 0 []:=by
 have h0:(wr.alloc (.cells #[] 69)).ownsRow base 69 3 (.slice (some ⟨wr.heap.size,0,none⟩) 0 0) 0 []:=by
  have:=World.ownsRow_lit wr (base:=base) (e:=69) (size:=3) #[] 0 hb (by simp) (by simp)
  simpa using this
 exact (h0.alloc o).kept hg (rows_apart (h0.alloc o) ((h1.alloc _).alloc _) (by decide))
theorem begin_facts {W0 wr w7:World} {base g cap m yc:Nat} {ya:Option Addr} {vs:List Value} (hbel:Below base W0 wr) (hsz:base<=wr.heap.size) (h1:wr.ownsRow base 54 1 (.slice ya m yc) m vs) (hown7:w7.ownsRow base 54 1 (.slice (some ⟨g,0,none⟩) (m+1) cap) (m+1) (vs++[.slice (some ⟨wr.heap.size,0,none⟩) 0 0]))
  (hgrow7:((wr.alloc (.cells #[] 69)).alloc (.cells #[.slice (some ⟨wr.heap.size,0,none⟩) 0 0] 54)).grownBy w7 (Value.slice ya m yc).ownBlock) :
  Below base W0 w7/\(w7.ownsRow base 54 1 (.slice (some ⟨g,0,none⟩) (m+1) cap) (m+1) (vs++[.slice (some ⟨wr.heap.size,0,none⟩) 0 0])/\vs.length=m)/\w7.ownsRow base 69 3 (.slice (some ⟨wr.heap.size,0,none⟩) 0 0) 0 []/\w7.cell? ⟨g,m,none⟩=some (.slice (some ⟨wr.heap.size,0,none⟩) 0 0):=by
 have hl:vs.length=m:=by have:=h1.1;omega
 exact ⟨below_grownS ((hbel.alloc hsz _).alloc (by simp;omega) _) ((h1.alloc _).alloc _) hgrow7 (by simp;omega),⟨hown7,hl⟩,lit_kept h1 hsz hgrow7,(owns_last hown7 hl).1⟩
theorem chcells_snocS (o:List Ch) (c:Ch):chcells (o++[c])=chcells o++[.string c.1,.string c.2.1,.bool c.2.2]:=by rw [chcells_append];rfl
theorem undrew' {w w':World} {o:Obj} {r:Option Nat} (h:(w.drew.alloc o).grownBy w' r):(w.alloc o).grownBy w' r:=⟨h.os,h.tape,h.output,h.size,h.block⟩
theorem snap_end {W0 W w9:World} {base g cap m n0 g9 cap9 c:Nat} {p:Option Addr} {bss:List (List Ch)} {cs:List Ch} {vs:List Value} {s0 s1:ByteArray} {o:Obj} (hb:base<=W.heap.size) (hr:Rest W base bss vs (.slice p n0 c)) (hm:m=bss.length) (hn:n0=cs.length)
  (ho:W.ownsRow base 54 1 (.slice (some ⟨g,0,none⟩) (m+1) cap) (m+1) (vs++[.slice p n0 c])) (hx:W.ownsRow base 69 3 (.slice p n0 c) n0 (chcells cs)) (hg:(W.alloc o).grownBy w9 (Value.slice p n0 c).ownBlock)
  (hx':w9.ownsRow base 69 3 (.slice (some ⟨g9,0,none⟩) (n0+1) cap9) (n0+1) (chcells cs++[.string s0,.string s1,.bool false])) (hat:(Value.slice p n0 c).ownBlock=some g9\/g9=W.heap.size+1) (hbel:Below base W0 W) :
  Bat (w9.setCell ⟨g,m,none⟩ (.slice (some ⟨g9,0,none⟩) (n0+1) cap9)) base (.slice (some ⟨g,0,none⟩) (m+1) cap) (bss++[cs++[(s0,s1,false)]])/\Below base W0 (w9.setCell ⟨g,m,none⟩ (.slice (some ⟨g9,0,none⟩) (n0+1) cap9)):=by
 subst hm hn
 have hx2:w9.ownsRow base 69 3 (.slice (some ⟨g9,0,none⟩) (cs.length+1) cap9) (cs++[(s0,s1,false)]).length (chcells (cs++[(s0,s1,false)])):=by
  rw [chcells_snocS,List.length_append];exact hx'
 refine ⟨(hr.alloc o).relast (by simp;omega) (ho.alloc o) (hx.alloc o) hg hx2 ?_,?_⟩
 ·rcases hat with h | h
  ·exact .inl h
  ·right;rw [h];simp [Value.ownBlock]
 ·have hgl:=(ho.lt g rfl).1
  exact (below_grownS (hbel.alloc hb o) (hx.alloc o) hg (by simp;omega)).setCell (p:=⟨g,bss.length,none⟩) hgl _
theorem rest_new {wr w7:World} {base m yc:Nat} {ya:Option Addr} {bss:List (List Ch)} {vs:List Value} {o:Obj} (h1:wr.ownsRow base 54 1 (.slice ya m yc) m vs) (h2:∀ i,i<bss.length->wr.ownsRow base 69 3 (vs.getD i nov) (bss.getD i []).length (chcells (bss.getD i [])))
  (h3:∀ i j k,i<j->j<bss.length->(vs.getD i nov).ownBlock=some k->(vs.getD j nov).ownBlock≠some k) (hb:base<=wr.heap.size) (hm:m=bss.length) (hg:((wr.alloc (.cells #[] 69)).alloc o).grownBy w7 (Value.slice ya m yc).ownBlock):Rest w7 base bss vs (.slice (some ⟨wr.heap.size,0,none⟩) 0 0):=by
 refine ⟨by have:=h1.1;omega,fun i hi=>(((h2 i hi).alloc _).alloc _).kept hg (rows_apart (h2 i hi) h1 (by decide)),h3,fun i k hi he=>?_⟩
 have:=(h2 i hi).lt k he
 simp only [Value.ownBlock,ne_eq,Option.some.injEq]
 omega
theorem snapU_le (rs:List Pr) (i:Nat) (hi:i<=100):(snapU rs i).length<=5:=by rw [snapU_length];omega
set_option maxHeartbeats 16000000 in
theorem snap_s (a:Option Addr) (rs:List Pr) (c:Nat) (w:World) (h:Prs w a rs) (hl:rs.length<=1048576) (hs:∀ x∈rs,x.1.size<=1048576/\x.2.size<=1048576) :
  Calls Tryz.prog 105 #[.agg #[.slice a rs.length c]] w fun e w'=>∃ v,e=.returned v/\Bat w' (w.heap.size+1) v (snapOf rs)/\Below w.heap.size w w':=by
 obtain ⟨i0,hi0,hz0,hz1,hz2⟩:=info_partsS info_chS
 have HI:=hid (And.intro hi0 (And.intro hz0 (And.intro hz1 hz2)))
 obtain ⟨i1,hj0,hy0,hy1,hy2⟩:=info_partsS info_slS
 have HJ:=hid (And.intro hj0 (And.intro hy0 (And.intro hy1 hy2)))
 clear hi0 hz0 hz1 hz2 hj0 hy0 hy1 hy2
 unfold snapOf
 have hb0:Below w.heap.size w ((w.alloc (.cells #[.slice a rs.length c] 31)).alloc (.cells #[] 54)):=((Below.refl _ _).alloc (Nat.le_refl _) _).alloc (by simp) _
 have hv:=vstate_s a rs c ((w.alloc (.cells #[.slice a rs.length c] 31)).alloc (.cells #[] 54)) (h.below hb0) hl hs
 have hempty:Bat ((w.alloc (.cells #[.slice a rs.length c] 31)).alloc (.cells #[] 54)) (w.heap.size+1) (.slice (some ⟨w.heap.size+1,0,none⟩) 0 0) []:=by
  refine ⟨[],?_,fun i h=>absurd h (by simp),fun i j k _ h=>absurd h (by simp)⟩
  have:=World.ownsRow_lit (w.alloc (.cells #[.slice a rs.length c] 31)) (base:=w.heap.size+1) (e:=54) (size:=1) #[] 0 (by simp) (by simp) (by simp)
  simpa using this
 have HV:=hid hv
 have HB0:=hid hb0
 have HE:=hid hempty
 clear hv hb0 hempty
 cases hok:stateOk rs with
 | false =>
  rw [hok] at HV
  simp only [Bool.false_eq_true,if_false]
  go_enter Tryz.func105,Tryz.ntmps105
  go_wp2_with (go_at_call 85;refine HV.out.mono ?_;rintro e w2 ⟨rfl,hb2⟩)
  go_ret
  exact ⟨_,rfl,HE.out.below hb2,HB0.out.trans (hb2.mono HB0.out.size)⟩
 | true =>
  rw [hok] at HV
  simp only [if_true]
  have hle:rs.length<=100:=(stateOk_of hok).1
  go_enter Tryz.func105,Tryz.ntmps105
  go_wp2_with (go_at_call 85;refine HV.out.mono ?_;rintro e w2 ⟨rfl,hb2⟩)
  have hs2:=hb2.size
  simp only [World.size_alloc] at hs2
  go_loopw [3,4] (fun y i wr=>∃ k:Nat,k<=rs.length/\i=.int .i64 k/\Bat wr (w.heap.size+1) y (snapU rs k)/\Below (w.heap.size+1) (w.alloc (.cells #[.slice a rs.length c] 31)) wr) (fun _ i _=>rs.length-(intOf i).toNat)
  case atStart=>exact ⟨0,Nat.zero_le _,rfl,HE.out.below hb2,((Below.refl _ _).alloc (by simp) _).trans (hb2.mono (by simp))⟩
  case round =>
   obtain ⟨k,hk,rfl,hbat,hbel⟩:=hrel
   have q0:wr.cell? ⟨w.heap.size,0,none⟩=some (.slice a rs.length c):=(hbel.cell (p:=⟨w.heap.size,0,none⟩) (by show w.heap.size<_;omega)).trans (by go_simp)
   have hsz:w.heap.size+1<=wr.heap.size:=by have:=hbel.size;simpa using this
   by_cases hlt:k<rs.length
   ·obtain ⟨b,o,s0,s1,rfl,hc0,hc1,HS⟩:=(h.below (((Below.refl _ _).alloc (Nat.le_refl _) _).trans (hbel.mono (by omega)))).at hlt
    have hlb:b<w.heap.size:=by
     rcases h with h | ⟨b',o',h1,h2,_⟩
     ·subst h;simp at hlt
     ·cases h1;exact h2
    have hlt':(k:Int)<(rs.length:Int):=by omega
    have HB:=hid hbel
    have HBT:=hid hbat
    clear hbel hbat
    by_cases hr:k % 20=0
    ·have hr':(k:Int) % 20=0:=by omega
     have HST:=hid (snapU_begin rs k hlt hr (ByteArray.empty,ByteArray.empty))
     have hsl:=snapU_le rs k (by omega)
     obtain ⟨bss,hbss⟩:∃ bss,bss=snapU rs k:=⟨_,rfl⟩
     rw [<-hbss] at HBT hsl HST
     clear hbss
     obtain ⟨vs,h1,h2,h3⟩:=HBT.out
     obtain ⟨ya,yc,rfl⟩:∃ ya yc,u3=Value.slice ya bss.length yc:=by
      rcases owns_forms h1 with ⟨e1,e2⟩ | ⟨g,cap,e1,_⟩
      ·exact ⟨none,0,by rw [e1,e2]⟩
      ·exact ⟨_,cap,e1⟩
     obtain ⟨m,hm⟩:∃ m,m=bss.length:=⟨_,rfl⟩
     rw [<-hm] at h1 hsl ⊢
     have HM:=hid hm
     have H1:=hid h1
     have H2:=hid h2
     have H3:=hid h3
     clear HBT h1 h2 h3 hm
     go_wp2_with (at_builtin;refine wpList_append_lies _ rfl _ _ 145 rfl (w.heap.size+1) 54 i1 (.slice none 0 0) 1 24 Tryz.underlying145 HJ.out.1 HJ.out.2.1 HJ.out.2.2.1 HJ.out.2.2.2 rfl (by omega) _ m _ rfl ((H1.out.alloc _).alloc _) ⟨wr.heap.size+1,0,none⟩ 1 1 [.slice (some ⟨wr.heap.size,0,none⟩) 0 0] rfl rfl (news1 wr _ _ _) (by intro u hu;simp at hu;subst hu;rfl) (by omega) (by unfold maxLen;omega) (by omega) (by simp;omega) (wr.heap.size+1+1) (by simp) ?_;intro g cap w7 hown7 hgrow7 hat7 hlt7;obtain ⟨hb7,hO7,hX7,q7⟩:=begin_facts HB.out hsz H1.out hown7 hgrow7;have HB7:=hid hb7;have HO:=hid hO7;have HX:=hid hX7;have hs7:w.heap.size+1<=w7.heap.size:=Nat.le_trans (by simp) hb7.size;have q70:=(hb7.cell (p:=⟨w.heap.size,0,none⟩) (Nat.lt_succ_self _)).trans ((HB.out.cell (p:=⟨w.heap.size,0,none⟩) (Nat.lt_succ_self _)).symm.trans q0);have qc0:=(hb7.cell (p:=⟨b,o+k*2,none⟩) (Nat.lt_succ_of_lt hlb)).trans ((HB.out.cell (p:=⟨b,o+k*2,none⟩) (Nat.lt_succ_of_lt hlb)).symm.trans hc0);have qc1:=(hb7.cell (p:=⟨b,o+k*2+1,none⟩) (Nat.lt_succ_of_lt hlb)).trans ((HB.out.cell (p:=⟨b,o+k*2+1,none⟩) (Nat.lt_succ_of_lt hlb)).symm.trans hc1);have lb7:b<w7.heap.size:=Nat.lt_of_lt_of_le (Nat.lt_succ_of_lt hlb) hs7;have HG7:=hid hgrow7;clear hown7 hgrow7 hat7 hb7 hO7 hX7 hc0 hc1 q0)
     have hmm:(m:Int)<(m:Int)+1:=by omega
     have hm00:(0:Int)<=(m:Int):=by omega
     have HXA:=hid (HX.out.alloc (.cells #[.string s0,.string s1,.bool false] 69))
     have HR:Hid (Rest w7 (w.heap.size+1) bss vs (.slice (some ⟨wr.heap.size,0,none⟩) 0 0)):=hid (rest_new H1.out H2.out H3.out hsz HM.out HG7.out)
     have hS:∀ w',Below (w.heap.size+1) w7 w'->w'.cell? ⟨w.heap.size,0,none⟩=some (.slice (some ⟨b,o,none⟩) rs.length c)/\w'.cell? ⟨b,o+k*2,none⟩=some (.string s0)/\w'.cell? ⟨b,o+k*2+1,none⟩=some (.string s1):=fun w' hw'=>⟨(hw'.cell (p:=⟨w.heap.size,0,none⟩) (Nat.lt_succ_self _)).trans q70,(hw'.cell (p:=⟨b,o+k*2,none⟩) (Nat.lt_succ_of_lt hlb)).trans qc0,(hw'.cell (p:=⟨b,o+k*2+1,none⟩) (Nat.lt_succ_of_lt hlb)).trans qc1⟩
     have HSS:=hid hS
     clear hS
     refine wp_region_held_drew (S:=fun w'=>w'.cell? ⟨w.heap.size,0,none⟩=some (.slice (some ⟨b,o,none⟩) rs.length c)/\w'.cell? ⟨b,o+k*2,none⟩=some (.string s0)/\w'.cell? ⟨b,o+k*2+1,none⟩=some (.string s1)) (by kernel_rfl) (HSS.out _ (Below.refl _ _).drew) (fun hHeld=>?_)
     refine TY (i:=0) (v:=.slice (some ⟨g,0,none⟩) (m+1) cap) rfl hHeld ?_
     simp only [PS]
     refine TY (i:=1) (v:=.int .i64 (m:Int)) rfl hHeld ?_
     simp only [PS]
     refine TY (i:=2) (v:=.slice (some ⟨g,0,none⟩) (m+1) cap) rfl hHeld ?_
     simp only [PS]
     refine TY (i:=3) (v:=.int .i64 (m:Int)) rfl hHeld ?_
     simp only [PS]
     refine TY (i:=4) (v:=.pointer (some ⟨g,m,none⟩)) rfl hHeld ?_
     simp only [PS]
     refine TY (i:=6) (v:=.pointer (some ⟨w.heap.size,0,none⟩)) rfl hHeld ?_
     simp only [PS]
     refine TY (i:=7) (v:=.slice (some ⟨b,o,none⟩) rs.length c) rfl hHeld ?_
     simp only [PS]
     refine TY (i:=8) (v:=.int .i64 (k:Int)) rfl hHeld ?_
     simp only [PS]
     refine TY (i:=9) (v:=.pointer (some ⟨b,o+k*2,none⟩)) rfl hHeld ?_
     simp only [PS]
     refine TY (i:=10) (v:=.pointer (some ⟨b,o+k*2,none⟩)) rfl hHeld ?_
     simp only [PS]
     refine TY (i:=11) (v:=.string s0) rfl hHeld ?_
     simp only [PS]
     refine TY (i:=12) (v:=.pointer (some ⟨w.heap.size,0,none⟩)) rfl hHeld ?_
     simp only [PS]
     refine TY (i:=13) (v:=.slice (some ⟨b,o,none⟩) rs.length c) rfl hHeld ?_
     simp only [PS]
     refine TY (i:=14) (v:=.int .i64 (k:Int)) rfl hHeld ?_
     simp only [PS]
     refine TY (i:=15) (v:=.pointer (some ⟨b,o+k*2,none⟩)) rfl hHeld ?_
     simp only [PS]
     refine TY (i:=16) (v:=.pointer (some ⟨b,o+k*2+1,none⟩)) rfl hHeld ?_
     simp only [PS]
     refine TY (i:=17) (v:=.string s1) rfl hHeld ?_
     simp only [PS]
     refine TY (i:=18) (v:=.agg #[.string s0,.string s1,.bool false]) rfl hHeld ?_
     simp only [PS]
     refine wpAnyH_ready (rs:=[5,19]) (by kernel_rfl) (by simp) ?_
     have ha19:=HSS.out (w7.drew.alloc (.cells #[.string s0,.string s1,.bool false] 69)) ((Below.refl _ _).drew.alloc hs7 _)
     refine AllReadyH.cons rfl (fun K hK=>?_) (AllReadyH.cons rfl (fun K hK=>?_) AllReadyH.nil)
     ·go_simp
      refine hK.out _ _ hHeld (fun _=>?_)
      clear hK K
      refine RD (i:=19) rfl (fun K hK=>?_)
      go_simp
      refine hK.out _ _ ha19 (fun _=>?_)
      clear hK K
      refine RD (i:=20) rfl (fun K hK=>?_)
      refine step_append_lies _ (by rfl) _ _ _ (by rfl) (w.heap.size+1) 69 i0 (.agg #[.string ByteArray.empty,.string ByteArray.empty,.bool false]) 3 40 Tryz.underlying54 HI.out.1 HI.out.2.1 HI.out.2.2.1 HI.out.2.2.2 rfl (by omega) (.slice (some ⟨wr.heap.size,0,none⟩) 0 0) 0 _ (by rfl) HXA.out ⟨w7.heap.size,0,none⟩ 1 1 [.string s0,.string s1,.bool false] (by rfl) rfl (World.news_of_block (heap_alloc_new w7 _)) (oneCS _ _ _) (by omega) (by unfold maxLen;omega) (by omega) (by simp<;>omega) (w7.heap.size+1) (by simp) ?_
      intro g9 cap9 w9 hown9 hgrow9 hat9 hlt9
      have HO9:=hid hown9
      have HG9:=hid (undrew' hgrow9)
      have HA9:=hid hat9
      have hend:=snap_end hs7 HR.out HM.out (cs:=[]) rfl HO.out.1 HX.out HG9.out HO9.out HA9.out HB7.out
      have HEND:=hid hend
      have q9:=(grown_row HO.out HX.out HG9.out).1
      have r9:=(grown_row HO.out HX.out HG9.out).2
      have hb9:Below (w.heap.size+1) w7 w9:=below_grownS ((Below.refl _ _).alloc hs7 _) (HX.out.alloc _) HG9.out (by simp;omega)
      have ha20:=HSS.out _ hb9
      have ha22:=HSS.out _ (hb9.setCell (p:=⟨g,m,none⟩) (HO.out.1.lt g rfl).1 (.slice (some ⟨g9,0,none⟩) (0+1) cap9))
      clear hown9 hgrow9 hat9 hend hb9
      refine hK.out _ _ ha20 (fun _=>?_)
      clear hK K
      simp only [PS]
      refine TY (i:=21) (v:=.pointer (some ⟨g,m,none⟩)) rfl ha20 ?_
      simp only [PS]
      refine RD (i:=22) rfl (fun K hK=>?_)
      go_simp
      refine hK.out _ _ ha22 (fun _=>?_)
      clear hK K
      refine wpAnyH_done (by kernel_rfl) ?_ _
      go_wp2
      refine ⟨⟨k+1,by omega,by go_num,?_,HEND.out.2⟩,by simp [intOf];omega⟩
      rw [HST.out]
      have e2:(s0,s1,false)=chOf (rs.getD k (ByteArray.empty,ByteArray.empty)):=by rw [<-HS.out];rfl
      rw [<-e2]
      exact HEND.out.1
     ·go_simp
      refine hK.out _ _ ha19 (fun _=>?_)
      clear hK K
      refine RD (i:=5) rfl (fun K hK=>?_)
      go_simp
      refine hK.out _ _ ha19 (fun _=>?_)
      clear hK K
      refine RD (i:=20) rfl (fun K hK=>?_)
      refine step_append_lies _ (by rfl) _ _ _ (by rfl) (w.heap.size+1) 69 i0 (.agg #[.string ByteArray.empty,.string ByteArray.empty,.bool false]) 3 40 Tryz.underlying54 HI.out.1 HI.out.2.1 HI.out.2.2.1 HI.out.2.2.2 rfl (by omega) (.slice (some ⟨wr.heap.size,0,none⟩) 0 0) 0 _ (by rfl) HXA.out ⟨w7.heap.size,0,none⟩ 1 1 [.string s0,.string s1,.bool false] (by rfl) rfl (World.news_of_block (heap_alloc_new w7 _)) (oneCS _ _ _) (by omega) (by unfold maxLen;omega) (by omega) (by simp<;>omega) (w7.heap.size+1) (by simp) ?_
      intro g9 cap9 w9 hown9 hgrow9 hat9 hlt9
      have HO9:=hid hown9
      have HG9:=hid (undrew' hgrow9)
      have HA9:=hid hat9
      have hend:=snap_end hs7 HR.out HM.out (cs:=[]) rfl HO.out.1 HX.out HG9.out HO9.out HA9.out HB7.out
      have HEND:=hid hend
      have q9:=(grown_row HO.out HX.out HG9.out).1
      have r9:=(grown_row HO.out HX.out HG9.out).2
      have hb9:Below (w.heap.size+1) w7 w9:=below_grownS ((Below.refl _ _).alloc hs7 _) (HX.out.alloc _) HG9.out (by simp;omega)
      have ha20:=HSS.out _ hb9
      have ha22:=HSS.out _ (hb9.setCell (p:=⟨g,m,none⟩) (HO.out.1.lt g rfl).1 (.slice (some ⟨g9,0,none⟩) (0+1) cap9))
      clear hown9 hgrow9 hat9 hend hb9
      refine hK.out _ _ ha20 (fun _=>?_)
      clear hK K
      simp only [PS]
      refine TY (i:=21) (v:=.pointer (some ⟨g,m,none⟩)) rfl ha20 ?_
      simp only [PS]
      refine RD (i:=22) rfl (fun K hK=>?_)
      go_simp
      refine hK.out _ _ ha22 (fun _=>?_)
      clear hK K
      refine wpAnyH_done (by kernel_rfl) ?_ _
      go_wp2
      refine ⟨⟨k+1,by omega,by go_num,?_,HEND.out.2⟩,by simp [intOf];omega⟩
      rw [HST.out]
      have e2:(s0,s1,false)=chOf (rs.getD k (ByteArray.empty,ByteArray.empty)):=by rw [<-HS.out];rfl
      rw [<-e2]
      exact HEND.out.1
    ·have hr':decide ((k:Int) % 20=0)=false:=by simp;omega
     obtain ⟨bss,cs,hbs,hst,hcl⟩:=snapU_on rs k hlt hr (ByteArray.empty,ByteArray.empty)
     have HST:=hid hst
     have hsl:=snapU_le rs k (by omega)
     rw [hbs] at HBT hsl
     obtain ⟨g,cap,vs,p,c9,rfl,hO,hX,hR⟩:=HBT.out.last
     obtain ⟨m,hm⟩:∃ m,m=bss.length:=⟨_,rfl⟩
     obtain ⟨n0,hn0⟩:∃ n0,n0=cs.length:=⟨_,rfl⟩
     have hm5:m<=5:=by simp at hsl;omega
     have hvl:vs.length=m:=by rw [hR.len,hm]
     rw [<-hm,<-hn0] at hO
     rw [<-hn0] at hX hR hcl
     rw [<-hm]
     have HM:=hid hm
     have HN:=hid hn0
     have HO:=hid (And.intro hO hvl)
     have HX:=hid hX
     have HR:=hid hR
     have hlt7:g<wr.heap.size:=(hO.lt g rfl).2
     have q7:=(owns_last hO hvl).1
     clear hbs hst hsl hO hX hR hm hn0 HBT hvl
     have hmm:(m:Int)<(m:Int)+1:=by omega
     have hm00:(0:Int)<=(m:Int):=by omega
     have HXA:=hid (HX.out.alloc (.cells #[.string s0,.string s1,.bool false] 69))
     have lb7:b<wr.heap.size:=Nat.lt_of_lt_of_le (Nat.lt_succ_of_lt hlb) hsz
     have q70:=q0
     have qc0:=hc0
     have qc1:=hc1
     have hs7:=hsz
     have HB7:=HB
     clear q0 hc0 hc1 hsz HB
     go_wp2_with fail
     have hS:∀ w',Below (w.heap.size+1) wr w'->w'.cell? ⟨w.heap.size,0,none⟩=some (.slice (some ⟨b,o,none⟩) rs.length c)/\w'.cell? ⟨b,o+k*2,none⟩=some (.string s0)/\w'.cell? ⟨b,o+k*2+1,none⟩=some (.string s1):=fun w' hw'=>⟨(hw'.cell (p:=⟨w.heap.size,0,none⟩) (Nat.lt_succ_self _)).trans q70,(hw'.cell (p:=⟨b,o+k*2,none⟩) (Nat.lt_succ_of_lt hlb)).trans qc0,(hw'.cell (p:=⟨b,o+k*2+1,none⟩) (Nat.lt_succ_of_lt hlb)).trans qc1⟩
     have HSS:=hid hS
     clear hS
     refine wp_region_held_drew (S:=fun w'=>w'.cell? ⟨w.heap.size,0,none⟩=some (.slice (some ⟨b,o,none⟩) rs.length c)/\w'.cell? ⟨b,o+k*2,none⟩=some (.string s0)/\w'.cell? ⟨b,o+k*2+1,none⟩=some (.string s1)) (by kernel_rfl) (HSS.out _ (Below.refl _ _).drew) (fun hHeld=>?_)
     refine TY (i:=0) (v:=.slice (some ⟨g,0,none⟩) (m+1) cap) rfl hHeld ?_
     simp only [PS]
     refine TY (i:=1) (v:=.int .i64 (m:Int)) rfl hHeld ?_
     simp only [PS]
     refine TY (i:=2) (v:=.slice (some ⟨g,0,none⟩) (m+1) cap) rfl hHeld ?_
     simp only [PS]
     refine TY (i:=3) (v:=.int .i64 (m:Int)) rfl hHeld ?_
     simp only [PS]
     refine TY (i:=4) (v:=.pointer (some ⟨g,m,none⟩)) rfl hHeld ?_
     simp only [PS]
     refine TY (i:=6) (v:=.pointer (some ⟨w.heap.size,0,none⟩)) rfl hHeld ?_
     simp only [PS]
     refine TY (i:=7) (v:=.slice (some ⟨b,o,none⟩) rs.length c) rfl hHeld ?_
     simp only [PS]
     refine TY (i:=8) (v:=.int .i64 (k:Int)) rfl hHeld ?_
     simp only [PS]
     refine TY (i:=9) (v:=.pointer (some ⟨b,o+k*2,none⟩)) rfl hHeld ?_
     simp only [PS]
     refine TY (i:=10) (v:=.pointer (some ⟨b,o+k*2,none⟩)) rfl hHeld ?_
     simp only [PS]
     refine TY (i:=11) (v:=.string s0) rfl hHeld ?_
     simp only [PS]
     refine TY (i:=12) (v:=.pointer (some ⟨w.heap.size,0,none⟩)) rfl hHeld ?_
     simp only [PS]
     refine TY (i:=13) (v:=.slice (some ⟨b,o,none⟩) rs.length c) rfl hHeld ?_
     simp only [PS]
     refine TY (i:=14) (v:=.int .i64 (k:Int)) rfl hHeld ?_
     simp only [PS]
     refine TY (i:=15) (v:=.pointer (some ⟨b,o+k*2,none⟩)) rfl hHeld ?_
     simp only [PS]
     refine TY (i:=16) (v:=.pointer (some ⟨b,o+k*2+1,none⟩)) rfl hHeld ?_
     simp only [PS]
     refine TY (i:=17) (v:=.string s1) rfl hHeld ?_
     simp only [PS]
     refine TY (i:=18) (v:=.agg #[.string s0,.string s1,.bool false]) rfl hHeld ?_
     simp only [PS]
     refine wpAnyH_ready (rs:=[5,19]) (by kernel_rfl) (by simp) ?_
     have ha19:=HSS.out (wr.drew.alloc (.cells #[.string s0,.string s1,.bool false] 69)) ((Below.refl _ _).drew.alloc hs7 _)
     refine AllReadyH.cons rfl (fun K hK=>?_) (AllReadyH.cons rfl (fun K hK=>?_) AllReadyH.nil)
     ·go_simp
      refine hK.out _ _ hHeld (fun _=>?_)
      clear hK K
      refine RD (i:=19) rfl (fun K hK=>?_)
      go_simp
      refine hK.out _ _ ha19 (fun _=>?_)
      clear hK K
      refine RD (i:=20) rfl (fun K hK=>?_)
      refine step_append_lies _ (by rfl) _ _ _ (by rfl) (w.heap.size+1) 69 i0 (.agg #[.string ByteArray.empty,.string ByteArray.empty,.bool false]) 3 40 Tryz.underlying54 HI.out.1 HI.out.2.1 HI.out.2.2.1 HI.out.2.2.2 rfl (by omega) (.slice p n0 c9) n0 _ (by rfl) HXA.out ⟨wr.heap.size,0,none⟩ 1 1 [.string s0,.string s1,.bool false] (by rfl) rfl (World.news_of_block (heap_alloc_new wr _)) (oneCS _ _ _) (by omega) (by unfold maxLen;omega) (by omega) (by simp<;>omega) (wr.heap.size+1) (by simp) ?_
      intro g9 cap9 w9 hown9 hgrow9 hat9 hlt9
      have HO9:=hid hown9
      have HG9:=hid (undrew' hgrow9)
      have HA9:=hid hat9
      have hend:=snap_end hs7 HR.out HM.out HN.out HO.out.1 HX.out HG9.out HO9.out HA9.out HB7.out
      have HEND:=hid hend
      have q9:=(grown_row HO.out HX.out HG9.out).1
      have r9:=(grown_row HO.out HX.out HG9.out).2
      have hb9:Below (w.heap.size+1) wr w9:=below_grownS ((Below.refl _ _).alloc hs7 _) (HX.out.alloc _) HG9.out (by simp;omega)
      have ha20:=HSS.out _ hb9
      have ha22:=HSS.out _ (hb9.setCell (p:=⟨g,m,none⟩) (HO.out.1.lt g rfl).1 (.slice (some ⟨g9,0,none⟩) (n0+1) cap9))
      clear hown9 hgrow9 hat9 hend hb9
      refine hK.out _ _ ha20 (fun _=>?_)
      clear hK K
      simp only [PS]
      refine TY (i:=21) (v:=.pointer (some ⟨g,m,none⟩)) rfl ha20 ?_
      simp only [PS]
      refine RD (i:=22) rfl (fun K hK=>?_)
      go_simp
      refine hK.out _ _ ha22 (fun _=>?_)
      clear hK K
      refine wpAnyH_done (by kernel_rfl) ?_ _
      go_wp2
      refine ⟨⟨k+1,by omega,by go_num,?_,HEND.out.2⟩,by simp [intOf];omega⟩
      rw [HST.out]
      have e2:(s0,s1,false)=chOf (rs.getD k (ByteArray.empty,ByteArray.empty)):=by rw [<-HS.out];rfl
      rw [<-e2]
      exact HEND.out.1
     ·go_simp
      refine hK.out _ _ ha19 (fun _=>?_)
      clear hK K
      refine RD (i:=5) rfl (fun K hK=>?_)
      go_simp
      refine hK.out _ _ ha19 (fun _=>?_)
      clear hK K
      refine RD (i:=20) rfl (fun K hK=>?_)
      refine step_append_lies _ (by rfl) _ _ _ (by rfl) (w.heap.size+1) 69 i0 (.agg #[.string ByteArray.empty,.string ByteArray.empty,.bool false]) 3 40 Tryz.underlying54 HI.out.1 HI.out.2.1 HI.out.2.2.1 HI.out.2.2.2 rfl (by omega) (.slice p n0 c9) n0 _ (by rfl) HXA.out ⟨wr.heap.size,0,none⟩ 1 1 [.string s0,.string s1,.bool false] (by rfl) rfl (World.news_of_block (heap_alloc_new wr _)) (oneCS _ _ _) (by omega) (by unfold maxLen;omega) (by omega) (by simp<;>omega) (wr.heap.size+1) (by simp) ?_
      intro g9 cap9 w9 hown9 hgrow9 hat9 hlt9
      have HO9:=hid hown9
      have HG9:=hid (undrew' hgrow9)
      have HA9:=hid hat9
      have hend:=snap_end hs7 HR.out HM.out HN.out HO.out.1 HX.out HG9.out HO9.out HA9.out HB7.out
      have HEND:=hid hend
      have q9:=(grown_row HO.out HX.out HG9.out).1
      have r9:=(grown_row HO.out HX.out HG9.out).2
      have hb9:Below (w.heap.size+1) wr w9:=below_grownS ((Below.refl _ _).alloc hs7 _) (HX.out.alloc _) HG9.out (by simp;omega)
      have ha20:=HSS.out _ hb9
      have ha22:=HSS.out _ (hb9.setCell (p:=⟨g,m,none⟩) (HO.out.1.lt g rfl).1 (.slice (some ⟨g9,0,none⟩) (n0+1) cap9))
      clear hown9 hgrow9 hat9 hend hb9
      refine hK.out _ _ ha20 (fun _=>?_)
      clear hK K
      simp only [PS]
      refine TY (i:=21) (v:=.pointer (some ⟨g,m,none⟩)) rfl ha20 ?_
      simp only [PS]
      refine RD (i:=22) rfl (fun K hK=>?_)
      go_simp
      refine hK.out _ _ ha22 (fun _=>?_)
      clear hK K
      refine wpAnyH_done (by kernel_rfl) ?_ _
      go_wp2
      refine ⟨⟨k+1,by omega,by go_num,?_,HEND.out.2⟩,by simp [intOf];omega⟩
      rw [HST.out]
      have e2:(s0,s1,false)=chOf (rs.getD k (ByteArray.empty,ByteArray.empty)):=by rw [<-HS.out];rfl
      rw [<-e2]
      exact HEND.out.1
   ·have hkl:k=rs.length:=by omega
    subst hkl
    go_wp2
    go_ret
    exact ⟨_,rfl,hbat,((Below.refl _ _).alloc (Nat.le_refl _) _).trans (hbel.mono (by omega))⟩
end Go.Proofs.YtnmaknnnmjfhkagGreatDoor
namespace Go.Proofs.YtnmaknnnmjfhkagGreatDoor
open Go.RowKit Go.Shelf
attribute [local go_sem] Oper.semAt_some
def partV (b off len k:Nat):Value:=.slice (some ⟨b,off+k*20*2,none⟩) (min 20 (len-k*20)) (min 20 (len-k*20))
theorem grown_drewN (w:World) (q:Nat):w.grownBy (w.drewN q) none:=⟨rfl,rfl,rfl,Nat.le_refl _,fun _ _ _=>rfl⟩
set_option maxHeartbeats 16000000 in
theorem chunk1_in (F:Fence) (n:Nat) (hf:F.fn 262) (hro:F.round=none) (hn:1<=n) (l Bs Bn b off len cap:Nat) (hlen:len<=100) (hcap:len<=cap) (Kp:World->World->Prop) (hK:∀ A B,Kp A B->B.cell? ⟨Bs,0,none⟩=A.cell? ⟨Bs,0,none⟩/\B.cell? ⟨Bn,0,none⟩=A.cell? ⟨Bn,0,none⟩) (J Jx:List Nat->World->Prop)
  (hY:∀ pre x W,J pre W->pre.length<(len+19) / 20->YieldAt F (n-1) Tryz.prog l #[partV b off len x] W fun e W' =>
   (e=.returned (.bool true)/\J (pre++[x]) W'/\Kp W W')\/(e=.returned (.bool false)/\Jx (pre++[x]) W'))
  (W:World) (hBs:W.cell? ⟨Bs,0,none⟩=some (.slice (some ⟨b,off,none⟩) len cap)) (hBn:W.cell? ⟨Bn,0,none⟩=some (.int .i64 20)) (h0:J [] W) (hJ:∀ s A B,J s A->A.grownBy B none->J s B) :
  CallsIn F n Tryz.prog 262 #[.func (.yield l) #[] #[],.pointer (some ⟨Bs,0,none⟩),.pointer (some ⟨Bn,0,none⟩)] W fun e W'=>(∃ v,e=.returned v) /\
   ((∃ ys,ys=List.range ((len+19) / 20)/\J ys W')\/(∃ pre,True/\Jx pre W')):=by
 refine callsIn_of_wp Tryz.func262 rfl hf ?_ hro
 simp only [Tryz.ntmps262,List.size_toArray,List.length_cons,List.length_nil,Nat.reduceAdd,Nat.reduceSub,Array.replicate_succ,Array.replicate_zero,List.push_toArray,List.append_toArray,List.nil_append,List.cons_append]
 gi_wp2
 gi_loopw [4] (fun i wr=>∃ k q:Nat,q=k*20/\k<=(len+19) / 20/\i=.int .i64 (q:Int)/\J (List.range k) wr/\wr.cell? ⟨Bs,0,none⟩=some (.slice (some ⟨b,off,none⟩) len cap)/\wr.cell? ⟨Bn,0,none⟩=some (.int .i64 20)) (fun i _=>len+20-(intOf i).toNat)
 case atStart=>exact ⟨0,0,rfl,Nat.zero_le _,rfl,h0,hBs,hBn⟩
 case round =>
  obtain ⟨k,q,hq,hk,rfl,hJs,hcs,hcn⟩:=hrel
  have HQ:=hid hq
  clear hq
  have hmx:Tryz.prog.follows .mixedOrders=true:=by kernel_rfl
  by_cases hlt:q<len
  ·have hq0:(0:Int)<=(q:Int):=by omega
   have hq1:(q:Int)<=(len:Int):=by omega
   have hq2:(q:Int)<(len:Int):=by omega
   have hq3:(len:Int)<=(cap:Int):=by omega
   by_cases hc:20<=len-q
   ·have HC:Hid (min 20 (len-q)=20):=by show _=_;omega
    have hc2:(q:Int)+20<=(len:Int):=by omega
    have hc3:(q:Int)+20<=(cap:Int):=by omega
    gi_wp2
    gi_big_quiet_th_v (fail)
    obtain ⟨fn,tmps,assign,body,hy,hR⟩:=hY _ k (wr.drewN nq) (hJ _ _ _ hJs (grown_drewN wr nq)) (by have:=HQ.out;rw [List.length_range];omega)
    have hcs1:(wr.drewN nq).cell? ⟨Bs,0,none⟩=some (.slice (some ⟨b,off,none⟩) len cap):=hcs
    unfold partV at hy
    rw [<-HQ.out,HC.out] at hy
    gi_wp2
    refine hR.mono ?_
    rintro e W3 (⟨rfl,hJ3,hk3⟩ | ⟨rfl,hJx3⟩)
    ·have hcn3:=(hK _ _ hk3).2.trans (show (wr.drewN nq).cell? ⟨Bn,0,none⟩=some (.int .i64 20) from hcn)
     have hcs3:=(hK _ _ hk3).1.trans hcs1
     gi_wp2
     go_roundw
     case rel=>exact ⟨k+1,q+20,by have:=HQ.out;omega,by have:=HQ.out;omega,by simp,by rw [List.range_succ];exact hJ3,hcs3,hcn3⟩
     case measure=>simp [intOf];omega
    ·gi_wp2
     refine bodyPost_ret (results_none rfl _ _ _) rfl ?_
     exact ⟨⟨_,rfl⟩,.inr ⟨_,trivial,hJx3⟩⟩
   ·have HC:Hid (min 20 (len-q)=len-q):=by show _=_;omega
    have hc2:(q:Int)+((len-q:Nat):Int)=(len:Int):=by omega
    gi_wp2
    gi_big_quiet_th_v (fail)
    obtain ⟨fn,tmps,assign,body,hy,hR⟩:=hY _ k (wr.drewN nq) (hJ _ _ _ hJs (grown_drewN wr nq)) (by have:=HQ.out;rw [List.length_range];omega)
    have hcs1:(wr.drewN nq).cell? ⟨Bs,0,none⟩=some (.slice (some ⟨b,off,none⟩) len cap):=hcs
    unfold partV at hy
    rw [<-HQ.out,HC.out] at hy
    gi_wp2
    refine hR.mono ?_
    rintro e W3 (⟨rfl,hJ3,hk3⟩ | ⟨rfl,hJx3⟩)
    ·have hcn3:=(hK _ _ hk3).2.trans (show (wr.drewN nq).cell? ⟨Bn,0,none⟩=some (.int .i64 20) from hcn)
     have hcs3:=(hK _ _ hk3).1.trans hcs1
     gi_wp2
     go_roundw
     case rel=>exact ⟨k+1,q+20,by have:=HQ.out;omega,by have:=HQ.out;omega,by simp,by rw [List.range_succ];exact hJ3,hcs3,hcn3⟩
     case measure=>simp [intOf];omega
    ·gi_wp2
     refine bodyPost_ret (results_none rfl _ _ _) rfl ?_
     exact ⟨⟨_,rfl⟩,.inr ⟨_,trivial,hJx3⟩⟩
  ·have hkk:k=(len+19) / 20:=by have:=HQ.out;omega
   gi_wp2
   go_end0
   exact ⟨⟨_,rfl⟩,.inl ⟨_,by rw [hkk],hJs⟩⟩
set_option maxHeartbeats 16000000 in
theorem chunk1_nil (F:Fence) (n:Nat) (hf:F.fn 262) (hro:F.round=none) (l Bs Bn c:Nat) (a:Option Addr) (J:List Nat->World->Prop) (W:World) (hBs:W.cell? ⟨Bs,0,none⟩=some (.slice a 0 c)) (h0:J [] W) :
  CallsIn F n Tryz.prog 262 #[.func (.yield l) #[] #[],.pointer (some ⟨Bs,0,none⟩),.pointer (some ⟨Bn,0,none⟩)] W fun e W'=>(∃ v,e=.returned v)/\J [] W':=by
 refine callsIn_of_wp Tryz.func262 rfl hf ?_ hro
 simp only [Tryz.ntmps262,List.size_toArray,List.length_cons,List.length_nil,Nat.reduceAdd,Nat.reduceSub,Array.replicate_succ,Array.replicate_zero,List.push_toArray,List.append_toArray,List.nil_append,List.cons_append]
 gi_wp2
 gi_loopw [4] (fun i wr=>i=.int .i64 0/\wr=W) (fun _ _=>0)
 case atStart=>exact ⟨rfl,rfl⟩
 case round =>
  obtain ⟨rfl,rfl⟩:=hrel
  gi_wp2
  go_end0
  exact ⟨⟨_,rfl⟩,h0⟩
set_option maxHeartbeats 16000000 in
theorem chunk_in (F:Fence) (n:Nat) (hf:F.fn 226) (hro:F.round=none) (a:Option Addr) (len cap:Nat) (w:World) :
  CallsIn F n Tryz.prog 226 #[.slice a len cap,.int .i64 20] w fun e w'=>e=.returned (.func (.func 262) #[] #[.pointer (some ⟨w.heap.size,0,none⟩),.pointer (some ⟨w.heap.size+1,0,none⟩)])/\w'=(w.alloc (.cells #[.slice a len cap] 29)).alloc (.cells #[.int .i64 20] 3):=by
 refine callsIn_of_wp Tryz.func226 rfl hf ?_ hro
 simp only [Tryz.ntmps226,List.size_toArray,List.length_cons,List.length_nil,Nat.reduceAdd,Nat.reduceSub,Array.replicate_succ,Array.replicate_zero,List.push_toArray,List.append_toArray,List.nil_append,List.cons_append]
 gi_wp2
 go_ret
 exact ⟨rfl,rfl⟩
theorem chunk_stops (F:Fence) (n:Nat) (hf:F.fn 262) (hro:F.round=none) (hn:1<=n) (Bs Bn b off len cap:Nat) (a:Option Addr) (hlen:len<=100) (hcap:len<=cap) (w:World) (hbs:Bs<w.heap.size) (hbn:Bn<w.heap.size) (Kp:World->World->Prop) (hK:∀ A B,Kp A B->B.cell? ⟨Bs,0,none⟩=A.cell? ⟨Bs,0,none⟩/\B.cell? ⟨Bn,0,none⟩=A.cell? ⟨Bn,0,none⟩)
  (hs:w.cell? ⟨Bs,0,none⟩=some (.slice a len cap)) (hc:w.cell? ⟨Bn,0,none⟩=some (.int .i64 20)) (ha:len=0\/a=some ⟨b,off,none⟩) :
  SeqStopsK F n Tryz.prog 262 #[.pointer (some ⟨Bs,0,none⟩),.pointer (some ⟨Bn,0,none⟩)] (fun x:Nat=>#[partV b off len x]) Kp (fun ys=>ys=List.range ((len+19) / 20)) (fun _=>True) ((len+19) / 20) w:=fun l J Jx W hW hJ hJx hY h0=>by
 have hs':=(hW.cell (p:=⟨Bs,0,none⟩) hbs).trans hs
 have hc':=(hW.cell (p:=⟨Bn,0,none⟩) hbn).trans hc
 rcases ha with rfl | rfl
 ·exact (chunk1_nil F n hf hro l Bs Bn cap a J W hs' h0).mono fun e W' ⟨he,hj⟩=>⟨he,.inl ⟨_,rfl,hj⟩⟩
 ·exact chunk1_in F n hf hro hn l Bs Bn b off len cap hlen hcap Kp hK J Jx hY W hs' hc' h0 (fun s A B hs hg=>hJ s A B none hs hg (fun r e=>(by cases e)))
end Go.Proofs.YtnmaknnnmjfhkagGreatDoor
