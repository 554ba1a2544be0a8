import Derived.Test.YtcoegjnjjdndjaaGreatDoorPrChk
import Derived.Test.YtcoegjnjjdndjaaGreatDoorPrG44
import Derived.Test.YtcoegjnjjdndjaaGreatDoorPrG49
import Derived.Test.YtcoegjnjjdndjaaGreatDoorPrFbI
import Derived.Test.YtcoegjnjjdndjaaGreatDoorPrG32
import Derived.Test.YtcoegjnjjdndjaaGreatDoorPrFbS
import Derived.Test.YtcoegjnjjdndjaaGreatDoorPrG48
set_option maxHeartbeats 16000000
set_option maxRecDepth 8000
set_option linter.unusedVariables false
set_option linter.unusedSimpArgs false
namespace Go.Proofs.YtcoegjnjjdndjaaGreatDoor
open Go.RowKit Go.Shelf
def KpC (n₀ Bs Bn:Nat) (A B:World):Prop:=Below n₀ A B/\B.cell? ⟨Bs,0,none⟩=A.cell? ⟨Bs,0,none⟩/\B.cell? ⟨Bn,0,none⟩=A.cell? ⟨Bn,0,none⟩
theorem KpC.t {n₀ Bs Bn:Nat} {A B C:World} (h:KpC n₀ Bs Bn A B) (k:KpC n₀ Bs Bn B C):KpC n₀ Bs Bn A C:=⟨h.1.trans k.1,k.2.1.trans h.2.1,k.2.2.trans h.2.2⟩
theorem KpC.b {n₀ Bs Bn:Nat} {w:World} (hn:n₀<=w.heap.size) (h1:Bs<w.heap.size) (h2:Bn<w.heap.size) (W:World) (l:Nat) (o o':Obj) (hl:w.heap.size<=l) (h:W.heap[l]?=some o) (hc:o.isCells=false) (hw:o.isWalk=false):KpC n₀ Bs Bn W (W.putObj l o') :=
 ⟨belowK_b hn W l o o' hl h hc hw,World.cell?_of_block (World.putObj_heap_other (by show Bs≠l;omega)),World.cell?_of_block (World.putObj_heap_other (by show Bn≠l;omega))⟩
theorem Bat.boxed {w:World} {base B:Nat} {v u z:Value} {bss:List (List Ch)} (h:Bat w base v bss) (hb:Boxed w B 133 u):Bat (w.setCell ⟨B,0,none⟩ z) base v bss:=by
 obtain ⟨vs,h1,h2,h3⟩:=h
 refine ⟨vs,h1.kept (grownBy_setCell' w B z) (.inr fun e=>hb.not_row (by decide) h1 e.symm),fun i hi=>(h2 i hi).kept (grownBy_setCell' w B z) (.inr fun e=>hb.not_row (by decide) (h2 i hi) e.symm),h3⟩
theorem row_own {X Y:World} {row:Option Nat} {base:Nat} {e:TypeId} {s:Nat} {v:Value} {n:Nat} {xs:List Value} (h:X.ownsRow base e s v n xs) (hg:X.grownBy Y row) (hr:∀ r,row=some r->∃ o:Obj,X.heap[r]?=some o/\o.isCells=false):Y.ownsRow base e s v n xs:=by
 refine h.kept hg ?_
 rcases h.2 with ⟨rfl,_⟩ | ⟨g,cap,cur,rfl,_,hgb,_⟩
 ·exact .inl rfl
 ·refine .inr fun e'=>?_
  obtain ⟨o,ho,hc⟩:=hr g (by simpa [Value.ownBlock] using e'.symm)
  rw [hgb] at ho;cases ho;cases hc
theorem box_own {X Y:World} {row:Option Nat} {B:Nat} {t:TypeId} {v:Value} (h:Boxed X B t v) (hg:X.grownBy Y row) (hr:∀ r,row=some r->∃ o:Obj,X.heap[r]?=some o/\o.isCells=false):Boxed Y B t v:=by
 refine h.kept hg fun e=>?_
 obtain ⟨o,ho,hc⟩:=hr B e.symm
 rw [show X.heap[B]?=_ from h] at ho;cases ho;cases hc
def InSn (n₀ B Bs Bn:Nat) (sv:Value) (bss:List (List Ch)) (W:World):Prop:=∃ v,Boxed W B 133 v/\Bat W n₀ v bss/\Boxed W Bs 37 sv/\Boxed W Bn 3 (.int .i64 20)
theorem InSn.own (n₀ B Bs Bn:Nat) (sv:Value) (f:List Nat->List (List Ch)):Own (fun pre W=>InSn n₀ B Bs Bn sv (f pre) W):=by
 rintro s X Y row ⟨v,hv,⟨vs,h1,h2,h3⟩,h4,h5⟩ hg hr
 exact ⟨v,box_own hv hg hr,⟨vs,row_own h1 hg hr,fun i hi=>row_own (h2 i hi) hg hr,h3⟩,box_own h4 hg hr,box_own h5 hg hr⟩
theorem keeps_below {W W':World} (h:Below W.heap.size W W'):KeepsOthers W W':=⟨h.size,fun k o hk _=>(h.block k (Array.getElem?_eq_some_iff.1 hk).1).trans hk⟩
theorem InSn.push {W wr w1:World} {n₀ B Bs Bn:Nat} {sv v v' y:Value} {bss:List (List Ch)} {cs:List Ch} {vs:List Value} {tmp:Obj} (hn:n₀<=W.heap.size) (hB:n₀<=B) (hv:Boxed W B 133 v) (h1:W.ownsRow n₀ 129 1 v bss.length vs) (h2:∀ i,i<bss.length->W.ownsRow n₀ 184 3 (vs.getD i nov) (bss.getD i []).length (chcells (bss.getD i [])))
  (h3:∀ i j k,i<j->j<bss.length->(vs.getD i nov).ownBlock=some k->(vs.getD j nov).ownBlock≠some k) (hs:Boxed W Bs 37 sv) (hm:Boxed W Bn 3 (.int .i64 20)) (hbw:Below W.heap.size W wr)
  (hy:wr.ownsRow W.heap.size 184 3 y cs.length (chcells cs)) (ho:w1.ownsRow n₀ 129 1 v' (bss.length+1) (vs++[y])) (hg:(wr.alloc tmp).grownBy w1 v.ownBlock) :
  Boxed w1 B 133 v/\InSn n₀ B Bs Bn sv (bss++[cs]) (w1.setCell ⟨B,0,none⟩ v')/\KeepsOthers W (w1.setCell ⟨B,0,none⟩ v')/\KpC n₀ Bs Bn W (w1.setCell ⟨B,0,none⟩ v'):=by
 have bx:∀ {b:Nat} {t:TypeId} {u:Value},Boxed W b t u->Boxed wr b t u:=fun h=>(hbw.block _ h.lt).trans h
 have h1r:=owns_below h1 hbw
 have hv1:Boxed w1 B 133 v:=((bx hv).alloc tmp).kept hg ((bx hv).not_row (by decide) h1r)
 have hs1:Boxed w1 Bs 37 sv:=((bx hs).alloc tmp).kept hg ((bx hs).not_row (by decide) h1r)
 have hm1:Boxed w1 Bn 3 (.int .i64 20):=((bx hm).alloc tmp).kept hg ((bx hm).not_row (by decide) h1r)
 have hbat:Bat w1 n₀ v' (bss++[cs]):=Bat.push (h1r.alloc tmp) (fun i hi=>(owns_below (h2 i hi) hbw).alloc tmp) h3 ((owns_mono hy hn).alloc tmp) (fun i k hi he e=>by
  have a1:=(h2 i hi).lt k he
  have a2:=hy.lt k e
  omega) ho hg
 have ns:Bs≠B:=fun e=>by
  have:=(show W.heap[Bs]?=_ from hs)
  rw [e,show W.heap[B]?=_ from hv] at this
  simp at this
 have nm:Bn≠B:=fun e=>by
  have:=(show W.heap[Bn]?=_ from hm)
  rw [e,show W.heap[B]?=_ from hv] at this
  simp at this
 have hs2:Boxed (w1.setCell ⟨B,0,none⟩ v') Bs 37 sv:=hs1.kept (grownBy_setCell' w1 B v') (by simp [ns])
 have hm2:Boxed (w1.setCell ⟨B,0,none⟩ v') Bn 3 (.int .i64 20):=hm1.kept (grownBy_setCell' w1 B v') (by simp [nm])
 refine ⟨hv1,⟨v',hv1.set v',hbat.boxed hv1,hs2,hm2⟩,?_,?_,hs2.cell.trans hs.cell.symm,hm2.cell.trans hm.cell.symm⟩
 ·refine (((keeps_below hbw).trans (KeepsOthers.alloc _ tmp)).trans (KeepsOthers.of_grownBy hg fun j o ej hj=>?_)).trans (KeepsOthers.setCell _ _ _)
  rcases (h1r.alloc tmp).2 with ⟨rfl,_⟩ | ⟨g,cap,cur,rfl,_,hgb,_⟩
  ·simp [Value.ownBlock] at ej
  ·obtain rfl:g=j:=by simpa [Value.ownBlock] using ej
   rw [hgb] at hj;cases hj;rfl
 ·refine ((((Below.refl n₀ W).trans (hbw.mono hn)).alloc (by have:=hbw.size;omega) tmp).grown hg (by have:=hbw.size;simp;omega) fun j ej=>?_).setCell (p:=⟨B,0,none⟩) hB v'
  exact (h1.lt j ej).1
theorem InSn.below {W W':World} {n₀ B Bs Bn:Nat} {sv:Value} {bss:List (List Ch)} (h:InSn n₀ B Bs Bn sv bss W) (hb:Below W.heap.size W W'):InSn n₀ B Bs Bn sv bss W':=by
 obtain ⟨v,hv,h1,h2,h3⟩:=h
 exact ⟨v,(hb.block _ hv.lt).trans hv,h1.below hb,(hb.block _ h2.lt).trans h2,(hb.block _ h3.lt).trans h3⟩
theorem prs_part {w:World} {b o:Nat} {rs:List Pr} (h:Prs w (some ⟨b,o,none⟩) rs) (k:Nat):Prs w (some ⟨b,o+k*20*2,none⟩) ((rs.drop (k*20)).take 20):=by
 rcases h with h | ⟨b',o',h1,h2,h3⟩
 ·subst h;exact .inl (by simp)
 ·cases h1
  refine .inr ⟨b,o+k*20*2,rfl,h2,fun i hi=>?_⟩
  simp only [List.length_take,List.length_drop] at hi
  have:=h3 (k*20+i) (by omega)
  rw [show o+k*20*2+i*2=o+(k*20+i)*2 by omega]
  have e:((rs.drop (k*20)).take 20).getD i (ByteArray.empty,ByteArray.empty)=rs.getD (k*20+i) (ByteArray.empty,ByteArray.empty):=by
   simp [List.getD,List.getElem?_take,List.getElem?_drop,show i<20 by omega]
  rw [e]
  exact this
end Go.Proofs.YtcoegjnjjdndjaaGreatDoor
namespace Go.Proofs.YtcoegjnjjdndjaaGreatDoor
open Go.RowKit Go.Shelf
attribute [local go_sem] Oper.semAt_some
set_option maxHeartbeats 16000000 in
theorem snap_i (a:Option Addr) (rs:List Pr) (c:Nat) (w:World) (h:Prs w a rs) (hc:rs.length<=c) (hl:rs.length<=1048576) (hs:∀ x∈rs,x.1.size<=1048576/\x.2.size<=1048576) :
  Calls Tryz.prog 118 #[.agg #[.slice a rs.length c]] w fun e w'=>∃ v,e=.returned v/\Bat w' w.heap.size v (snapOf rs)/\Below w.heap.size w w':=by
 refine (callsIn_wide (n:=4)).1 ?_
 unfold snapOf
 have hb0:Below w.heap.size w (w.alloc (.cells #[.slice a rs.length c] 39)):=(Below.refl _ _).alloc (Nat.le_refl _) _
 have hv:=vstate_i a rs c (w.alloc (.cells #[.slice a rs.length c] 39)) (h.below hb0) hl hs
 have HV:=hid hv
 have HB0:=hid hb0
 clear hv hb0
 refine callsIn_of_wp_marks Tryz.func118 rfl trivial ?_ rfl
 simp only [Tryz.ntmps118,List.size_toArray,List.length_cons,List.length_nil,Nat.reduceAdd,Nat.reduceSub,Array.replicate_succ,Array.replicate_zero,List.push_toArray,List.append_toArray,List.nil_append,List.cons_append]
 cases hok:stateOk rs with
 | false =>
  rw [hok] at HV
  simp only [Bool.false_eq_true,if_false]
  gi_wp2_with (refine ⟨trivial,?_⟩;gi_at_call 101;refine (callsIn_wide.2 HV.out).mono ?_;rintro e w2 ⟨rfl,hb2⟩)
  exact ⟨_,results_tmp rfl _ _ _,_,rfl,Bat.nil _ _,HB0.out.trans (hb2.mono HB0.out.size)⟩
 | true =>
  rw [hok] at HV
  simp only [if_true]
  have hle:rs.length<=100:=(stateOk_of hok).1
  gi_wp2_with (first | (refine ⟨trivial,?_⟩;gi_at_call 101;refine (callsIn_wide.2 HV.out).mono ?_;rintro e w2 ⟨rfl,hb2⟩;have q2:w2.cell? ⟨w.heap.size,0,none⟩=some (.slice a rs.length c):=(hb2.cell (p:=⟨w.heap.size,0,none⟩) (by simp)).trans (by go_simp);have hs2:w.heap.size<w2.heap.size:=Nat.lt_of_lt_of_le (by simp) hb2.size) | (refine ⟨trivial,?_⟩;gi_at_call 148;refine (chunk_in Fence.wide _ trivial rfl _ _ _ _).mono ?_;rintro e w4 ⟨rfl,rfl⟩))
  obtain ⟨b,o,hab,hp⟩:∃ b o,(rs.length=0\/a=some ⟨b,o,none⟩)/\Prs w (some ⟨b,o,none⟩) rs:=by
   rcases h with h | ⟨b,o,h1,h2,h3⟩
   ·exact ⟨0,0,.inl (by rw [h];rfl),.inl h⟩
   ·exact ⟨b,o,.inr h1,.inr ⟨b,o,rfl,h2,h3⟩⟩
  have hpw:=hp.below (HB0.out.trans (hb2.mono HB0.out.size))
  have HP:=hid hpw
  have HBW:=hid (HB0.out.trans (hb2.mono HB0.out.size))
  have HAB:=hid hab
  clear hp hpw hab h HV HB0 hb2 q2
  obtain ⟨i0,hi0,hz0,hz1,hz2⟩:=info_partsS info_chS
  have HI:=hid (And.intro hi0 (And.intro hz0 (And.intro hz1 hz2)))
  obtain ⟨i1,hj0,hy0,hy1,hy2⟩:=info_partsS info_slS
  have HJ:=hid (And.intro hj0 (And.intro hy0 (And.intro hy1 hy2)))
  clear hi0 hz0 hz1 hz2 hj0 hy0 hy1 hy2
  have bO:=Boxed.new w2 133 (.slice none 0 0)
  have bS:=Boxed.new (w2.alloc (.cells #[.slice none 0 0] 133)) 37 (.slice a rs.length c)
  have bN:=Boxed.new ((w2.alloc (.cells #[.slice none 0 0] 133)).alloc (.cells #[.slice a rs.length c] 37)) 3 (.int .i64 20)
  simp only [World.size_alloc] at bS bN
  have hB0:Below w2.heap.size w2 (((w2.alloc (.cells #[.slice none 0 0] 133)).alloc (.cells #[.slice a rs.length c] 37)).alloc (.cells #[.int .i64 20] 3)):=(((Below.refl _ w2).alloc (Nat.le_refl _) _).alloc (by simp) _).alloc (by simp;omega) _
  refine wpIn_rangeFunc_ownG rfl (by omega) (gf:=161) (lb:=#[.pointer (some ⟨w2.heap.size+1,0,none⟩),.pointer (some ⟨w2.heap.size+1+1,0,none⟩)]) rfl trivial (enters_of Tryz.func161 (by kernel_rfl) rfl)
   (chunk_stops Fence.wide 3 trivial rfl (by omega) (w2.heap.size+1) (w2.heap.size+1+1) b o rs.length c a hle hc _ (by simp) (by simp) (KpC w2.heap.size (w2.heap.size+1) (w2.heap.size+1+1)) (fun A B h=>h.2) (bS.alloc _).cell bN.cell HAB.out)
   KpC.t (KpC.b (by simp;omega) (by simp) (by simp)) (Below.refl _ _) (fun _=>rfl)
   (fun pre W=>InSn w2.heap.size w2.heap.size (w2.heap.size+1) (w2.heap.size+1+1) (.slice a rs.length c) (pre.map (chunkAt rs)) W/\Below w2.heap.size w2 W)
   (fun _ _ _=>False)
   (OwnFrom.and (Own.from (InSn.own _ _ _ _ _ (fun pre=>pre.map (chunkAt rs))) _) (ownFrom_below (Nat.le_refl _) (by simp;omega)))
   (fun _ _ _ _ _ hs _ _=>hs)
   ⟨⟨_,(bO.alloc _).alloc _,Bat.nil _ _,bS.alloc _,bN⟩,hB0⟩
   (fun x=>{ tmps:=#[.agg #[.slice a rs.length c],.pointer (some ⟨w.heap.size,0,none⟩),.slice none 0 0,.pointer (some ⟨w2.heap.size,0,none⟩),partV b o rs.length x,undef,undef,undef,.agg #[.slice a rs.length c],.bool true,.bool false,.pointer (some ⟨w.heap.size,0,none⟩),.slice a rs.length c,.func (.func 161) #[] #[.pointer (some ⟨w2.heap.size+1,0,none⟩),.pointer (some ⟨w2.heap.size+1+1,0,none⟩)],partV b o rs.length x,undef,undef,undef,undef,undef,undef,undef,undef,undef,undef,undef,undef,undef,undef,undef,undef,undef,undef,undef,undef],defers:=[] }) ?assign ?body ?done ?stop
  case assign =>
   intro l x W K hK
   gi_wp2
   exact hK
  case body =>
   rintro l pre x W ⟨⟨v,hv,⟨vs,h1,h2,h3⟩,hsb,hmb⟩,hB⟩ hlt
   have hpp:=prs_part (HP.out.below hB) x
   obtain ⟨cs,hcs⟩:∃ cs,cs=(rs.drop (x*20)).take 20:=⟨_,rfl⟩
   have hcl:cs.length=min 20 (rs.length-x*20):=by rw [hcs];simp
   have HCH:Hid (chunkAt rs x=cs.map chOf):=by show _=_;rw [hcs];rfl
   obtain ⟨oo,hoo⟩:∃ oo,oo=o+x*20*2:=⟨_,rfl⟩
   unfold partV
   rw [<-hcl,<-hoo]
   rw [<-hcs,<-hoo] at hpp
   have hn20:cs.length<=20:=by omega
   have HPP:=hid hpp
   have H1:=hid h1
   have H2:=hid h2
   have H3:=hid h3
   have HVB:=hid hv
   have HSB:=hid hsb
   have HMB:=hid hmb
   have HB:=hid hB
   clear hpp h1 h2 h3 hv hsb hmb hcs hoo hcl
   gi_wp2
   gi_loopw [5,17] (fun y i wr=>∃ j:Nat,j<=cs.length/\i=.int .i64 (j:Int)/\wr.ownsRow W.heap.size 184 3 y j (chcells ((cs.map chOf).take j))/\Below W.heap.size W wr) (fun _ i _=>cs.length-(intOf i).toNat)
   case atStart=>exact ⟨0,Nat.zero_le _,rfl,World.ownsRow_nil _ _ _ _,Below.refl _ _⟩
   case round =>
    obtain ⟨j,hj,rfl,hown,hbel⟩:=hrel
    have HBL:=hid hbel
    by_cases hjl:j<cs.length
    ·obtain ⟨bb,ob,s0,s1,he,hc0,hc1,HS⟩:=(HPP.out.below hbel).at hjl
     obtain ⟨rfl,rfl⟩:b=bb/\oo=ob:=by cases he;exact ⟨rfl,rfl⟩
     clear he
     have hjl':(j:Int)<(cs.length:Int):=by omega
     have hj0:(0:Int)<=(j:Int):=by omega
     have HO5:=hid ((hown.alloc (.cells #[.string s0,.string s1] 111)).alloc (.cells #[.string s0,.string s1,.bool false] 184))
     have hsz:=hbel.size
     have hlb:b<wr.heap.size:=by have:=World.block_lt_of_cell? wr _ hc0;simpa using this
     gi_wp2_with (gi_at_builtin;refine wpListIn_append_own _ rfl _ _ 129 rfl W.heap.size 184 i0 (.agg #[.string ByteArray.empty,.string ByteArray.empty,.bool false]) 3 40 Tryz.underlying129 HI.out.1 HI.out.2.1 HI.out.2.2.1 HI.out.2.2.2 rfl (by omega) _ j _ rfl HO5.out ⟨wr.heap.size+1,0,none⟩ 1 1 [.string s0,.string s1,.bool false] rfl rfl (news1 wr _ _ _) (oneCS _ _ _) (by unfold maxLen;omega) (by omega) (by simp;omega) ?_;intro v' w7 hown7 hgrow7 _;have HO7:=hid hown7;have HB7:=hid (below_grownS (((HBL.out.alloc hsz _).alloc (by simp;omega) _)) HO5.out hgrow7 (by simp;omega));clear hown7 hgrow7)
     go_roundw
     case rel =>
      refine ⟨j+1,by omega,by go_num,?_,HB7.out⟩
      have e2:(cs.map chOf).take (j+1)=(cs.map chOf).take j++[(s0,s1,false)]:=by
       rw [List.take_succ_eq_append_getElem (by simpa using hjl)]
       congr 2
       have:=HS.out
       simp [List.getD,hjl] at this
       rw [List.getElem_map,<-this];rfl
      rw [e2,chcells_snocS]
      exact HO7.out
     case measure=>simp [intOf];omega
    ·have hjj:j=cs.length:=by omega
     subst hjj
     rw [List.take_of_length_le (by simp)] at hown
     obtain ⟨ya,yc,rfl⟩:∃ ya yc,u5=Value.slice ya cs.length yc:=by
      rcases owns_forms hown with ⟨e1,e2⟩ | ⟨g,cap,e1,_⟩
      ·exact ⟨none,0,by rw [e1,e2]⟩
      ·exact ⟨_,cap,e1⟩
     have hyo:wr.ownsRow W.heap.size 184 3 (.slice ya cs.length yc) (chunkAt rs x).length (chcells (chunkAt rs x)):=by rw [HCH.out,List.length_map];exact hown
     have HYO:=hid hyo
     have qv:wr.cell? ⟨w2.heap.size,0,none⟩=some v:=(hbel.cell (p:=⟨w2.heap.size,0,none⟩) HVB.out.lt).trans HVB.out.cell
     have lv:w2.heap.size<wr.heap.size:=Nat.lt_of_lt_of_le HVB.out.lt hbel.size
     obtain ⟨va,vc,hva⟩:∃ va vc,v=Value.slice va (pre.map (chunkAt rs)).length vc:=by
      rcases owns_forms H1.out with ⟨e1,e2⟩ | ⟨g,cap,e1,_⟩
      ·exact ⟨none,0,by rw [e1,e2]⟩
      ·exact ⟨_,cap,e1⟩
     have hnW:w2.heap.size<=W.heap.size:=HB.out.size
     have hnr:w2.heap.size<=wr.heap.size:=by omega
     have hpl:(pre.map (chunkAt rs)).length<=10:=by rw [List.length_map];omega
     obtain ⟨bss,hbss⟩:∃ bss,bss=pre.map (chunkAt rs):=⟨_,rfl⟩
     have HBS:Hid ((pre++[x]).map (chunkAt rs)=bss++[chunkAt rs x]):=by show _=_;rw [hbss];simp
     rw [<-hbss] at H1 H2 H3 hva hpl
     subst hva
     have H1R:=hid ((owns_below H1.out hbel).alloc (.cells #[.slice ya cs.length yc] 129))
     clear hown hbel hyo hbss
     gi_wp2_with (gi_at_builtin;refine wpListIn_append_own _ rfl _ _ 133 rfl w2.heap.size 129 i1 (.slice none 0 0) 1 24 Tryz.underlying133 HJ.out.1 HJ.out.2.1 HJ.out.2.2.1 HJ.out.2.2.2 rfl (by omega) _ bss.length _ rfl H1R.out ⟨wr.heap.size,0,none⟩ 1 1 [.slice ya cs.length yc] rfl rfl (cell_one_new _ _ _) (by simp [Value.oneCell']) (by unfold maxLen;omega) (by omega) (by simp;omega) ?_;intro v' w9 hown9 hgrow9 _;obtain ⟨g',cap',rfl⟩:=ownsRow_succ hown9;obtain ⟨hv1,hin,hko,hkp⟩:=InSn.push hnW (Nat.le_refl _) HVB.out H1.out H2.out H3.out HSB.out HMB.out HBL.out HYO.out hown9 hgrow9;have q9:=hv1.cell;have r9:=hv1.frozen;have HE:=hid (And.intro hin (And.intro hko hkp));clear hown9 hgrow9 hv1 hin hko hkp)
     exact ⟨HE.out.2.1.from _,HE.out.2.2,by rw [HBS.out];exact HE.out.1,HB.out.trans HE.out.2.2.1⟩
  case done =>
   rintro D ys W hD rfl ⟨⟨v,hv,hbat,hsb,hmb⟩,hB⟩ hK
   have hcv:=hv.cell
   gi_wp2
   refine ⟨by simp,.inl ⟨_,_,rfl,run_takeDeferred hK,?_⟩⟩
   have hend:Bat (W.putObj D (.deferred none)) w2.heap.size v (snapU rs rs.length):=by
    obtain ⟨vs,h1,h2,h3⟩:=hbat
    rw [snapU_all]
    exact ⟨vs,ownsRow_putObj h1 _ hK rfl,fun i hi=>ownsRow_putObj (h2 i hi) _ hK rfl,h3⟩
   exact ⟨_,results_tmp rfl _ _ _,v,rfl,hend.mono HBW.out.size,HBW.out.trans ((hB.trans (belowK_b (w:=w2) (Nat.le_refl _) W D _ _ (by simp at hD;omega) hK rfl rfl)).mono HBW.out.size)⟩
  case stop =>
   rintro D c pre W _ _ h _
   exact h.elim
theorem snapOf_len (rs:List Pr):(snapOf rs).length<=5:=by
 unfold snapOf
 split
 ·rename_i h;exact snapU_le rs _ (stateOk_of h).1
 ·simp
theorem snapOf_mem {rs:List Pr} {b:List Ch} (h:b∈snapOf rs):b.length<=20/\∀ x∈b,(x.1,x.2.1)∈rs:=by
 unfold snapOf at h
 split at h
 ·exact snap_mem h
 ·simp at h
end Go.Proofs.YtcoegjnjjdndjaaGreatDoor
namespace Go.Proofs.YtcoegjnjjdndjaaGreatDoor
open Go.RowKit
theorem builder_below {T e:TypeId} {B b:Nat} {bs:List Value} {w w':World} (h:Lib.IsBuilder T e B b bs w) (hb:Below w.heap.size w w'):Lib.IsBuilder T e B b bs w':=by
 have key:∀ p,Lib.BuilderAt T e B b p bs w->Lib.BuilderAt T e B b p bs w':=fun p hp=>by
  obtain ⟨h1,v,h2,h3,h4⟩:=hp
  have hlt:b<w.heap.size:=by
   rcases Nat.lt_or_ge b w.heap.size with h | h
   ·exact h
   ·rw [Array.getElem?_eq_none h] at h2;cases h2
  exact ⟨h1,v,by rw [hb.block b hlt];exact h2,owns_below h3 hb,h4⟩
 rcases h with h | h
 ·exact .inl (key _ h)
 ·exact .inr (key _ h)
theorem bytes_step (f s:ByteArray):Lib.byteCells f.data.toList++Lib.strCells s=Lib.byteCells (f++s).data.toList:=by
 rw [Lib.strCells_eq,<-Lib.byteCells_append]
 congr 1
set_option maxHeartbeats 16000000 in
theorem formrem_i (k:ByteArray) (w:World) (hk:k.size<=255):Calls Tryz.prog 202 #[.agg #[.string k]] w fun e w'=>e=.returned (.string (strOfNums [1]++(strOfNums [(k.size:Int)]++k)))/\Below w.heap.size w w':=by
 have hb1:∀ o,Below w.heap.size w (w.alloc o):=fun o=>(Below.refl _ _).alloc (Nat.le_refl _) _
 have hb0:∀ o o',Below w.heap.size w ((w.alloc o).alloc o'):=fun o o'=>(hb1 o).alloc (by simp) _
 have hb2:∀ (x:World) (b:Nat),x.cell? ⟨b,0,none⟩=some (.int .u8 1)->(convert 158 9 (.slice (some ⟨b,0,none⟩) 1 1)).run Tryz.prog x=.ok (.string (strOfNums [1])) x:=fun x b h=>bytes_any x b 1 h
 have n1:¬ 9223372036854775807<1+(1+k.size):=by omega
 have z0:(strOfNums [1]).size=1:=by rw [strOfNums_size];rfl
 have z1:(strOfNums [(k.size:Int)]++k).size=1+k.size:=by rw [ByteArray.size_append,strOfNums_size];rfl
 go_enter Tryz.func202,Tryz.ntmps202
 go_wp2_with fail
 go_region_law (refine step_call (by rfl) 207 #[.string k] (by go_simp) (sized_i k _ hk) ?_;rintro e w7 ⟨rfl,hb7⟩;refine ⟨_,rfl,?_⟩;have hs7:=hb7.size;simp only [World.size_alloc,World.size_drew] at hs7;have l70:w.heap.size<w7.heap.size:=(by omega);have l71:=Nat.lt_of_succ_le hs7;obtain ⟨q7,_⟩:=bcell1F hb7;have HB7:=hid hb7;clear hb7)
 all_goals
  go_wp2
  go_ret
  refine ⟨rfl,?_⟩
  first
   | exact bs (hb0 _ _).drew HB7.out
   | exact (bs (hb1 _).drew HB7.out).alloc (bs (hb1 _).drew HB7.out).size _
theorem meth_set (j:Nat) (v v':Value) (w:World):Sem.run Tryz.prog (method (j+1) 236 (.agg #[v,v']) "loop.example/kilnstone/impl.form") w=.ok (211,.agg #[v,v']) w:=by kernel_rfl
theorem meth_rem (j:Nat) (v:Value) (w:World):Sem.run Tryz.prog (method (j+1) 234 (.agg #[v]) "loop.example/kilnstone/impl.form") w=.ok (202,.agg #[v]) w:=by kernel_rfl
set_option maxHeartbeats 16000000 in
theorem formbatch_i (a:Option Addr) (rs:List (ByteArray×ByteArray×Bool)) (c:Nat) (w:World) (h:Chs w a rs) (hl:rs.length<=1048576) (hs:∀ x∈rs,x.1.size<=1048576/\x.2.1.size<=1048576) :
  Calls Tryz.prog 143 #[.slice a rs.length c] w fun e w'=>e=.returned (.string (bOut rs))/\Below w.heap.size w w':=by
 unfold bOut
 cases hok:batchOk rs with
 | false =>
  simp only [Bool.false_eq_true,if_false]
  go_enter Tryz.func143,Tryz.ntmps143
  go_wp2_with (go_at_call 140;refine (vbatch_i a rs c _ h hl hs).mono ?_;rw [hok];rintro e w2 ⟨rfl,hb2⟩)
  go_ret
  exact ⟨rfl,hb2⟩
 | true =>
  simp only [if_true]
  obtain ⟨hn,hall⟩:=batchOk_of hok
  have HALL:=hid hall
  clear hall
  obtain ⟨F,HF⟩:∃ F,Hid (F=bForm rs):=⟨_,hid rfl⟩
  rw [<-HF.out]
  go_enter Tryz.func143,Tryz.ntmps143
  go_wp2_with (go_at_call 140;refine (vbatch_i a rs c _ h hl hs).mono ?_;rw [hok];rintro e w2 ⟨rfl,hb2⟩)
  go_loopw [5,11] (fun _ i wr=>∃ k:Nat,k<=rs.length/\i=.int .i64 k/\Lib.IsBuilder 160 5 w2.heap.size w2.heap.size (Lib.byteCells (bForm (rs.take k)).data.toList) wr/\Below w2.heap.size w2 wr) (fun _ i _=>rs.length-(intOf i).toNat)
  case atStart=>exact ⟨0,Nat.zero_le _,rfl,by rw [List.take_zero];exact Lib.fresh_isBuilder _ _ _,(Below.refl _ _).alloc (Nat.le_refl _) _⟩
  case round =>
   obtain ⟨k,hk,rfl,hbd,hbel⟩:=hrel
   by_cases hlt:k<rs.length
   ·obtain ⟨b,o,s0,s1,g2,rfl,hc0,hc1,hc2,HS⟩:=(h.below (hb2.trans (hbel.mono hb2.size))).at hlt
    have hm:Hid ((s0,s1,g2)∈rs):=by show _∈_;rw [HS.out];simp [List.getD,hlt]
    have hco:=HALL.out _ hm.out
    have hz0:s0.size<=255:=by simp [chOk,kOk,vOk] at hco;omega
    have hz1:s1.size<=255:=by simp [chOk,kOk,vOk] at hco;omega
    have HCS:=hid (chN_size _ hco)
    have HBS:=hid (bForm_size (rs.take k) (fun x hx=>HALL.out x (List.mem_of_mem_take hx)))
    have HST:=hid (bForm_succ rs k _ _ hlt HS.out)
    have hlen:(Lib.byteCells (bForm (rs.take k)).data.toList).length+(strOfNums (chN (s0,s1,g2))).size<=140737488355328:=by
     rw [Lib.byteCells_length]
     have h1:(bForm (rs.take k)).data.toList.length=(bForm (rs.take k)).size:=rfl
     have h2:=HBS.out
     have h3:=HCS.out
     rw [List.length_take] at h2
     omega
    have hlt':(k:Int)<(rs.length:Int):=by omega
    have hsz:=hbel.size
    have HB:=hid hbel
    have HBD:=hid hbd
    clear hbd hbel hco
    cases g2 with
    | false =>
     have hms:=fun j w=>meth_set j (.string s0) (.string s1) w
     go_wp2_with (first | (go_at_call 157;refine (edit_i0 s0 s1 _).mono ?_;rintro e w4 ⟨rfl,hb4⟩) | (go_at_call 211;refine (formset_i s0 s1 _ hz0 hz1).mono ?_;rw [chN_set];rintro e w5 ⟨rfl,hb5⟩;have hbx:=bs (bs ((Below.refl wr.heap.size wr).alloc (Nat.le_refl _) _) hb4) hb5;have HBX:=hid hbx;have HBY:=hid (builder_below HBD.out hbx);have hsx:=hbx.size;clear hb4 hb5 hbx) | (go_at_call 108;refine (b_write _ _ _ _ _ HBY.out hlen (by omega)).mono ?_;rintro e w6 ⟨rfl,hb6,hb7⟩))
     refine ⟨⟨k+1,by omega,by go_num,?_,HB.out.trans ((HBX.out.mono hsz).trans hb7)⟩,by simp [intOf];omega⟩
     rw [HST.out,<-bytes_step]
     exact .inr hb6
    | true =>
     have hms:=fun j w=>meth_rem j (.string s0) w
     go_wp2_with (first | (go_at_call 157;refine (edit_i1 s0 s1 _).mono ?_;rintro e w4 ⟨rfl,hb4⟩) | (go_at_call 202;refine (formrem_i s0 _ hz0).mono ?_;rw [chN_rem s0 s1];rintro e w5 ⟨rfl,hb5⟩;have hbx:=bs (bs ((Below.refl wr.heap.size wr).alloc (Nat.le_refl _) _) hb4) hb5;have HBX:=hid hbx;have HBY:=hid (builder_below HBD.out hbx);have hsx:=hbx.size;clear hb4 hb5 hbx) | (go_at_call 108;refine (b_write _ _ _ _ _ HBY.out hlen (by omega)).mono ?_;rintro e w6 ⟨rfl,hb6,hb7⟩))
     refine ⟨⟨k+1,by omega,by go_num,?_,HB.out.trans ((HBX.out.mono hsz).trans hb7)⟩,by simp [intOf];omega⟩
     rw [HST.out,<-bytes_step]
     exact .inr hb6
   ·have hkl:k=rs.length:=by omega
    subst hkl
    have hsz:=hbel.size
    have HBD:=hid hbd
    clear hbd
    rw [List.take_length,<-HF.out] at HBD
    go_wp2_with (go_at_call 110;refine (b_string _ _ _ _ HBD.out hsz).mono ?_;rintro e w6 ⟨rfl,hb6⟩)
    go_ret
    refine ⟨?_,hb2.trans ((hbel.trans hb6).mono hb2.size)⟩
    have e:(⟨F.data.toList.toArray⟩:ByteArray)=F:=by simp
    first | rw [<-e];rfl | (simp;rfl)
def roomOf (bss:List (List Ch)) (n:Int):Int:=(bss.map fun b=>npages (bOut b).size n).sum
theorem npages_bound (l:Nat) (n:Int):0<=npages l n/\npages l n<=(l:Int)+1:=by
 unfold npages nparts
 split
 ·split
  ·omega
  ·have h:=Nat.div_le_self (l-1) (56-n).toNat
   obtain ⟨q,hq⟩:∃ q,q=(l-1) / (56-n).toNat:=⟨_,rfl⟩
   rw [<-hq] at h ⊢
   omega
 ·omega
theorem bOut_bound (b:List Ch):(bOut b).size<=2460:=by
 unfold bOut
 split
 ·rename_i h
  obtain ⟨h1,h2⟩:=batchOk_of h
  have:=bForm_size b h2
  omega
 ·simp
theorem roomOf_nil (n:Int):roomOf [] n=0:=rfl
theorem roomOf_snoc (bss:List (List Ch)) (b:List Ch) (n:Int):roomOf (bss++[b]) n=roomOf bss n+npages (bOut b).size n:=by simp [roomOf]
theorem roomOf_bound (bss:List (List Ch)) (n:Int):0<=roomOf bss n/\roomOf bss n<=2461*(bss.length:Int):=by
 induction bss with
 | nil=>exact ⟨Int.le_refl _,by simp [roomOf]⟩
 | cons b r ih =>
  have e:roomOf (b::r) n=npages (bOut b).size n+roomOf r n:=by simp [roomOf]
  have h1:=npages_bound (bOut b).size n
  have h2:=bOut_bound b
  rw [e,List.length_cons]
  omega
theorem takeR_snoc {α:Type} (l:List α) (k:Nat) (d:α) (h:k<l.length):l.take (k+1)=l.take k++[l.getD k d]:=by
 rw [List.take_succ_eq_append_getElem h]
 simp [List.getD,h]
set_option maxHeartbeats 16000000 in
theorem room_s (a:Option Addr) (rs:List Pr) (c:Nat) (n:Int) (w:World) (h:Prs w a rs) (hl:rs.length<=1048576) (hs:∀ x∈rs,x.1.size<=1048576/\x.2.size<=1048576) :
  Calls Tryz.prog 50 #[.agg #[.slice a rs.length c],.int .i64 n] w fun e w'=>e=.returned (.int .i64 (roomOf (snapOf rs) n))/\Below w.heap.size w w':=by
 have hb0:Below w.heap.size w (w.alloc (.cells #[.slice a rs.length c] 39)):=(Below.refl _ _).alloc (Nat.le_refl _) _
 have hv:=snap_s a rs c (w.alloc (.cells #[.slice a rs.length c] 39)) (h.below hb0) hl hs
 have HV:=hid hv
 have HB0:=hid hb0
 clear hv hb0
 obtain ⟨bss,hbss⟩:∃ bss,bss=snapOf rs:=⟨_,rfl⟩
 have hbl:=snapOf_len rs
 have HMB:Hid (∀ b∈bss,b.length<=1048576/\∀ x∈b,x.1.size<=1048576/\x.2.1.size<=1048576):=by
  intro b hb
  rw [hbss] at hb
  obtain ⟨h1,h2⟩:=snapOf_mem hb
  exact ⟨by omega,fun x hx=>hs _ (h2 x hx)⟩
 rw [<-hbss] at HV hbl ⊢
 clear hbss
 go_enter Tryz.func50,Tryz.ntmps50
 go_wp2_with (go_at_call 87;refine HV.out.mono ?_;rintro e w2 ⟨v,rfl,hbat,hb2⟩)
 obtain ⟨va,vc,rfl,hbt⟩:=hbat.bts
 have HBT:=hid hbt
 have HBW:=hid (HB0.out.trans (hb2.mono HB0.out.size))
 clear hbat hb2 hbt HV HB0
 go_loopw [5,7] (fun y i wr=>∃ k:Nat,k<=bss.length/\i=.int .i64 (k:Int)/\y=.int .i64 (roomOf (bss.take k) n)/\Below w2.heap.size w2 wr) (fun _ i _=>bss.length-(intOf i).toNat)
 case atStart=>exact ⟨0,Nat.zero_le _,rfl,rfl,Below.refl _ _⟩
 case round =>
  obtain ⟨k,hk,rfl,rfl,hbel⟩:=hrel
  by_cases hlt:k<bss.length
  ·obtain ⟨g,p,cc,rfl,hg,hc,hch⟩:=(HBT.out.below hbel).at hlt
   have hlt':(k:Int)<(bss.length:Int):=by omega
   have hk0:(0:Int)<=(k:Int):=by omega
   have hmem:=HMB.out (bss.getD k []) (by simp [List.getD,hlt])
   have HST:=hid (roomOf_snoc (bss.take k) (bss.getD k []) n)
   rw [<-takeR_snoc bss k [] hlt] at HST
   have hR:=roomOf_bound (bss.take k) n
   have hRl:(bss.take k).length<=5:=by rw [List.length_take];omega
   have hP:=npages_bound (bOut (bss.getD k [])).size n
   have hO:=bOut_bound (bss.getD k [])
   obtain ⟨b,hb⟩:∃ b,b=bss.getD k []:=⟨_,rfl⟩
   rw [<-hb] at hc hch hmem HST hP hO
   obtain ⟨r,hr⟩:∃ r,r=roomOf (bss.take k) n:=⟨_,rfl⟩
   rw [<-hr] at HST hR ⊢
   have HF:=hid (fun W (hW:Chs W p b)=>formbatch_s p b cc W hW hmem.1 hmem.2)
   have HG:=hid (fun W=>pages_s (bOut b) n W (by omega))
   have HCH:=hid hch
   have HBL:=hid hbel
   obtain ⟨q,hq⟩:∃ q,q=npages (bOut b).size n:=⟨_,rfl⟩
   rw [<-hq] at HG hP HST
   obtain ⟨bo,hbo⟩:∃ bo,bo=bOut b:=⟨_,rfl⟩
   rw [<-hbo] at HF HG hP hO
   have hw0:IntKind.i64.wrap (r+q)=r+q:=by simp [IntKind.wrap,IntKind.bits,IntKind.signed];omega
   clear hb hr hq hbo hmem hch hbel
   go_wp2_with (first | (go_at_call 89;refine (HF.out _ HCH.out).mono ?_;rintro e w3 ⟨rfl,hb3⟩) | (go_at_call 88;refine (HG.out _).mono ?_;rintro e w4 ⟨rfl,hb4⟩))
   refine ⟨⟨k+1,by omega,by go_num,?_,?_⟩,by simp [intOf];omega⟩
   ·rw [HST.out]
   ·exact HBL.out.trans ((hb3.trans (hb4.mono hb3.size)).mono HBL.out.size)
  ·have hkl:k=bss.length:=by omega
   subst hkl
   go_wp2
   go_ret
   exact ⟨by simp,HBW.out.trans (hbel.mono HBW.out.size)⟩
set_option maxHeartbeats 16000000 in
theorem room_i (a:Option Addr) (rs:List Pr) (c:Nat) (n:Int) (w:World) (h:Prs w a rs) (hc0:rs.length<=c) (hl:rs.length<=1048576) (hs:∀ x∈rs,x.1.size<=1048576/\x.2.size<=1048576) :
  Calls Tryz.prog 113 #[.agg #[.slice a rs.length c],.int .i64 n] w fun e w'=>e=.returned (.int .i64 (roomOf (snapOf rs) n))/\Below w.heap.size w w':=by
 have hb0:Below w.heap.size w (w.alloc (.cells #[.slice a rs.length c] 39)):=(Below.refl _ _).alloc (Nat.le_refl _) _
 have hv:=snap_i a rs c (w.alloc (.cells #[.slice a rs.length c] 39)) (h.below hb0) hc0 hl hs
 have HV:=hid hv
 have HB0:=hid hb0
 clear hv hb0
 obtain ⟨bss,hbss⟩:∃ bss,bss=snapOf rs:=⟨_,rfl⟩
 have hbl:=snapOf_len rs
 have HMB:Hid (∀ b∈bss,b.length<=1048576/\∀ x∈b,x.1.size<=1048576/\x.2.1.size<=1048576):=by
  intro b hb
  rw [hbss] at hb
  obtain ⟨h1,h2⟩:=snapOf_mem hb
  exact ⟨by omega,fun x hx=>hs _ (h2 x hx)⟩
 rw [<-hbss] at HV hbl ⊢
 clear hbss
 go_enter Tryz.func113,Tryz.ntmps113
 go_wp2_with (go_at_call 118;refine HV.out.mono ?_;rintro e w2 ⟨v,rfl,hbat,hb2⟩;obtain ⟨va,vc,rfl,hbt⟩:=hbat.bts)
 have HBT:=hid hbt
 have HBW:=hid (HB0.out.trans (hb2.mono HB0.out.size))
 clear hbat hb2 hbt HV HB0
 go_loopw [5,11] (fun y i wr=>∃ k:Nat,k<=bss.length/\i=.int .i64 (k:Int)/\y=.int .i64 (roomOf (bss.take k) n)/\Below w2.heap.size w2 wr) (fun _ i _=>bss.length-(intOf i).toNat)
 case atStart=>exact ⟨0,Nat.zero_le _,rfl,rfl,Below.refl _ _⟩
 case round =>
  obtain ⟨k,hk,rfl,rfl,hbel⟩:=hrel
  by_cases hlt:k<bss.length
  ·obtain ⟨g,p,cc,rfl,hg,hc,hch⟩:=(HBT.out.below hbel).at hlt
   have hlt':(k:Int)<(bss.length:Int):=by omega
   have hk0:(0:Int)<=(k:Int):=by omega
   have hmem:=HMB.out (bss.getD k []) (by simp [List.getD,hlt])
   have HST:=hid (roomOf_snoc (bss.take k) (bss.getD k []) n)
   rw [<-takeR_snoc bss k [] hlt] at HST
   have hR:=roomOf_bound (bss.take k) n
   have hRl:(bss.take k).length<=5:=by rw [List.length_take];omega
   have hP:=npages_bound (bOut (bss.getD k [])).size n
   have hO:=bOut_bound (bss.getD k [])
   obtain ⟨b,hb⟩:∃ b,b=bss.getD k []:=⟨_,rfl⟩
   rw [<-hb] at hc hch hmem HST hP hO
   obtain ⟨r,hr⟩:∃ r,r=roomOf (bss.take k) n:=⟨_,rfl⟩
   rw [<-hr] at HST hR ⊢
   have HF:=hid (fun W (hW:Chs W p b)=>formbatch_i p b cc W hW hmem.1 hmem.2)
   have HG:=hid (fun W=>pages_i (bOut b) n W (by omega))
   have HCH:=hid hch
   have HBL:=hid hbel
   obtain ⟨q,hq⟩:∃ q,q=npages (bOut b).size n:=⟨_,rfl⟩
   rw [<-hq] at HG hP HST
   obtain ⟨bo,hbo⟩:∃ bo,bo=bOut b:=⟨_,rfl⟩
   rw [<-hbo] at HF HG hP hO
   have hw0:IntKind.i64.wrap (r+q)=r+q:=by simp [IntKind.wrap,IntKind.bits,IntKind.signed];omega
   clear hb hr hq hbo hmem hch hbel
   go_wp2_with (first | (go_at_call 143;refine (HF.out _ HCH.out).mono ?_;rintro e w3 ⟨rfl,hb3⟩) | (go_at_call 142;refine (HG.out _).mono ?_;rintro e w4 ⟨rfl,hb4⟩))
   refine ⟨⟨k+1,by omega,by go_num,?_,?_⟩,by simp [intOf];omega⟩
   ·rw [HST.out]
   ·exact HBL.out.trans ((hb3.trans (hb4.mono hb3.size)).mono HBL.out.size)
  ·have hkl:k=bss.length:=by omega
   subst hkl
   go_wp2
   go_ret
   exact ⟨by simp,HBW.out.trans (hbel.mono HBW.out.size)⟩
end Go.Proofs.YtcoegjnjjdndjaaGreatDoor
