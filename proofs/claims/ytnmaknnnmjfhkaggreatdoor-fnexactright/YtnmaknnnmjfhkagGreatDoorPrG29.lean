import Derived.Test.YtnmaknnnmjfhkagGreatDoorPrG42
import Derived.Test.YtnmaknnnmjfhkagGreatDoorPrG28
import Derived.Test.YtnmaknnnmjfhkagGreatDoorPrG40
import Derived.Test.YtnmaknnnmjfhkagGreatDoorPrFnA
import Derived.Test.YtnmaknnnmjfhkagGreatDoorPrG43
import Derived.Test.YtnmaknnnmjfhkagGreatDoorPrG35
import Derived.WalkLawsBesides
import Derived.Test.YtnmaknnnmjfhkagGreatDoorPrG32
import Derived.Test.YtnmaknnnmjfhkagGreatDoorPrG45
import Derived.Test.YtnmaknnnmjfhkagGreatDoorPrG46
import Derived.Test.YtnmaknnnmjfhkagGreatDoorPrG41
import Derived.Test.YtnmaknnnmjfhkagGreatDoorPrApU
import Derived.RangeFuncNested
import Derived.RangeFuncBound
import Derived.RangeFuncCalls
import Derived.RangeFuncLeaves
import Derived.RangeFuncBox
import Derived.Shelf.Abstract
import Derived.Shelf.RegionOpenV
import Derived.WalkKit
import Derived.OwnWalkIn
import Derived.TacticsInMore
import Derived.LoopNIn
import Derived.LoopIn
import Derived.Sort.QuietIn
import Derived.Maps.AppendAt
import Derived.Maps.OwnIn
import Derived.Shelf.Strings.BuilderK
import Derived.Test.YtnmaknnnmjfhkagGreatDoorPrShf
set_option maxHeartbeats 16000000
set_option maxRecDepth 8000
set_option linter.unusedVariables false
set_option linter.unusedSimpArgs false
namespace Go.Proofs.YtnmaknnnmjfhkagGreatDoor
open Go.RowKit
abbrev scOk (ss:List ByteArray) (ws:List (Int×ByteArray)) (frm size n:Int):Prop:=diskOk ss ws=true/\(1<=n/\n<=8)/\0<=frm/\0<=size/\frm<=(ss.length:Int)/\size<=(ss.length:Int)-frm
def scD (ss:List ByteArray) (ws:List (Int×ByteArray)) (frm size first life n:Int):Scd :=
 if scOk ss ws frm size n then scanP (fun k=>(syncs ws ss).getD k ByteArray.empty) frm.toNat first n size.toNat 0 0 life ByteArray.empty ([],0,life) else ([],0,0)
def ScPost (w w':World) (e:Ending) (x:Scd):Prop:=∃ y,e=.returned (.agg #[y,.int .i64 x.2.1,.int .i64 x.2.2])/\w'.ownsRow w.heap.size 9 1 y x.1.length (x.1.map Value.string)/\Below w.heap.size w w'
structure ScB (w0 w:World) (RB G XB OT WS:Nat) (S:List Value) (cx:Nat) (xp:Value) (y:Value) (ents:List ByteArray) (u l wk wl wm:Int) (wp:ByteArray):Prop where
 rb:Row w RB [.slice none 0 0,.int .i64 0,.int .i64 0]
 sec:Row w G S
 xb:Row w XB [.slice (some ⟨G,0,none⟩) S.length cx,xp]
 ot:Row w OT [y,.int .i64 u,.int .i64 l]
 ws:Row w WS [.int .i64 wk,.int .i64 wl,.int .i64 wm,.string wp]
 own:w.ownsRow w0.heap.size 9 1 y ents.length (ents.map Value.string)
 o1:w0.heap.size<=RB
 o2:RB<G
 o3:G<XB
 o4:XB<OT
 o5:OT<WS
 yo:∀ k,y.ownBlock=some k->WS<k
 be:Below w0.heap.size w0 w
section
variable {w0 w w':World} {RB G XB OT WS:Nat} {S:List Value} {cx:Nat} {xp:Value} {y:Value} {ents:List ByteArray} {u l wk wl wm:Int} {wp:ByteArray}
theorem ScB.below (h:ScB w0 w RB G XB OT WS S cx xp y ents u l wk wl wm wp) (hb:Below w.heap.size w w'):ScB w0 w' RB G XB OT WS S cx xp y ents u l wk wl wm wp :=
 ⟨h.rb.below hb,h.sec.below hb,h.xb.below hb,h.ot.below hb,h.ws.below hb,owns_below h.own hb,h.o1,h.o2,h.o3,h.o4,h.o5,h.yo,h.be.trans (hb.mono h.be.size)⟩
theorem ScB.own_ne (h:ScB w0 w RB G XB OT WS S cx xp y ents u l wk wl wm wp) {k:Nat} (hk:k<=WS):y.ownBlock≠some k:=fun e=>by have:=h.yo k e;omega
theorem ScB.setWas (h:ScB w0 w RB G XB OT WS S cx xp y ents u l wk wl wm wp) (k' l' m':Int) (p':ByteArray) :
  ScB w0 ((((w.setCell ⟨WS,0,none⟩ (.int .i64 k')).setCell ⟨WS,1,none⟩ (.int .i64 l')).setCell ⟨WS,2,none⟩ (.int .i64 m')).setCell ⟨WS,3,none⟩ (.string p')) RB G XB OT WS S cx xp y ents u l k' l' m' p':=by
 have o1:=h.o1;have o2:=h.o2;have o3:=h.o3;have o4:=h.o4;have o5:=h.o5
 have far:∀ {g:Nat} {cs:List Value},g≠WS->Row w g cs->Row ((((w.setCell ⟨WS,0,none⟩ (.int .i64 k')).setCell ⟨WS,1,none⟩ (.int .i64 l')).setCell ⟨WS,2,none⟩ (.int .i64 m')).setCell ⟨WS,3,none⟩ (.string p')) g cs:=fun hg hr =>
  (((hr.other _ (Ne.symm hg) _).other _ (Ne.symm hg) _).other _ (Ne.symm hg) _).other _ (Ne.symm hg) _
 have hy:=h.own_ne (Nat.le_refl WS)
 have bs:∀ {x:World},Below w0.heap.size w0 x->∀ i v,Below w0.heap.size w0 (x.setCell ⟨WS,i,none⟩ v):=fun hx i v=>hx.setCell (by show w0.heap.size<=WS;omega) _
 exact ⟨far (by omega) h.rb,far (by omega) h.sec,far (by omega) h.xb,far (by omega) h.ot,(((h.ws.set 0 (by simp) _).set 1 (by simp) _).set 2 (by simp) _).set 3 (by simp) _,
  ownsRow_setCell_other (ownsRow_setCell_other (ownsRow_setCell_other (ownsRow_setCell_other h.own hy _) hy _) hy _) hy _,o1,o2,o3,o4,o5,h.yo,bs (bs (bs (bs h.be _ _) _ _) _ _) _ _⟩
theorem ScB.setEnd (h:ScB w0 w RB G XB OT WS S cx xp y ents u l wk wl wm wp) (u' l':Int) :
  ScB w0 ((w.setCell ⟨OT,1,none⟩ (.int .i64 u')).setCell ⟨OT,2,none⟩ (.int .i64 l')) RB G XB OT WS S cx xp y ents u' l' wk wl wm wp:=by
 have o1:=h.o1;have o2:=h.o2;have o3:=h.o3;have o4:=h.o4;have o5:=h.o5
 have far:∀ {g:Nat} {cs:List Value},g≠OT->Row w g cs->Row ((w.setCell ⟨OT,1,none⟩ (.int .i64 u')).setCell ⟨OT,2,none⟩ (.int .i64 l')) g cs:=fun hg hr=>(hr.other _ (Ne.symm hg) _).other _ (Ne.symm hg) _
 have hy:=h.own_ne (k:=OT) (by omega)
 have bs:∀ {x:World},Below w0.heap.size w0 x->∀ i v,Below w0.heap.size w0 (x.setCell ⟨OT,i,none⟩ v):=fun hx i v=>hx.setCell (by show w0.heap.size<=OT;omega) _
 exact ⟨far (by omega) h.rb,far (by omega) h.sec,far (by omega) h.xb,(h.ot.set 1 (by simp) _).set 2 (by simp) _,far (by omega) h.ws,
  ownsRow_setCell_other (ownsRow_setCell_other h.own hy _) hy _,o1,o2,o3,o4,o5,h.yo,bs (bs h.be _ _) _ _⟩
theorem ScB.push (h:ScB w0 w RB G XB OT WS S cx xp y ents u l wk wl wm wp) {y':Value} {ents':List ByteArray} {H:Nat} (hown:w'.ownsRow w0.heap.size 9 1 y' ents'.length (ents'.map Value.string)) (hg:w.grownBy w' y.ownBlock) (hat:y.ownBlock=y'.ownBlock\/y'.ownBlock=some H) (hH:w.heap.size<=H) :
  ScB w0 (w'.setCell ⟨OT,0,none⟩ y') RB G XB OT WS S cx xp y' ents' u l wk wl wm wp:=by
 have o1:=h.o1;have o2:=h.o2;have o3:=h.o3;have o4:=h.o4;have o5:=h.o5
 have lW:=h.ws.lt
 have yo':∀ k,y'.ownBlock=some k->WS<k:=fun k hk=>by
  rcases hat with e | e
  ·exact h.yo k (e.trans hk)
  ·rw [e] at hk;cases hk;omega
 have gr:∀ {g:Nat} {cs:List Value},g<=WS->Row w g cs->Row w' g cs:=fun hle hr=>hr.grown hg (fun e=>h.own_ne hle e.symm)
 have far:∀ {g:Nat} {cs:List Value},g≠OT->Row w' g cs->Row (w'.setCell ⟨OT,0,none⟩ y') g cs:=fun hg hr=>hr.other _ (Ne.symm hg) _
 have hy':y'.ownBlock≠some OT:=fun e=>by have:=yo' OT e;omega
 have be':Below w0.heap.size w0 w':=h.be.trans (grown_below hg h.be.size (fun g e=>(h.own.lt g e).1))
 exact ⟨far (by omega) (gr (by omega) h.rb),far (by omega) (gr (by omega) h.sec),far (by omega) (gr (by omega) h.xb),(gr (by omega) h.ot).set 0 (by simp) _,far (by omega) (gr (Nat.le_refl _) h.ws),
  ownsRow_setCell_other hown hy' _,o1,o2,o3,o4,o5,yo',be'.setCell (by show w0.heap.size<=OT;omega) _⟩
end
set_option maxHeartbeats 16000000 in
theorem goes_s (wk wl wm:Int) (wp:ByteArray) (k l m:Int) (p:ByteArray) (w:World):Calls Tryz.prog 140 #[pageV wk wl wm wp,pageV k l m p] w fun e w'=>e=.returned (.bool (goesP wk wl k l))/\Below w.heap.size w w':=by
 have hb2:∀ o1 o2,Below w.heap.size w ((w.alloc o1).alloc o2):=fun o1 o2=>((Below.refl _ _).alloc (Nat.le_refl _) _).alloc (by simp) _
 obtain ⟨B,hB⟩:∃ B,goesP wk wl k l=B:=⟨_,rfl⟩
 have HB:=hid hB
 rw [hB]
 clear hB
 by_cases h1:l<wl
 ·have e:B=false:=by rw [<-HB.out];unfold goesP;simp;omega
  subst e
  clear HB
  go_enter Tryz.func140,Tryz.ntmps140
  go_wp2
  go_ret
  exact ⟨rfl,hb2 _ _⟩
 ·by_cases h3:k=3
  ·subst h3
   by_cases hw:wk=1
   ·have e:B=false:=by rw [<-HB.out];unfold goesP;simp [hw]
    subst e
    clear HB
    go_enter Tryz.func140,Tryz.ntmps140
    go_wp2
    go_ret
    exact ⟨rfl,hb2 _ _⟩
   ·have e:B=true:=by rw [<-HB.out];unfold goesP;simp [hw];omega
    have hwb:(wk != 1)=true:=by simp [hw]
    subst e
    clear HB
    go_enter Tryz.func140,Tryz.ntmps140
    go_wp2
    go_ret
    exact ⟨rfl,hb2 _ _⟩
  ·by_cases h12:k=1\/k=2
   ·by_cases hw:wk=1
    ·by_cases hl:wl=l
     ·have e:B=true:=by rw [<-HB.out];unfold goesP;rcases h12 with rfl | rfl<;>simp [hw,hl]
      subst e
      clear HB
      rcases h12 with rfl | rfl<;>(go_enter Tryz.func140,Tryz.ntmps140;go_wp2;go_ret;exact ⟨rfl,hb2 _ _⟩)
     ·have e:B=false:=by rw [<-HB.out];unfold goesP;rcases h12 with rfl | rfl<;>simp [hw,hl]
      have hlb:(wl == l)=false:=by simp [hl]
      subst e
      clear HB
      rcases h12 with rfl | rfl<;>(go_enter Tryz.func140,Tryz.ntmps140;go_wp2;go_ret;exact ⟨rfl,hb2 _ _⟩)
    ·have e:B=true:=by rw [<-HB.out];unfold goesP;rcases h12 with rfl | rfl<;>simp [hw]<;>omega
     have hwb:(wk != 1)=true:=by simp [hw]
     subst e
     clear HB
     rcases h12 with rfl | rfl<;>(go_enter Tryz.func140,Tryz.ntmps140;go_wp2;go_ret;exact ⟨rfl,hb2 _ _⟩)
   ·have hk1:¬ k=1:=fun e=>h12 (.inl e)
    have hk2:¬ k=2:=fun e=>h12 (.inr e)
    have e:B=false:=by rw [<-HB.out];unfold goesP;simp [h3,hk1,hk2]
    subst e
    clear HB h12
    go_enter Tryz.func140,Tryz.ntmps140
    go_wp2
    go_ret
    exact ⟨rfl,hb2 _ _⟩
end Go.Proofs.YtnmaknnnmjfhkagGreatDoor
namespace Go.Proofs.YtnmaknnnmjfhkagGreatDoor
open Go.RowKit
set_option maxHeartbeats 16000000
theorem info_strT:(Tryz.prog.info? 9).map (fun i=>(i.zero,i.size,i.bytes))=some (some (.string ByteArray.empty),1,16):=by kernel_rfl
theorem info_partsT {P:Program} {e:TypeId} {z:Value} {size bytes:Nat} (h:(P.info? e).map (fun i=>(i.zero,i.size,i.bytes))=some (some z,size,bytes)):∃ i,P.info? e=some i/\i.zero=some z/\i.size=size/\i.bytes=bytes:=by
 obtain ⟨i,hi,hh⟩:=Option.map_eq_some_iff.1 h
 simp only [Prod.mk.injEq] at hh
 exact ⟨i,hi,hh⟩
theorem news_atT (w:World) (cs:Array Value) (t:TypeId):∀ j u,cs.toList[j]?=some u->(w.alloc (.cells cs t)).cell? ((⟨w.heap.size,0,none⟩:Addr).add j)=some u:=World.news_of_block (heap_alloc_new w (.cells cs t))
theorem oneST (k:ByteArray):∀ u∈[Value.string k],u.oneCell'=true:=by
 intro u hu
 simp only [List.mem_cons,List.not_mem_nil,or_false] at hu
 subst hu
 rfl
def TkPost (N FB:Nat) (y:Value) (w:World) (ents':List ByteArray) (u' l':Int) (w':World):Prop :=
 ∃ y',Row w' FB [y',.int .i64 u',.int .i64 l']/\w'.ownsRow N 9 1 y' ents'.length (ents'.map Value.string)/\(y'.ownBlock=y.ownBlock\/∃ H,y'.ownBlock=some H/\w.heap.size<=H)/\Below N w w'/\(∀ b,b<w.heap.size->b≠FB->some b≠y.ownBlock->w'.heap[b]?=w.heap[b]?)
theorem stake_i (N FB:Nat) (y:Value) (ents:List ByteArray) (u0 l0 k l m:Int) (p entry:ByteArray) (x:Nat) (w:World)
  (hr:Row w FB [y,.int .i64 u0,.int .i64 l0]) (ho:w.ownsRow N 9 1 y ents.length (ents.map Value.string)) (hNF:N<=FB) (hNw:N<=w.heap.size) (hne:y.ownBlock≠some FB) (hx:x<=200) (hel:ents.length<=300) :
  Calls Tryz.prog 156 #[.pointer (some ⟨FB,0,none⟩),pageV k l m p,.int .i64 (x:Int),.string entry] w fun e w'=>e=.returned (.tuple #[])/\TkPost N FB y w (if k=2 then ents++[entry] else ents) ((x:Int)+1) l w':=by
 have hx1:IntKind.i64.wrap ((x:Int)+1)=(x:Int)+1:=by simp [IntKind.wrap,IntKind.bits,IntKind.signed];omega
 obtain ⟨i0,hi0,hz0,hz1,hz2⟩:=info_partsT info_strT
 have HI:=hid (And.intro hi0 (And.intro hz0 (And.intro hz1 hz2)))
 clear hi0 hz0 hz1 hz2
 obtain ⟨ya,yc,rfl⟩:∃ ya yc,y=.slice ya ents.length yc:=by
  rcases owns_forms ho with ⟨h1,h2⟩ | ⟨gg,cap,h1,_⟩
  ·exact ⟨none,0,by rw [h1,h2]⟩
  ·exact ⟨_,cap,h1⟩
 have c0:=hr.cell 0 _ rfl
 have c1:=hr.cell 1 _ rfl
 have c2:=hr.cell 2 _ rfl
 have f0:=hr.froz 0 (by simp)
 have f1:=hr.froz 1 (by simp)
 have f2:=hr.froz 2 (by simp)
 have hl:=hr.lt
 have hnl:¬ FB=w.heap.size:=by omega
 have HR:=hid (((hr.set 1 (by simp) (.int .i64 ((x:Int)+1))).set 2 (by simp) (.int .i64 l)).alloc (.cells #[.int .i64 k,.int .i64 l,.int .i64 m,.string p] 108))
 have HO:=hid ((ownsRow_setCell_other (ownsRow_setCell_other ho hne (a:=⟨FB,1,none⟩) (.int .i64 ((x:Int)+1))) hne (a:=⟨FB,2,none⟩) (.int .i64 l)).alloc (.cells #[.int .i64 k,.int .i64 l,.int .i64 m,.string p] 108))
 have HB:=hid ((((Below.refl N w).setCell (p:=⟨FB,1,none⟩) hNF (.int .i64 ((x:Int)+1))).setCell (p:=⟨FB,2,none⟩) hNF (.int .i64 l)).alloc (by simpa using hNw) (.cells #[.int .i64 k,.int .i64 l,.int .i64 m,.string p] 108))
 have HG:Hid (∀ b,b<w.heap.size->b≠FB->(((w.setCell ⟨FB,1,none⟩ (.int .i64 ((x:Int)+1))).setCell ⟨FB,2,none⟩ (.int .i64 l)).alloc (.cells #[.int .i64 k,.int .i64 l,.int .i64 m,.string p] 108)).heap[b]?=w.heap[b]?):=fun b hb hbn=>by
  rw [heap_alloc_old _ _ (by simpa using hb),Below.heap_setCell _ _ _ _ hbn,Below.heap_setCell _ _ _ _ hbn]
 by_cases hk:k=2
 ·subst hk
  rw [if_pos rfl]
  go_enter Tryz.func156,Tryz.ntmps156
  go_wp2_with (first | (at_builtin;refine wpList_append_lies _ rfl _ _ 22 rfl N 9 i0 (.string ByteArray.empty) 1 16 Tryz.underlying22 HI.out.1 HI.out.2.1 HI.out.2.2.1 HI.out.2.2.2 rfl (by omega) _ ents.length _ rfl (HO.out.alloc _) ⟨w.heap.size+1,0,none⟩ 1 1 [.string entry] rfl rfl (by intro j z hj;have:=news_atT (((w.setCell ⟨FB,1,none⟩ (.int .i64 ((x:Int)+1))).setCell ⟨FB,2,none⟩ (.int .i64 l)).alloc (.cells #[.int .i64 2,.int .i64 l,.int .i64 m,.string p] 108)) #[.string entry] 9 j z hj;simpa using this) (oneST _) (by omega) (by unfold maxLen;omega) (by omega) (by simp;omega) (w.heap.size+1+1) (by simp) ?_;intro gn cap w10 hown10 hgrow10 hat10 hlt10;have rF:=(HR.out.alloc (.cells #[.string entry] 9)).grown hgrow10 (fun e=>hne e.symm);have d0:=rF.cell 0 _ rfl;have e0:=rF.froz 0 (by simp);have dl:=rF.lt;have HRF:=hid rF;have HGR:=hid hgrow10;have HOW:=hid hown10;have HAT:=hid hat10;clear rF hgrow10 hown10 hat10))
  go_end0
  have hyb:∀ z,(Value.slice ya ents.length yc).ownBlock=some z->N<=z/\z<w.heap.size:=fun z hz=>ho.lt z hz
  have hby:¬ gn=FB:=fun e=>by
   rcases HAT.out with h | h
   ·exact hne (h.trans (by rw [e]))
   ·omega
  refine ⟨rfl,.slice (some ⟨gn,0,none⟩) (ents.length+1) cap,HRF.out.set 0 (by simp) _,?_,?_,?_,fun b hb hbn hbo=>?_⟩
  ·rw [List.length_append,List.map_append]
   exact ownsRow_setCell_other HOW.out (by simpa [Value.ownBlock] using hby) _
  ·rcases HAT.out with h | h
   ·exact .inl h.symm
   ·exact .inr ⟨gn,rfl,by omega⟩
  ·exact (((HB.out.alloc (Nat.le_trans hNw HB.out.size) _).trans (grown_below HGR.out (Nat.le_trans hNw (by simp<;>omega)) (fun z hz=>(hyb z hz).1))).setCell hNF _)
  ·rw [Below.heap_setCell _ _ _ _ hbn,HGR.out.block b (by simp;omega) hbo,heap_alloc_old _ _ (by simp;omega)]
   exact HG.out b hb hbn
 ·rw [if_neg hk]
  have hkb:(k == 2)=false:=by simp [hk]
  go_enter Tryz.func156,Tryz.ntmps156
  go_wp2
  go_end0
  exact ⟨rfl,_,HR.out,HO.out,.inl rfl,HB.out,fun b hb hbn _=>HG.out b hb hbn⟩
end Go.Proofs.YtnmaknnnmjfhkagGreatDoor
namespace Go.Proofs.YtnmaknnnmjfhkagGreatDoor
open Go.RowKit
def foldE:List ByteArray->List Pr->Option (List Pr)
 | [],rs=>some rs
 | e::es,rs=>match resS e with
  | none=>none
  | some b=>if apC rs b=0 then foldE es (apU rs b) else none
theorem foldE_ok:∀ (es:List ByteArray) (rs:List Pr),stateOk rs=true->∀ r,foldE es rs=some r->stateOk r=true
 | [],rs,h,r,hr=>by cases hr;exact h
 | e::es,rs,h,r,hr=>by
  rw [foldE] at hr
  split at hr
  ·cases hr
  ·split at hr
   ·rename_i hc
    exact foldE_ok es _ (apU_ok hc) r hr
   ·cases hr
theorem foldE_none {e:ByteArray} {es:List ByteArray} {rs:List Pr} (h:resS e=none):foldE (e::es) rs=none:=by rw [foldE,h]
theorem foldE_no {e:ByteArray} {es:List ByteArray} {rs:List Pr} {b:List Ch} (h:resS e=some b) (hc:apC rs b≠0):foldE (e::es) rs=none:=by rw [foldE,h];simp only;rw [if_neg hc]
theorem foldE_yes {e:ByteArray} {es:List ByteArray} {rs:List Pr} {b:List Ch} (h:resS e=some b) (hc:apC rs b=0):foldE (e::es) rs=foldE es (apU rs b):=by rw [foldE,h];simp only;rw [if_pos hc]
theorem stateOk_nil:stateOk []=true:=by decide
theorem stateOk_sizes {rs:List Pr} (h:stateOk rs=true):rs.length<=100/\∀ x∈rs,x.1.size<=1048576/\x.2.size<=1048576:=by
 obtain ⟨h1,h2,h3⟩:=(stateOk_iff rs).1 h
 refine ⟨h1,fun x hx=>?_⟩
 obtain ⟨k1,k2⟩:=h2 x hx
 unfold kOk at k1
 unfold vOk at k2
 simp at k1 k2
 omega
theorem batchOk_sizes {b:List Ch} (h:batchOk b=true):b.length<=20/\∀ x∈b,x.1.size<=1048576/\x.2.1.size<=1048576:=by
 obtain ⟨h1,h2⟩:=batchOk_of h
 refine ⟨by omega,fun x hx=>?_⟩
 obtain ⟨k1,k2⟩:=chOk_parts (h2 x hx)
 unfold kOk at k1
 unfold vOk at k2
 simp at k1 k2
 omega
def rtGood (x:RtT):Prop:=(0<=x.1/\x.1<=1000000000)/\(0<=x.2.1/\x.2.1<=1)/\(1<=x.2.2.1/\x.2.2.1<=999999000)/\(0<=x.2.2.2/\x.2.2.2<=60000)
theorem rootOf_good {s:ByteArray} {a n:Int} {x:RtT} (h:rootOf s a n=some x):rtGood x:=by
 unfold rootOf at h
 split at h
 ·cases h
 ·rename_i k l m p hp
  have hr:=rpRes_some hp
  split at h
  ·rename_i hh
   cases h
   obtain ⟨h1,h2,h3⟩:=hh
   have hf:rtOk (ptH p) (ptF p):=by
    by_cases e:rtOk (ptH p) (ptF p)
    ·exact e
    ·exfalso
     unfold rtForm at h2
     rw [if_neg e] at h2
     have h64:=hr.1
     rw [<-h2] at h64
     exact absurd h64 (by decide)
   unfold rtOk at hf
   unfold rtGood
   simp only
   omega
  ·cases h
theorem rtMax_good {b:RtT} {o:Option RtT} (hb:rtGood b) (ho:∀ x,o=some x->rtGood x):rtGood (rtMax b o):=by
 unfold rtMax
 split
 ·exact hb
 ·rename_i r
  split
  ·exact ho _ rfl
  ·exact hb
theorem frOf_good (s0 s1:ByteArray) (n:Int):rtGood (frOf s0 s1 n):=by
 unfold frOf
 exact rtMax_good (rtMax_good (by unfold rtGood;simp) (fun x hx=>rootOf_good hx)) (fun x hx=>rootOf_good hx)
theorem frD_good {ss:List ByteArray} {ws:List (Int×ByteArray)} {n:Int} (h:diskOk ss ws=true/\1<=n/\n<=8):rtGood (frD ss ws n):=by
 unfold frD
 rw [if_pos h]
 exact frOf_good _ _ _
def opX (ss:List ByteArray) (ws:List (Int×ByteArray)) (n:Int):Scd:=scD ss ws (2+(frD ss ws n).2.1*hv ss.length) (hv ss.length) (frD ss ws n).2.2.1 (frD ss ws n).2.2.2 n
theorem hv_half {S:Int} (h:8<=S/\S<=200):2+2*hv S<=S:=by unfold hv;rw [if_pos h];omega
theorem half_mul {H q:Int} (h:0<=H/\H<=1) (hq:0<=q):0<=H*q/\H*q<=q:=by
 have:H=0\/H=1:=by omega
 rcases this with rfl | rfl<;>omega
theorem opX_ok {ss:List ByteArray} {ws:List (Int×ByteArray)} {n:Int} (h:diskOk ss ws=true/\1<=n/\n<=8):scOk ss ws (2+(frD ss ws n).2.1*hv ss.length) (hv ss.length) n:=by
 have hg:=frD_good h
 obtain ⟨⟨hn1,hn2,hn3⟩,h64,hw⟩:=diskOk_of h.1
 have h1:=hv_yes (S:=(ss.length:Int)) (by omega)
 have h2:=hv_half (S:=(ss.length:Int)) (by omega)
 have h3:=half_mul hg.2.1 (q:=hv ss.length) (by omega)
 exact ⟨h.1,h.2,by omega,by omega,by omega,by omega⟩
theorem opX_rng {ss:List ByteArray} {ws:List (Int×ByteArray)} {n:Int} (h:diskOk ss ws=true/\1<=n/\n<=8):(0<=(opX ss ws n).2.1/\(opX ss ws n).2.1<=hv ss.length)/\(0<=(opX ss ws n).2.2/\(opX ss ws n).2.2<=60000)/\(opX ss ws n).1.length<=99/\∀ e∈(opX ss ws n).1,e.size<=6336:=by
 have hg:=frD_good h
 have hok:=opX_ok h
 obtain ⟨⟨hn1,hn2,hn3⟩,h64,hw⟩:=diskOk_of h.1
 have h1:=hv_yes (S:=(ss.length:Int)) (by omega)
 unfold opX scD
 rw [if_pos hok]
 obtain ⟨q,hq⟩:∃ q:Nat,hv ss.length=(q:Int):=⟨(hv ss.length).toNat,by omega⟩
 rw [hq] at h1 ⊢
 simp only [Int.toNat_natCast]
 have u1:=scanP_used (fun k=>(syncs ws ss).getD k ByteArray.empty) (2+(frD ss ws n).2.1*(q:Int)).toNat (frD ss ws n).2.2.1 n q 0 0 (frD ss ws n).2.2.2 ByteArray.empty ([],0,(frD ss ws n).2.2.2) (by simp)
 have u2:=scanP_life (fun k=>(syncs ws ss).getD k ByteArray.empty) (2+(frD ss ws n).2.1*(q:Int)).toNat (frD ss ws n).2.2.1 n q 0 0 (frD ss ws n).2.2.2 ByteArray.empty ([],0,(frD ss ws n).2.2.2)
 have u3:=scanP_size (fun k=>(syncs ws ss).getD k ByteArray.empty) (2+(frD ss ws n).2.1*(q:Int)).toNat (frD ss ws n).2.2.1 n q 0 0 (frD ss ws n).2.2.2 ByteArray.empty ([],0,(frD ss ws n).2.2.2) 6336 (by show 0+64*q<=6336;omega) (by intro e he;cases he)
 simp only [List.length_nil] at u3
 refine ⟨by omega,?_,by omega,u3.1⟩
 have:=hg.2.2.2
 rcases u2 with u2 | u2
 ·rw [u2];exact this
 ·omega
def openD (ss:List ByteArray) (ws:List (Int×ByteArray)) (n:Int):Dd :=
 if diskOk ss ws=true/\1<=n/\n<=8 then
  match foldE (opX ss ws n).1 [] with
  | none=>noD 2
  | some rs =>
   if 60000<(opX ss ws n).2.2+1 then noD 3
   else if hv ss.length-1<roomOf (snapOf rs) n then noD 4
   else if hv ss.length<=(opX ss ws n).2.1 then moveD n ss.length ((opX ss ws n).2.2+1) (frD ss ws n).1 (frD ss ws n).2.1 (frD ss ws n).2.2.1 rs
   else ⟨0,n,ss.length,(opX ss ws n).2.2+1,(frD ss ws n).1,(frD ss ws n).2.1,(frD ss ws n).2.2.1,(frD ss ws n).2.2.2,(opX ss ws n).2.1+1,0,rs,
    [(false,2+(frD ss ws n).2.1*hv ss.length+(opX ss ws n).2.1,formOf 3 ((opX ss ws n).2.2+1) ((frD ss ws n).2.2.1+(opX ss ws n).2.1) ByteArray.empty n),(true,0,ByteArray.empty)]⟩
 else noD 1
section
variable {ss:List ByteArray} {ws:List (Int×ByteArray)} {n T H F R U L:Int} {es:List ByteArray} {rs:List Pr}
theorem openD_1 (h:¬ (diskOk ss ws=true/\1<=n/\n<=8)):openD ss ws n=noD 1:=by unfold openD;rw [if_neg h]
theorem openD_2 (h:diskOk ss ws=true/\1<=n/\n<=8) (h2:opX ss ws n=(es,U,L)) (h3:foldE es []=none):openD ss ws n=noD 2:=by
 unfold openD;rw [if_pos h,h2];simp only;rw [h3]
theorem openD_3 (h:diskOk ss ws=true/\1<=n/\n<=8) (h2:opX ss ws n=(es,U,L)) (h3:foldE es []=some rs) (h4:60000<L+1):openD ss ws n=noD 3:=by
 unfold openD;rw [if_pos h,h2];simp only;rw [h3];simp only;rw [if_pos h4]
theorem openD_4 (h:diskOk ss ws=true/\1<=n/\n<=8) (h2:opX ss ws n=(es,U,L)) (h3:foldE es []=some rs) (h4:¬ 60000<L+1) (h5:hv ss.length-1<roomOf (snapOf rs) n):openD ss ws n=noD 4:=by
 unfold openD;rw [if_pos h,h2];simp only;rw [h3];simp only;rw [if_neg h4,if_pos h5]
theorem openD_5 (h:diskOk ss ws=true/\1<=n/\n<=8) (h1:frD ss ws n=(T,H,F,R)) (h2:opX ss ws n=(es,U,L)) (h3:foldE es []=some rs) (h4:¬ 60000<L+1) (h5:¬ hv ss.length-1<roomOf (snapOf rs) n) (h6:hv ss.length<=U):openD ss ws n=moveD n ss.length (L+1) T H F rs:=by
 unfold openD;rw [if_pos h,h2,h1];simp only;rw [h3];simp only;rw [if_neg h4,if_neg h5,if_pos h6]
theorem openD_6 (h:diskOk ss ws=true/\1<=n/\n<=8) (h1:frD ss ws n=(T,H,F,R)) (h2:opX ss ws n=(es,U,L)) (h3:foldE es []=some rs) (h4:¬ 60000<L+1) (h5:¬ hv ss.length-1<roomOf (snapOf rs) n) (h6:¬ hv ss.length<=U) :
  openD ss ws n=⟨0,n,ss.length,L+1,T,H,F,R,U+1,0,rs,[(false,2+H*hv ss.length+U,formOf 3 (L+1) (F+U) ByteArray.empty n),(true,0,ByteArray.empty)]⟩:=by
 unfold openD;rw [if_pos h,h2,h1];simp only;rw [h3];simp only;rw [if_neg h4,if_neg h5,if_neg h6]
end
theorem moveD_bound {W S L T H F:Int} {rs:List Pr} (hl:rs.length<=1048576) (hok:mvOk W S L T H F rs):(moveD W S L T H F rs).rs.length<=1048576/\(moveD W S L T H F rs).ops.length<=1000:=by
 unfold moveD
 cases h2:mvFit S T F with
 | false=>simp [noD]
 | true =>
  obtain ⟨⟨h1,h1'⟩,h3,h4,h5,h6,h7,h8⟩:=hok
  have hq:=hv_yes h3
  have hm:=mvPages_len L (F+hv S) W.toNat (56-W.toNat) (by omega) (by omega) (by omega) (snapOf rs)
  rw [show ((W.toNat:Nat):Int)=W by omega] at hm
  simp only [if_true,mvD,List.length_append,putOps_length]
  refine ⟨hl,?_⟩
  simp
  omega
theorem openD_bound (ss:List ByteArray) (ws:List (Int×ByteArray)) (n:Int):(openD ss ws n).rs.length<=1048576/\(openD ss ws n).ops.length<=1000:=by
 by_cases h:diskOk ss ws=true/\1<=n/\n<=8
 ·obtain ⟨T,H,F,R,hFR⟩:∃ T H F R,frD ss ws n=(T,H,F,R):=⟨_,_,_,_,rfl⟩
  obtain ⟨es,U,L,hX⟩:∃ es U L,opX ss ws n=(es,U,L):=⟨_,_,_,rfl⟩
  have hg:=frD_good h
  have hx:=opX_rng h
  rw [hFR] at hg
  rw [hX] at hx
  unfold rtGood at hg
  simp only at hg hx
  obtain ⟨⟨hn1,hn2,hn3⟩,_,_⟩:=diskOk_of h.1
  cases hf:foldE es [] with
  | none=>rw [openD_2 h hX hf];simp [noD]
  | some rs =>
   have hrs:=(stateOk_sizes (foldE_ok es [] stateOk_nil rs hf)).1
   by_cases h4:60000<L+1
   ·rw [openD_3 h hX hf h4];simp [noD]
   ·by_cases h5:hv ss.length-1<roomOf (snapOf rs) n
    ·rw [openD_4 h hX hf h4 h5];simp [noD]
    ·by_cases h6:hv ss.length<=U
     ·rw [openD_5 h hFR hX hf h4 h5 h6]
      exact moveD_bound (by omega) ⟨h.2,by omega,by omega,hg.1,hg.2.1,hg.2.2.1,by omega⟩
     ·rw [openD_6 h hFR hX hf h4 h5 h6]
      simp
      omega
 ·rw [openD_1 h];simp [noD]
end Go.Proofs.YtnmaknnnmjfhkagGreatDoor
namespace Go.Proofs.YtnmaknnnmjfhkagGreatDoor
open Go.RowKit
def FdPost (w w':World) (e:Ending) (res:Option (List Pr)):Prop:=∃ a c,e=.returned (.tuple #[stV a (res.getD []).length c,.bool res.isSome])/\(res.getD []).length<=c/\OwnS w' a (prcells (res.getD []))/\(∀ g,blk a (res.getD []).length=some g->w.heap.size<=g)/\Below w.heap.size w w'
theorem resS_ok {s:ByteArray} {o:List Ch} (h:resS s=some o):batchOk o=true:=by
 rw [<-res_eq] at h
 unfold resI at h
 split at h
 ·cases h
 ·split at h
  ·rename_i hh;cases h;exact hh
  ·cases h
theorem ownS_chs {w:World} {a:Option Addr} {rs:List Ch} (h:OwnS w a (chcells rs)):Chs w a rs:=by
 rcases h with h | ⟨g,rfl,h⟩
 ·refine .inl ?_
  cases rs with
  | nil=>rfl
  | cons x r=>obtain ⟨x0,x1,x2⟩:=x;exact absurd h (by simp [chcells])
 ·exact h.chs
theorem prcells_neF {l:List Pr} (h:prcells l≠[]):l.length≠0:=fun e=>h (by rw [List.eq_nil_of_length_eq_zero e];rfl)
theorem OwnS.setF {w:World} {a:Option Addr} {cs:List Value} (h:OwnS w a cs) (p:Addr) (hp:∀ g,a=some ⟨g,0,none⟩->cs≠[]->p.block≠g) (v:Value):OwnS (w.setCell p v) a cs:=by
 by_cases h0:cs=[]
 ·exact .inl h0
 ·rcases h with h | ⟨g,rfl,hr⟩
  ·exact absurd h h0
  ·exact .inr ⟨g,rfl,hr.other p (hp g rfl h0) v⟩
structure FdB (w W:World) (rs:List Pr) (sa:Option Addr) (sc:Nat):Prop where
 rb:Row W w.heap.size [.slice none 0 0]
 st:Row W (w.heap.size+1) [.slice sa rs.length sc]
 own:OwnS W sa (prcells rs)
 lo:∀ g,blk sa rs.length=some g->w.heap.size+2<=g
 cap:rs.length<=sc
 be:Below w.heap.size w W
theorem FdB.new (w:World):FdB w ((w.alloc (.cells #[.slice none 0 0] 31)).alloc (.cells #[.slice none 0 0] 31)) [] none 0 :=
 ⟨(row_new' w #[.slice none 0 0] 31 w.heap.size rfl).alloc _,row_new' _ #[.slice none 0 0] 31 _ (by simp),.inl rfl,fun g hg=>(by cases hg),Nat.le_refl _,((Below.refl _ _).alloc (Nat.le_refl _) _).alloc (by simp) _⟩
theorem FdB.below {w W W':World} {rs:List Pr} {sa:Option Addr} {sc:Nat} (h:FdB w W rs sa sc) (hb:Below W.heap.size W W'):FdB w W' rs sa sc:=⟨h.rb.below hb,h.st.below hb,h.own.below hb,h.lo,h.cap,h.be.trans (hb.mono h.be.size)⟩
theorem FdB.set {w X:World} {W':Obj} {rs rs':List Pr} {sa sa':Option Addr} {sc sc':Nat} (h:FdB w (X.alloc W') rs sa sc) (ho:OwnS X sa' (prcells rs')) (hc:rs'.length<=sc') (hlo:∀ g,blk sa' rs'.length=some g->w.heap.size+2<=g) :
  FdB w ((X.alloc W').setCell ⟨w.heap.size+1,0,none⟩ (.slice sa' rs'.length sc')) rs' sa' sc':=by
 refine ⟨h.rb.other _ (by show w.heap.size+1≠w.heap.size;omega) _,h.st.set 0 (by simp) _,OwnS.setF (ho.below ((Below.refl _ _).alloc (Nat.le_refl _) _)) _ (fun g hg hn=>?_) _,hlo,hc,h.be.setCell (by show w.heap.size<=w.heap.size+1;omega) _⟩
 have:=hlo g (by subst hg;exact blk_pos _ _ _ (prcells_neF hn))
 show w.heap.size+1≠g
 omega
set_option maxHeartbeats 16000000 in
theorem fold_s (a:Option Addr) (es:List ByteArray) (c:Nat) (w:World) (h:Strs w a es) (hl:es.length<=1000) (hs:∀ e∈es,e.size<=1048576) :
  Calls Tryz.prog 53 #[.slice a es.length c] w fun e w'=>FdPost w w' e (foldE es []):=by
 obtain ⟨RES,HRES⟩:∃ RES,Hid (RES=foldE es []):=⟨_,hid rfl⟩
 rw [<-HRES.out]
 have HH:=hid h
 have HS:=hid hs
 clear h hs
 go_enter Tryz.func53,Tryz.ntmps53
 go_wp2
 go_loopw [5] (fun iv wr=>∃ (i:Nat) (rs:List Pr) (sa:Option Addr) (sc:Nat) (W:World),W=wr/\iv=.int .i64 (i:Int)/\i<=es.length/\stateOk rs=true/\Hid (foldE (es.drop i) rs=RES)/\FdB w W rs sa sc) (fun iv _=>((es.length:Int)-intOf iv).toNat)
 case atStart=>exact ⟨0,[],none,0,_,rfl,rfl,Nat.zero_le _,stateOk_nil,by show _=_;rw [HRES.out];rfl,FdB.new w⟩
 case round =>
  obtain ⟨i,rs,sa,sc,wr,rfl,rfl,hi,hok,HF,D⟩:=hrel
  have HD:=hid D
  have d1:=D.st.cell 0 _ rfl
  have d1l:=D.st.lt
  have d0:=D.rb.cell 0 _ rfl
  have d0l:=D.rb.lt
  have d0f:=D.rb.froz 0 (by simp)
  have hok':=stateOk_sizes hok
  have hrl:=hok'.1
  have HOK:=hid hok
  have HSZ:=hid hok'.2
  clear hok hok' D
  by_cases hlt:i<es.length
  ·have hlt':(i:Int)<(es.length:Int):=by omega
   have hi0:(0:Int)<=(i:Int):=by omega
   have hw1:IntKind.i64.wrap ((i:Int)+1)=(i:Int)+1:=by simp [IntKind.wrap,IntKind.bits,IntKind.signed];omega
   obtain ⟨b,o,s,rfl,hc,HE⟩:=(HH.out.below HD.out.be).at hlt
   have hes:s.size<=1048576:=HS.out s (by rw [HE.out];simp [List.getD,hlt])
   have hdr:es.drop i=s::es.drop (i+1):=by rw [HE.out];simp [List.getD,hlt]
   have hbl:b<wr.heap.size:=by have:=World.block_lt_of_cell? wr _ hc;simpa using this
   have HRB:=hid (fun wx=>read_s s wx hes)
   skip
   rw [hdr] at HF
   have HDR:=hid hdr
   clear hdr
   cases hR:resS s with
   | none =>
    rw [hR] at HRB
    have HN:Hid (RES=none):=by show _=_;rw [<-HF.out];exact foldE_none hR
    clear hR
    go_wp2_with fail
    refine (HRB.out _).mono ?_
    rintro e w5 ⟨ab,cb,rfl,_,_,hb5⟩
    simp only [Option.getD_none,Option.isSome_none,List.length_nil]
    have D5:=HD.out.below hb5
    have HD5:=hid D5
    have r0:=D5.rb.cell 0 _ rfl
    have r0l:=D5.rb.lt
    have r0f:=D5.rb.froz 0 (by simp)
    clear d1 d1l d0 d0l d0f D5 hb5 hc
    go_wp2
    refine bodyPost_ret (v:=.tuple #[stV none 0 0,.bool false]) (by simp [results,Tryz.results53,go_sem,r0,stV]) rfl ?_
    rw [HN.out]
    exact ⟨none,0,rfl,Nat.le_refl _,.inl rfl,fun g hg=>(by cases hg),HD5.out.be.setCell (by show w.heap.size<=w.heap.size;omega) _⟩
   | some bb =>
    rw [hR] at HRB
    have hbs:=batchOk_sizes (resS_ok hR)
    have HBS:=hid hbs.2
    have hbl2:=hbs.1
    clear hbs
    by_cases hc0:apC rs bb=0
    ·have HN:Hid (foldE (es.drop (i+1)) (apU rs bb)=RES):=by show _=_;rw [<-HF.out];exact (foldE_yes hR hc0).symm
     have hU:apR rs bb=apU rs bb:=by unfold apR;rw [if_pos hc0]
     have HOU:=hid (apU_ok hc0)
     clear hR
     go_wp2_with fail
     refine (HRB.out _).mono ?_
     rintro e w5 ⟨ab,cb,rfl,ho5,hg5,hb5⟩
     simp only [Option.getD_some,Option.isSome_some] at ho5 hg5 ⊢
     have D5:=HD.out.below hb5
     have HD5:=hid D5
     have r1:=D5.st.cell 0 _ rfl
     have r1l:=D5.st.lt
     have HAP:=hid (apply_s sa rs sc ab bb cb w5 D5.own.prs (by omega) HSZ.out (ownS_chs ho5) (by omega) HBS.out)
     rw [hU,hc0] at HAP
     clear d1 d1l d0 d0l d0f D5 hb5 hc ho5 hg5
     go_wp2_with fail
     refine HAP.out.mono ?_
     rintro e w6 ⟨a6,c6,rfl,hc6,ho6,hg6,hb6⟩
     have D6:=(HD5.out.below hb6).below (below_new w6 (.cells #[.slice a6 (apU rs bb).length c6] 31))
     have HD6:=hid (D6.set ho6 hc6 (fun g hg=>by have:=hg6 g hg;omega))
     have x1:=D6.st.cell 0 _ rfl
     have x1f:=D6.st.froz 0 (by simp)
     have x1l:=D6.st.lt
     have x6:w6.heap.size≠w.heap.size+1:=by have:=(HD5.out.below hb6).st.lt;omega
     clear r1 r1l D6 hb6 ho6 hg6 hc0 hU
     go_wp2
     exact ⟨⟨i+1,_,a6,c6,_,rfl,by simp,by omega,HOU.out,HN,HD6.out⟩,by simp [intOf];omega⟩
    ·have HN:Hid (RES=none):=by show _=_;rw [<-HF.out];exact foldE_no hR hc0
     have hU:apR rs bb=[]:=by unfold apR;rw [if_neg hc0]
     have hcb:(apC rs bb == 0)=false:=by simp [hc0]
     have hcb2:(apC rs bb != 0)=true:=by simp [hc0]
     clear hR
     go_wp2_with fail
     refine (HRB.out _).mono ?_
     rintro e w5 ⟨ab,cb,rfl,ho5,hg5,hb5⟩
     simp only [Option.getD_some,Option.isSome_some] at ho5 hg5 ⊢
     have D5:=HD.out.below hb5
     have HD5:=hid D5
     have r1:=D5.st.cell 0 _ rfl
     have r1l:=D5.st.lt
     have HAP:=hid (apply_s sa rs sc ab bb cb w5 D5.own.prs (by omega) HSZ.out (ownS_chs ho5) (by omega) HBS.out)
     rw [hU] at HAP
     clear d1 d1l d0 d0l d0f D5 hb5 hc ho5 hg5 hU
     go_wp2_with fail
     refine HAP.out.mono ?_
     rintro e w6 ⟨a6,c6,rfl,hc6,ho6,hg6,hb6⟩
     have D6:=(HD5.out.below hb6).below (below_new w6 (.cells #[.slice a6 0 c6] 31))
     have HD6:=hid D6
     have r0:=D6.rb.cell 0 _ rfl
     have r0l:=D6.rb.lt
     have r0f:=D6.rb.froz 0 (by simp)
     clear r1 r1l D6 hb6 ho6 hg6
     go_wp2
     refine bodyPost_ret (v:=.tuple #[stV none 0 0,.bool false]) (by simp [results,Tryz.results53,go_sem,r0,stV]) rfl ?_
     rw [HN.out]
     exact ⟨none,0,rfl,Nat.le_refl _,.inl rfl,fun g hg=>(by cases hg),HD6.out.be.setCell (by show w.heap.size<=w.heap.size;omega) _⟩
  ·have HN:Hid (RES=some rs):=by show _=_;rw [<-HF.out,List.drop_of_length_le (by omega)];rfl
   have hlt':¬ ((i:Int)<(es.length:Int)):=by omega
   have hne:¬ (w.heap.size=w.heap.size+1):=by omega
   go_wp2
   refine bodyPost_ret (v:=.tuple #[stV sa rs.length sc,.bool true]) (by simp [results,Tryz.results53,go_sem,d0,stV]) rfl ?_
   rw [HN.out]
   refine ⟨sa,sc,rfl,HD.out.cap,OwnS.setF HD.out.own ⟨w.heap.size,0,none⟩ (fun g hg hn=>?_) _,fun g hg=>by have:=HD.out.lo g hg;omega,HD.out.be.setCell (by show w.heap.size<=w.heap.size;omega) _⟩
   have:=HD.out.lo g (by subst hg;exact blk_pos _ _ _ (prcells_neF hn))
   show w.heap.size≠g
   omega
@[reducible] def scV (a:Option Addr) (n c:Nat) (u l:Int):Value:=.agg #[.slice a n c,.int .i64 u,.int .i64 l]
theorem scpost_own {w w':World} {e:Ending} {x:Scd} (h:ScPost w w' e x):∃ a c,e=.returned (scV a x.1.length c x.2.1 x.2.2)/\OwnS w' a (x.1.map Value.string)/\(∀ g,blk a x.1.length=some g->w.heap.size<=g)/\Below w.heap.size w w':=by
 obtain ⟨y,rfl,ho,hb⟩:=h
 rcases owns_forms ho with ⟨e1,e2⟩ | ⟨g,cap,e1,h1,h2,hr⟩
 ·subst e1
  have:x.1=[]:=List.eq_nil_of_length_eq_zero e2
  exact ⟨none,0,by rw [e2],.inl (by rw [this];rfl),fun g hg=>(by rw [e2] at hg;cases hg),hb⟩
 ·subst e1
  refine ⟨_,cap,rfl,.inr ⟨g,rfl,hr⟩,fun g' hg=>?_,hb⟩
  have:=blk_is hg
  omega
set_option maxHeartbeats 16000000 in
theorem fold_i (a:Option Addr) (es:List ByteArray) (c:Nat) (w:World) (h:Strs w a es) (hl:es.length<=1000) (hs:∀ e∈es,e.size<=1048576) :
  Calls Tryz.prog 65 #[.slice a es.length c] w fun e w'=>FdPost w w' e (foldE es []):=by
 obtain ⟨RES,HRES⟩:∃ RES,Hid (RES=foldE es []):=⟨_,hid rfl⟩
 rw [<-HRES.out]
 have HH:=hid h
 have HS:=hid hs
 clear h hs
 go_enter Tryz.func65,Tryz.ntmps65
 go_wp2
 go_loopw [13] (fun iv wr=>∃ (i:Nat) (rs:List Pr) (sa:Option Addr) (sc:Nat) (W:World),W=wr/\iv=.int .i64 (i:Int)/\i<=es.length/\stateOk rs=true/\Hid (foldE (es.drop i) rs=RES)/\FdB w W rs sa sc) (fun iv _=>((es.length:Int)-intOf iv).toNat)
 case atStart=>exact ⟨0,[],none,0,_,rfl,rfl,Nat.zero_le _,stateOk_nil,by show _=_;rw [HRES.out];rfl,FdB.new w⟩
 case round =>
  obtain ⟨i,rs,sa,sc,wr,rfl,rfl,hi,hok,HF,D⟩:=hrel
  have HD:=hid D
  have d1:=D.st.cell 0 _ rfl
  have d1l:=D.st.lt
  have d0:=D.rb.cell 0 _ rfl
  have d0l:=D.rb.lt
  have d0f:=D.rb.froz 0 (by simp)
  have hok':=stateOk_sizes hok
  have hrl:=hok'.1
  have HOK:=hid hok
  have HSZ:=hid hok'.2
  clear hok hok' D
  by_cases hlt:i<es.length
  ·have hlt':(i:Int)<(es.length:Int):=by omega
   have hi0:(0:Int)<=(i:Int):=by omega
   have hw1:IntKind.i64.wrap ((i:Int)+1)=(i:Int)+1:=by simp [IntKind.wrap,IntKind.bits,IntKind.signed];omega
   obtain ⟨b,o,s,rfl,hc,HE⟩:=(HH.out.below HD.out.be).at hlt
   have hes:s.size<=1048576:=HS.out s (by rw [HE.out];simp [List.getD,hlt])
   have hdr:es.drop i=s::es.drop (i+1):=by rw [HE.out];simp [List.getD,hlt]
   have hbl:b<wr.heap.size:=by have:=World.block_lt_of_cell? wr _ hc;simpa using this
   have HRB:=hid (fun wx=>read_i s wx hes)
   rw [res_eq] at HRB
   rw [hdr] at HF
   have HDR:=hid hdr
   clear hdr
   cases hR:resS s with
   | none =>
    rw [hR] at HRB
    have HN:Hid (RES=none):=by show _=_;rw [<-HF.out];exact foldE_none hR
    clear hR
    go_wp2_with fail
    refine (HRB.out _).mono ?_
    rintro e w5 ⟨ab,cb,rfl,_,_,hb5⟩
    simp only [Option.getD_none,Option.isSome_none,List.length_nil]
    have D5:=HD.out.below hb5
    have HD5:=hid D5
    have r0:=D5.rb.cell 0 _ rfl
    have r0l:=D5.rb.lt
    have r0f:=D5.rb.froz 0 (by simp)
    clear d1 d1l d0 d0l d0f D5 hb5 hc
    go_wp2
    refine bodyPost_ret (v:=.tuple #[stV none 0 0,.bool false]) (by simp [results,Tryz.results65,go_sem,r0,stV]) rfl ?_
    rw [HN.out]
    exact ⟨none,0,rfl,Nat.le_refl _,.inl rfl,fun g hg=>(by cases hg),HD5.out.be.setCell (by show w.heap.size<=w.heap.size;omega) _⟩
   | some bb =>
    rw [hR] at HRB
    have hbs:=batchOk_sizes (resS_ok hR)
    have HBS:=hid hbs.2
    have hbl2:=hbs.1
    clear hbs
    by_cases hc0:apC rs bb=0
    ·have HN:Hid (foldE (es.drop (i+1)) (apU rs bb)=RES):=by show _=_;rw [<-HF.out];exact (foldE_yes hR hc0).symm
     have hU:apR rs bb=apU rs bb:=by unfold apR;rw [if_pos hc0]
     have HOU:=hid (apU_ok hc0)
     clear hR
     go_wp2_with fail
     refine (HRB.out _).mono ?_
     rintro e w5 ⟨ab,cb,rfl,ho5,hg5,hb5⟩
     simp only [Option.getD_some,Option.isSome_some] at ho5 hg5 ⊢
     have D5:=HD.out.below hb5
     have HD5:=hid D5
     have r1:=D5.st.cell 0 _ rfl
     have r1l:=D5.st.lt
     have HAP:=hid (apply_i sa rs sc ab bb cb w5 D5.own.prs (by omega) HSZ.out (ownS_chs ho5) (by omega) HBS.out)
     rw [hU,hc0] at HAP
     clear d1 d1l d0 d0l d0f D5 hb5 hc ho5 hg5
     go_wp2_with fail
     refine HAP.out.mono ?_
     rintro e w6 ⟨a6,c6,rfl,hc6,ho6,hg6,hb6⟩
     have D6:=(HD5.out.below hb6).below (below_new w6 (.cells #[.slice a6 (apU rs bb).length c6] 31))
     have HD6:=hid (D6.set ho6 hc6 (fun g hg=>by have:=hg6 g hg;omega))
     have x1:=D6.st.cell 0 _ rfl
     have x1f:=D6.st.froz 0 (by simp)
     have x1l:=D6.st.lt
     have x6:w6.heap.size≠w.heap.size+1:=by have:=(HD5.out.below hb6).st.lt;omega
     clear r1 r1l D6 hb6 ho6 hg6 hc0 hU
     go_wp2
     exact ⟨⟨i+1,_,a6,c6,_,rfl,by simp,by omega,HOU.out,HN,HD6.out⟩,by simp [intOf];omega⟩
    ·have HN:Hid (RES=none):=by show _=_;rw [<-HF.out];exact foldE_no hR hc0
     have hU:apR rs bb=[]:=by unfold apR;rw [if_neg hc0]
     have hcb:(apC rs bb == 0)=false:=by simp [hc0]
     have hcb2:(apC rs bb != 0)=true:=by simp [hc0]
     clear hR
     go_wp2_with fail
     refine (HRB.out _).mono ?_
     rintro e w5 ⟨ab,cb,rfl,ho5,hg5,hb5⟩
     simp only [Option.getD_some,Option.isSome_some] at ho5 hg5 ⊢
     have D5:=HD.out.below hb5
     have HD5:=hid D5
     have r1:=D5.st.cell 0 _ rfl
     have r1l:=D5.st.lt
     have HAP:=hid (apply_i sa rs sc ab bb cb w5 D5.own.prs (by omega) HSZ.out (ownS_chs ho5) (by omega) HBS.out)
     rw [hU] at HAP
     clear d1 d1l d0 d0l d0f D5 hb5 hc ho5 hg5 hU
     go_wp2_with fail
     refine HAP.out.mono ?_
     rintro e w6 ⟨a6,c6,rfl,hc6,ho6,hg6,hb6⟩
     have D6:=(HD5.out.below hb6).below (below_new w6 (.cells #[.slice a6 0 c6] 31))
     have HD6:=hid D6
     have r0:=D6.rb.cell 0 _ rfl
     have r0l:=D6.rb.lt
     have r0f:=D6.rb.froz 0 (by simp)
     clear r1 r1l D6 hb6 ho6 hg6
     go_wp2
     refine bodyPost_ret (v:=.tuple #[stV none 0 0,.bool false]) (by simp [results,Tryz.results65,go_sem,r0,stV]) rfl ?_
     rw [HN.out]
     exact ⟨none,0,rfl,Nat.le_refl _,.inl rfl,fun g hg=>(by cases hg),HD6.out.be.setCell (by show w.heap.size<=w.heap.size;omega) _⟩
  ·have HN:Hid (RES=some rs):=by show _=_;rw [<-HF.out,List.drop_of_length_le (by omega)];rfl
   have hlt':¬ ((i:Int)<(es.length:Int)):=by omega
   have hne:¬ (w.heap.size=w.heap.size+1):=by omega
   go_wp2
   refine bodyPost_ret (v:=.tuple #[stV sa rs.length sc,.bool true]) (by simp [results,Tryz.results65,go_sem,d0,stV]) rfl ?_
   rw [HN.out]
   refine ⟨sa,sc,rfl,HD.out.cap,OwnS.setF HD.out.own ⟨w.heap.size,0,none⟩ (fun g hg hn=>?_) _,fun g hg=>by have:=HD.out.lo g hg;omega,HD.out.be.setCell (by show w.heap.size<=w.heap.size;omega) _⟩
   have:=HD.out.lo g (by subst hg;exact blk_pos _ _ _ (prcells_neF hn))
   show w.heap.size≠g
   omega
end Go.Proofs.YtnmaknnnmjfhkagGreatDoor
namespace Go.Proofs.YtnmaknnnmjfhkagGreatDoor
open Go.RowKit Go.Shelf
attribute [local go_sem] Oper.semAt_some
@[reducible] def pgV (x:Int×Int×Int×ByteArray):Value:=pageV x.1 x.2.1 x.2.2.1 x.2.2.2
@[reducible] def pgE {SF:Nat->ByteArray} {fm:Nat} {wd:Int} {N:Nat} (x:Pgs SF fm wd N):Array Value:=#[.int .i64 (x.1:Int),pgV (pgAt SF fm wd x.1)]
def KpP (n3 g1 g2:Nat) (A B:World):Prop:=Below n3 A B/\B.heap[g1]?=A.heap[g1]?/\B.heap[g2]?=A.heap[g2]?
theorem KpP.t {n3 g1 g2:Nat} {A B C:World} (h:KpP n3 g1 g2 A B) (k:KpP n3 g1 g2 B C):KpP n3 g1 g2 A C:=⟨h.1.trans k.1,k.2.1.trans h.2.1,k.2.2.trans h.2.2⟩
theorem KpP.b {n3 g1 g2:Nat} {w:World} (hn:n3<=w.heap.size) (h1:g1<w.heap.size) (h2:g2<w.heap.size) (W:World) (l:Nat) (o o':Obj) (hl:w.heap.size<=l) (h:W.heap[l]?=some o) (hc:o.isCells=false) (hw:o.isWalk=false):KpP n3 g1 g2 W (W.putObj l o') :=
 ⟨belowK_b hn W l o o' hl h hc hw,World.putObj_heap_other (by omega),World.putObj_heap_other (by omega)⟩
theorem KpP.grown {n3 g1 g2:Nat} {A B C:World} (h:KpP n3 g1 g2 A B) (hg:Below B.heap.size B C) (h0:n3<=B.heap.size) (h1:g1<B.heap.size) (h2:g2<B.heap.size):KpP n3 g1 g2 A C :=
 ⟨h.1.trans (hg.mono h0),(hg.block g1 h1).trans h.2.1,(hg.block g2 h2).trans h.2.2⟩
def PgEnd {SF:Nat->ByteArray} {fm:Nat} {wd:Int} {N:Nat} (u:Nat) (ys:List (Pgs SF fm wd N)):Prop:=Good u ys/\(N<=u+ys.length\/rpRes (SF (fm+(u+ys.length))) wd=none)
theorem heap_cell {w:World} {g:Nat} {cs:Array Value} {t:TypeId} {z:Nat×Nat} (h:w.heap[g]?=some (.cells cs t z)) (i:Nat) (v:Value) (hv:cs[i]?=some v):w.cell? ⟨g,i,none⟩=some v:=by
 simp [World.cell?,h,hv]
theorem below_grown0 {A B:World} (h:Below A.heap.size A B):A.grownBy B none:=⟨h.os,h.tape,h.output,h.size,fun k hk _=>h.block k hk⟩
set_option maxHeartbeats 16000000 in
theorem pages1_in (n:Nat) (hn:1<=n) (l g1 g2 fm N u:Nat) (SF:Nat->ByteArray) (wd:Int) (v0 v1:Value) (w3:World) (hN:N<=200) (hu:u<=N)
  (HPG:Hid (∀ wx,Below w3.heap.size w3 wx->∀ m:Nat,m<N->Calls Tryz.prog 220 #[regV v0 v1 (fm:Int) (N:Int) wd,.int .i64 (m:Int)] wx fun e w'=>e=.returned (rpV (rpRes (SF (fm+m)) wd))/\Below wx.heap.size wx w'))
  (J Jx:List (Pgs SF fm wd N)->World->Prop)
  (hY:∀ pre x W1,J pre W1->pre.length<N->YieldAt Fence.wide (n-1) Tryz.prog l (pgE x) W1 fun e W'=>(e=.returned (.bool true)/\J (pre++[x]) W'/\KpP w3.heap.size g1 g2 W1 W')\/(e=.returned (.bool false)/\Jx (pre++[x]) W'))
  (W:World) (hW:Below w3.heap.size w3 W) (hb1:W.heap[g1]?=some (.cells #[.iface 272 (.agg #[v0,v1]),.int .i64 (fm:Int),.int .i64 (N:Int),.int .i64 wd] 207 (0,0))) (hb2:W.heap[g2]?=some (.cells #[.int .i64 (u:Int)] 3 (0,0)))
  (h0:J [] W) (hJ:∀ s A B,J s A->A.grownBy B none->J s B) :
  CallsIn Fence.wide n Tryz.prog 219 #[.func (.yield l) #[] #[],.pointer (some ⟨g2,0,none⟩),.pointer (some ⟨g1,0,none⟩)] W fun e W'=>(∃ v,e=.returned v) /\
   ((∃ ys,PgEnd u ys/\J ys W')\/(∃ pre,Good u pre/\Jx pre W')):=by
 refine callsIn_of_wp Tryz.func219 rfl trivial ?_ rfl
 simp only [Tryz.ntmps219,List.size_toArray,List.length_cons,List.length_nil,Nat.reduceAdd,Nat.reduceSub,Array.replicate_succ,Array.replicate_zero,List.push_toArray,List.append_toArray,List.nil_append,List.cons_append]
 have HY:=hid hY
 have HJ:=hid hJ
 clear hY hJ
 have q0:=heap_cell hb2 0 (.int .i64 (u:Int)) rfl
 gi_wp2
 clear q0
 gi_loopw [4] (fun i wr=>∃ (k:Nat) (pre:List (Pgs SF fm wd N)),pre.length=k/\Good u pre/\u+k<=N/\i=.int .i64 ((u+k:Nat):Int)/\J pre wr/\Below w3.heap.size w3 wr/\wr.heap[g1]?=some (.cells #[.iface 272 (.agg #[v0,v1]),.int .i64 (fm:Int),.int .i64 (N:Int),.int .i64 wd] 207 (0,0))) (fun i _=>N-(intOf i).toNat)
 case atStart=>exact ⟨0,[],rfl,Good.nil u,hu,rfl,h0,hW,hb1⟩
 case round =>
  obtain ⟨k,pre,hpl,hgd,huk,rfl,hJs,hbw,hg1⟩:=hrel
  obtain ⟨q,hq⟩:∃ q,q=u+k:=⟨_,rfl⟩
  rw [<-hq]
  have HQ:=hid hq
  have HPL:=hid hpl
  have HGD:=hid hgd
  have HJS:=hid hJs
  have HBW:=hid hbw
  have huq:q<=N:=by omega
  have HG1:=hid hg1
  have hlg:=(Array.getElem?_eq_some_iff.1 hg1).1
  clear hpl hgd hJs huk
  have c0:=heap_cell hg1 0 (.iface 272 (.agg #[v0,v1])) rfl
  have c1:=heap_cell hg1 1 (.int .i64 (fm:Int)) rfl
  have c2:=heap_cell hg1 2 (.int .i64 (N:Int)) rfl
  have c3:=heap_cell hg1 3 (.int .i64 wd) rfl
  clear hg1 hq hb1 hb2 hW h0
  by_cases hlt:q<N
  ·have hlt':(q:Int)<(N:Int):=by omega
   have hw1:IntKind.i64.wrap ((q:Int)+1)=(q:Int)+1:=by simp [IntKind.wrap,IntKind.bits,IntKind.signed];omega
   have hpg:=HPG.out wr HBW.out q hlt
   clear hbw
   cases hR:rpRes (SF (fm+q)) wd with
   | none =>
    rw [hR] at hpg
    simp only [rpV] at hpg
    have HR:=hid hR
    have HP:=hid hpg
    clear hR hpg
    gi_wp2_with (refine ⟨trivial,?_⟩;gi_at_call 220;refine (callsIn_wide.2 HP.out).mono ?_;rintro e w5 ⟨rfl,hb5⟩)
    refine ⟨fun f hf=>(by cases hf),?_⟩
    gi_wp2
    refine bodyPost_ret (results_none rfl _ _ _) rfl ?_
    refine ⟨⟨_,rfl⟩,.inl ⟨pre,⟨HGD.out,.inr ?_⟩,HJ.out _ _ _ HJS.out (below_grown0 (hb5.alloc hb5.size _))⟩⟩
    rw [HPL.out,<-HQ.out]
    exact HR.out
   | some pg =>
    obtain ⟨pk,pl,pm,pp⟩:=pg
    rw [hR] at hpg
    simp only [rpV] at hpg
    obtain ⟨xx,hxx⟩:∃ xx:Pgs SF fm wd N,xx.1=q:=⟨⟨q,hlt,by rw [hR];rfl⟩,rfl⟩
    have hpx:pgE xx=#[.int .i64 (q:Int),.agg #[.int .i64 pk,.int .i64 pl,.int .i64 pm,.string pp]]:=by unfold pgE pgV pgAt;rw [hxx,hR];rfl
    have HPX:=hid hpx
    have HXX:=hid hxx
    have HR:=hid hR
    have HP:=hid hpg
    clear hR hpg hpx hxx
    gi_wp2_with (refine ⟨trivial,?_⟩;gi_at_call 220;refine (callsIn_wide.2 HP.out).mono ?_;rintro e w5 ⟨rfl,hb5⟩)
    obtain ⟨fn,tmps,assign,body,hy,hRR⟩:=HY.out pre xx (w5.alloc (.cells #[.int .i64 pk,.int .i64 pl,.int .i64 pm,.string pp] 108)) (HJ.out _ _ _ HJS.out (below_grown0 (hb5.alloc hb5.size _))) (by rw [HPL.out];have:=HQ.out;omega)
    rw [HPX.out] at hy
    have hk5:=hb5.size
    have HG5:=hid ((hb5.alloc hb5.size (.cells #[.int .i64 pk,.int .i64 pl,.int .i64 pm,.string pp] 108)).block _ hlg)
    have HB5:=hid (HBW.out.trans ((hb5.alloc hb5.size (.cells #[.int .i64 pk,.int .i64 pl,.int .i64 pm,.string pp] 108)).mono HBW.out.size))
    clear hb5
    rw [hy,Oper.uponIn_round]
    refine ⟨fun _=>hn,?_⟩
    refine hRR.mono ?_
    rintro e W6 (⟨rfl,hJ6,hk6⟩ | ⟨rfl,hJx6⟩)
    ·have HG6:=hid (hk6.2.1.trans (HG5.out.trans HG1.out))
     have HB6:=hid (HB5.out.trans hk6.1)
     have HJ6:=hid hJ6
     clear hJ6 hk6 hRR hy
     gi_wp2
     go_roundw
     case rel=>exact ⟨k+1,pre++[xx],by rw [List.length_append,HPL.out];rfl,HGD.out.push (by rw [HXX.out,HPL.out,HQ.out]),by have:=HQ.out;omega,by have:=HQ.out;simp;omega,HJ6.out,HB6.out,HG6.out⟩
     case measure=>simp [intOf];omega
    ·have HJ6:=hid hJx6
     clear hJx6 hRR hy
     gi_wp2
     refine bodyPost_ret (results_none rfl _ _ _) rfl ?_
     exact ⟨⟨_,rfl⟩,.inr ⟨pre++[xx],HGD.out.push (by rw [HXX.out,HPL.out,HQ.out]),HJ6.out⟩⟩
  ·gi_wp2
   go_end0
   exact ⟨⟨_,rfl⟩,.inl ⟨pre,⟨HGD.out,.inl (by rw [HPL.out,<-HQ.out];omega)⟩,HJS.out⟩⟩
set_option maxHeartbeats 16000000 in
theorem pages_in (n:Nat) (v0 v1:Value) (fm N:Int) (wd:Int) (u:Int) (w:World) :
  CallsIn Fence.wide n Tryz.prog 153 #[regV v0 v1 fm N wd,.int .i64 u] w fun e w'=>e=.returned (.func (.func 219) #[] #[.pointer (some ⟨w.heap.size+1,0,none⟩),.pointer (some ⟨w.heap.size,0,none⟩)])/\w'=(w.alloc (.cells #[.iface 272 (.agg #[v0,v1]),.int .i64 fm,.int .i64 N,.int .i64 wd] 207)).alloc (.cells #[.int .i64 u] 3):=by
 refine callsIn_of_wp Tryz.func153 rfl trivial ?_ rfl
 simp only [Tryz.ntmps153,List.size_toArray,List.length_cons,List.length_nil,Nat.reduceAdd,Nat.reduceSub,Array.replicate_succ,Array.replicate_zero,List.push_toArray,List.append_toArray,List.nil_append,List.cons_append]
 gi_wp2
 go_ret
 exact ⟨rfl,rfl⟩
theorem pages_stops (n:Nat) (hn:1<=n) (g1 g2 fm N u:Nat) (SF:Nat->ByteArray) (wd:Int) (v0 v1:Value) (w3 w:World) (hN:N<=200) (hu:u<=N) (h3:Below w3.heap.size w3 w)
  (HPG:Hid (∀ wx,Below w3.heap.size w3 wx->∀ m:Nat,m<N->Calls Tryz.prog 220 #[regV v0 v1 (fm:Int) (N:Int) wd,.int .i64 (m:Int)] wx fun e w'=>e=.returned (rpV (rpRes (SF (fm+m)) wd))/\Below wx.heap.size wx w'))
  (hb1:w.heap[g1]?=some (.cells #[.iface 272 (.agg #[v0,v1]),.int .i64 (fm:Int),.int .i64 (N:Int),.int .i64 wd] 207 (0,0))) (hb2:w.heap[g2]?=some (.cells #[.int .i64 (u:Int)] 3 (0,0))) :
  SeqStopsK Fence.wide n Tryz.prog 219 #[.pointer (some ⟨g2,0,none⟩),.pointer (some ⟨g1,0,none⟩)] (fun x:Pgs SF fm wd N=>pgE x) (KpP w3.heap.size g1 g2) (PgEnd u) (Good u) N w:=fun l J Jx W hW hJ hJx hY h0 =>
 pages1_in n hn l g1 g2 fm N u SF wd v0 v1 w3 hN hu HPG J Jx hY W (h3.trans (hW.mono h3.size)) ((hW.block _ (Array.getElem?_eq_some_iff.1 hb1).1).trans hb1) ((hW.block _ (Array.getElem?_eq_some_iff.1 hb2).1).trans hb2) h0 (fun s A B hs hg=>hJ s A B none hs hg (fun r e=>(by cases e)))
end Go.Proofs.YtnmaknnnmjfhkagGreatDoor
namespace Go.Proofs.YtnmaknnnmjfhkagGreatDoor
open Go.RowKit Go.Shelf
theorem b_writek (B b:Nat) (bs:List Value) (s:ByteArray) (w:World) (h:Lib.IsBuilderF 210 5 B b bs w) (hlen:bs.length+s.size<=140737488355328) (hBw:B<=w.heap.size) :
  Calls Tryz.prog 155 #[.pointer (some ⟨b,0,none⟩),.string s] w fun e w'=>e=.returned (.tuple #[.int .i64 s.size,.nilIface])/\(Lib.BuilderAtF 210 5 B b (.pointer (some ⟨b,0,none⟩)) (bs++Lib.strCells s) w'/\Below B w w'/\Lib.OthersKept 5 (some b) w w'):=Any.Builder_WriteString_k bLays166 bExtra B b bs s w h hlen hBw
theorem b_stringk (B b:Nat) (l:List UInt8) (w:World) (h:Lib.IsBuilderF 210 5 B b (Lib.byteCells l) w) (hBw:B<=w.heap.size) :
  Calls Tryz.prog 157 #[.pointer (some ⟨b,0,none⟩)] w fun e w'=>e=.returned (.string ⟨l.toArray⟩)/\(Lib.IsBuilderF 210 5 B b (Lib.byteCells l) w'/\Below B w w'/\Lib.OthersKept 5 (some b) w w'):=Any.Builder_String_any_k bLays169 bExtra B b l w h hBw
theorem row_is_cells {W:World} {g:Nat} {c:Value} {cs:List Value} (h:Row W g (c::cs)):∃ a t z,W.heap[g]?=some (.cells a t z):=by
 have:=h.cell 0 c rfl
 unfold World.cell? at this
 split at this
 ·exact ⟨_,_,_,by assumption⟩
 ·cases this
theorem row_kept {W W':World} {g:Nat} {c:Value} {cs:List Value} {row:Option Nat} (h:Row W g (c::cs)) (hg:W.grownBy W' row) (hr:∀ r,row=some r->r≠g\/∃ o:Obj,W.heap[r]?=some o/\o.isCells=false):Row W' g (c::cs):=by
 refine h.grown hg fun e=>?_
 rcases hr g e.symm with h1 | ⟨o,ho,hc⟩
 ·exact h1 rfl
 ·obtain ⟨a,t,z,hh⟩:=row_is_cells h
  rw [hh] at ho;cases ho;cases hc
theorem own_kept {W W':World} {base:Nat} {e:TypeId} {s:Nat} {v:Value} {n:Nat} {xs:List Value} {row:Option Nat} (h:W.ownsRow base e s v n xs) (hg:W.grownBy W' row) (hr:∀ r,row=some r->∃ o:Obj,W.heap[r]?=some o/\o.isCells=false):W'.ownsRow base e s v n xs:=by
 refine h.kept hg ?_
 rcases h.2 with ⟨rfl,_⟩ | ⟨g,cap,cur,rfl,_,hgb,_⟩
 ·exact .inl rfl
 ·refine .inr fun e'=>?_
  obtain ⟨o,ho,hc⟩:=hr g (by simpa [Value.ownBlock] using e'.symm)
  rw [hgb] at ho;cases ho;cases hc
theorem bu_kept {T e:TypeId} {B b:Nat} {bs:List Value} {W W':World} {row:Option Nat} (h:Lib.IsBuilderF T e B b bs W) (hg:W.grownBy W' row) (hr:∀ r,row=some r->r<B\/∃ o:Obj,W.heap[r]?=some o/\o.isCells=false):Lib.IsBuilderF T e B b bs W':=by
 have key:∀ p,Lib.BuilderAtF T e B b p bs W->Lib.BuilderAtF T e B b p bs W':=by
  rintro p ⟨hB,v,hb,hown,hne⟩
  have hlt:b<W.heap.size:=(Array.getElem?_eq_some_iff.1 hb).1
  have h1:some b≠row:=fun e=>by
   rcases hr b e.symm with h | ⟨o,ho,hc⟩
   ·omega
   ·rw [hb] at ho;cases ho;cases hc
  refine ⟨hB,v,(hg.block b hlt h1).trans hb,hown.kept hg ?_,hne⟩
  cases hv:v.ownBlock with
  | none=>exact .inl rfl
  | some k =>
   refine .inr fun e'=>?_
   rcases hr k e'.symm with h | ⟨o,ho,hc⟩
   ·have:=(hown.lt k hv).1;omega
   ·obtain ⟨c,fz,hk⟩:=Lib.ownsRowF_kind hown k hv
    rw [hk] at ho;cases ho;cases hc
 rcases h with h | h
 ·exact .inl (key _ h)
 ·exact .inr (key _ h)
theorem bu_block {T e:TypeId} {B b:Nat} {bs:List Value} {W:World} (h:Lib.IsBuilderF T e B b bs W):∃ a,W.heap[b]?=some (.cells a T (0,0)):=by
 rcases h with ⟨_,v,hb,_⟩ | ⟨_,v,hb,_⟩<;>exact ⟨_,hb⟩
theorem keeps_others {T:TypeId} {b:Nat} {W W':World} {a:Array Value} {z:Nat×Nat} {e:TypeId} (hb:W.heap[b]?=some (.cells a T z)) (hk:Lib.OthersKept e (some b) W W') (hs:W.heap.size<=W'.heap.size):KeepsOthers W W' :=
 ⟨hs,fun k o hko hc=>hk k o hko (fun e=>by cases e;rw [hb] at hko;cases hko;cases hc) (fun c fz e=>by rw [e] at hc;cases hc)⟩
theorem keeps_below' {W W':World} (h:Below W.heap.size W W'):KeepsOthers W W':=⟨h.size,fun k o hk _=>(h.block k (Array.getElem?_eq_some_iff.1 hk).1).trans hk⟩
structure ScL (w3 W:World) (Rs:List Nat) (M:Nat) (c0 c1 c2 c3:Value) (y:Value) (ents:List ByteArray) (u l wk wl wm:Int) (wp:ByteArray):Prop where
 lb:Row W w3.heap.size [c0,c1,c2,c3]
 fb:Row W (w3.heap.size+1) [y,.int .i64 u,.int .i64 l]
 bb:Row W (w3.heap.size+2) [.int .i64 wk,.int .i64 wl,.int .i64 wm,.string wp]
 own:W.ownsRow w3.heap.size 9 1 y ents.length (ents.map Value.string)
 yo:∀ k,y.ownBlock=some k->w3.heap.size+2<k
 be:Below w3.heap.size w3 W
 mr:∀ r∈Rs,w3.heap.size<=r/\r<M/\W.heap[r]?=some (.deferred (some []))
 nd:Rs.Nodup
section
variable {w3 W W':World} {Rs:List Nat} {M:Nat} {c0 c1 c2 c3:Value} {y:Value} {ents:List ByteArray} {u l wk wl wm:Int} {wp:ByteArray}
theorem ScL.kept {row:Option Nat} (h:ScL w3 W Rs M c0 c1 c2 c3 y ents u l wk wl wm wp) (hM:w3.heap.size<=M) (hg:W.grownBy W' row) (hr:∀ r,row=some r->M<=r/\∃ o:Obj,W.heap[r]?=some o/\o.isCells=false):ScL w3 W' Rs M c0 c1 c2 c3 y ents u l wk wl wm wp:=by
 have hr':∀ g:Nat,∀ r,row=some r->r≠g\/∃ o:Obj,W.heap[r]?=some o/\o.isCells=false:=fun g r e=>.inr (hr r e).2
 refine ⟨row_kept h.lb hg (hr' _),row_kept h.fb hg (hr' _),row_kept h.bb hg (hr' _),own_kept h.own hg (fun r e=>(hr r e).2),h.yo,h.be.grown hg h.be.size (fun k e=>Nat.le_trans hM (hr k e).1),fun r hrr=>?_,h.nd⟩
 obtain ⟨h0,h1,h2⟩:=h.mr r hrr
 exact ⟨h0,h1,(hg.block r (Array.getElem?_eq_some_iff.1 h2).1 (fun e=>by have:=(hr r e.symm).1;omega)).trans h2⟩
theorem ScL.low (h:ScL w3 W Rs M c0 c1 c2 c3 y ents u l wk wl wm wp) (hb:Below M W W') (hM:w3.heap.size+2<M) (hyM:∀ k,y.ownBlock=some k->k<M):ScL w3 W' Rs M c0 c1 c2 c3 y ents u l wk wl wm wp:=by
 have rw':∀ {g:Nat} {cs:List Value},g<M->Row W g cs->Row W' g cs:=fun hg hr=>⟨Nat.lt_of_lt_of_le hr.lt hb.size,fun i v hv=>(World.cell?_of_block (a:=⟨_,i,none⟩) (hb.block _ hg)).trans (hr.cell i v hv),fun i hi=>(World.frozen?_of_block (a:=⟨_,i,none⟩) (hb.block _ hg)).trans (hr.froz i hi)⟩
 have ow:W'.ownsRow w3.heap.size 9 1 y ents.length (ents.map Value.string):=by
  have h1:=h.own
  refine ⟨h1.1,?_⟩
  rcases h1.2 with h2 | ⟨g,cap,cur,hv,hbg,hgb,hrest⟩
  ·exact .inl h2
  ·exact .inr ⟨g,cap,cur,hv,hbg,(hb.block g (hyM g (by rw [hv];rfl))).trans hgb,hrest⟩
 exact ⟨rw' (by omega) h.lb,rw' (by omega) h.fb,rw' (by omega) h.bb,ow,h.yo,h.be.trans (hb.mono (by omega)),fun r hr=>⟨(h.mr r hr).1,(h.mr r hr).2.1,(hb.block r (h.mr r hr).2.1).trans (h.mr r hr).2.2⟩,h.nd⟩
theorem ScL.top (h:ScL w3 W Rs M c0 c1 c2 c3 y ents u l wk wl wm wp):ScL w3 W Rs W.heap.size c0 c1 c2 c3 y ents u l wk wl wm wp :=
 ⟨h.lb,h.fb,h.bb,h.own,h.yo,h.be,fun r hr=>⟨(h.mr r hr).1,(Array.getElem?_eq_some_iff.1 (h.mr r hr).2.2).1,(h.mr r hr).2.2⟩,h.nd⟩
theorem ScL.below (h:ScL w3 W Rs M c0 c1 c2 c3 y ents u l wk wl wm wp) (hb:Below W.heap.size W W'):ScL w3 W' Rs M c0 c1 c2 c3 y ents u l wk wl wm wp :=
 ⟨h.lb.below hb,h.fb.below hb,h.bb.below hb,owns_below h.own hb,h.yo,h.be.trans (hb.mono h.be.size),fun r hr=>⟨(h.mr r hr).1,(h.mr r hr).2.1,(hb.block r (Array.getElem?_eq_some_iff.1 (h.mr r hr).2.2).1).trans (h.mr r hr).2.2⟩,h.nd⟩
theorem ScL.own_ne (h:ScL w3 W Rs M c0 c1 c2 c3 y ents u l wk wl wm wp) {k:Nat} (hk:k<=w3.heap.size+2):y.ownBlock≠some k:=fun e=>by have:=h.yo k e;omega
theorem ScL.mk_ne (h:ScL w3 W Rs M c0 c1 c2 c3 y ents u l wk wl wm wp) {r:Nat} (hr:r∈Rs):r≠w3.heap.size+1/\r≠w3.heap.size+2/\y.ownBlock≠some r:=by
 have h2:=(h.mr r hr).2.2
 refine ⟨fun e=>?_,fun e=>?_,fun e=>?_⟩
 ·obtain ⟨a,t,z,hh⟩:=row_is_cells h.fb
  rw [e,hh] at h2;cases h2
 ·obtain ⟨a,t,z,hh⟩:=row_is_cells h.bb
  rw [e,hh] at h2;cases h2
 ·rcases h.own.2 with ⟨rfl,_⟩ | ⟨g,cap,cur,rfl,_,hgb,_⟩
  ·cases e
  ·have:g=r:=by simpa [Value.ownBlock] using e
   rw [this,h2] at hgb;cases hgb
theorem ScL.setWas (h:ScL w3 W Rs M c0 c1 c2 c3 y ents u l wk wl wm wp) (k' l' m':Int) (p':ByteArray) :
  ScL w3 ((((W.setCell ⟨w3.heap.size+2,0,none⟩ (.int .i64 k')).setCell ⟨w3.heap.size+2,1,none⟩ (.int .i64 l')).setCell ⟨w3.heap.size+2,2,none⟩ (.int .i64 m')).setCell ⟨w3.heap.size+2,3,none⟩ (.string p')) Rs M c0 c1 c2 c3 y ents u l k' l' m' p':=by
 have far:∀ {g:Nat} {cs:List Value},g≠w3.heap.size+2->Row W g cs->Row ((((W.setCell ⟨w3.heap.size+2,0,none⟩ (.int .i64 k')).setCell ⟨w3.heap.size+2,1,none⟩ (.int .i64 l')).setCell ⟨w3.heap.size+2,2,none⟩ (.int .i64 m')).setCell ⟨w3.heap.size+2,3,none⟩ (.string p')) g cs:=fun hg hr =>
  (((hr.other _ (Ne.symm hg) _).other _ (Ne.symm hg) _).other _ (Ne.symm hg) _).other _ (Ne.symm hg) _
 have hy:=h.own_ne (Nat.le_refl _)
 have bs:∀ {x:World},Below w3.heap.size w3 x->∀ i v,Below w3.heap.size w3 (x.setCell ⟨w3.heap.size+2,i,none⟩ v):=fun hx i v=>hx.setCell (by show w3.heap.size<=w3.heap.size+2;omega) _
 refine ⟨far (by omega) h.lb,far (by omega) h.fb,(((h.bb.set 0 (by simp) _).set 1 (by simp) _).set 2 (by simp) _).set 3 (by simp) _,ownsRow_setCell_other (ownsRow_setCell_other (ownsRow_setCell_other (ownsRow_setCell_other h.own hy _) hy _) hy _) hy _,h.yo,bs (bs (bs (bs h.be _ _) _ _) _ _) _ _,fun r hr=>⟨(h.mr r hr).1,(h.mr r hr).2.1,?_⟩,h.nd⟩
 have hn:=(h.mk_ne hr).2.1
 rw [Below.heap_setCell _ _ _ _ hn,Below.heap_setCell _ _ _ _ hn,Below.heap_setCell _ _ _ _ hn,Below.heap_setCell _ _ _ _ hn]
 exact (h.mr r hr).2.2
theorem ScL.take (h:ScL w3 W Rs M c0 c1 c2 c3 y ents u l wk wl wm wp) {ents':List ByteArray} {u' l':Int} (ht:TkPost w3.heap.size (w3.heap.size+1) y W ents' u' l' W'):∃ y',ScL w3 W' Rs M c0 c1 c2 c3 y' ents' u' l' wk wl wm wp:=by
 obtain ⟨y',hr,ho,hat,hb,hk⟩:=ht
 have rw':∀ {g:Nat} {cs:List Value},g<=w3.heap.size+2->g≠w3.heap.size+1->Row W g cs->Row W' g cs:=fun hg hne hr=>by
  have e:=hk _ hr.lt hne (fun e=>h.own_ne hg e.symm)
  exact ⟨Nat.lt_of_lt_of_le hr.lt hb.size,fun i v hv=>(World.cell?_of_block (a:=⟨_,i,none⟩) e).trans (hr.cell i v hv),fun i hi=>(World.frozen?_of_block (a:=⟨_,i,none⟩) e).trans (hr.froz i hi)⟩
 have l3:=h.bb.lt
 refine ⟨y',rw' (by omega) (by omega) h.lb,hr,rw' (by omega) (by omega) h.bb,ho,fun k e=>?_,h.be.trans hb,fun r hrr=>⟨(h.mr r hrr).1,(h.mr r hrr).2.1,?_⟩,h.nd⟩
 ·rcases hat with e2 | ⟨H,e2,hH⟩
  ·exact h.yo k (e2.symm.trans e)
  ·rw [e2] at e;cases e;omega
 ·have hn:=h.mk_ne hrr
  exact (hk r (Array.getElem?_eq_some_iff.1 (h.mr r hrr).2.2).1 hn.1 (fun e=>hn.2.2 e.symm)).trans (h.mr r hrr).2.2
theorem ScL.takeKeeps (h:ScL w3 W Rs M c0 c1 c2 c3 y ents u l wk wl wm wp) {ents':List ByteArray} {u' l':Int} (ht:TkPost w3.heap.size (w3.heap.size+1) y W ents' u' l' W'):KeepsOthers W W':=by
 obtain ⟨y',hr,ho,hat,hb,hk⟩:=ht
 refine ⟨hb.size,fun k o hko hc=>(hk k (Array.getElem?_eq_some_iff.1 hko).1 (fun e=>?_) (fun e=>?_)).trans hko⟩
 ·obtain ⟨a,t,z,hh⟩:=row_is_cells h.fb
  rw [e,hh] at hko;cases hko;cases hc
 ·rcases h.own.2 with ⟨rfl,_⟩ | ⟨g,cap,cur,rfl,_,hgb,_⟩
  ·cases e
  ·have:k=g:=by simpa [Value.ownBlock] using e
   rw [this,hgb] at hko;cases hko;cases hc
theorem ScL.push (h:ScL w3 W Rs M c0 c1 c2 c3 y ents u l wk wl wm wp) {D:Nat} (hD:W.heap[D]?=some (.deferred (some []))) (hn:M<=D) (h3:w3.heap.size<=D):ScL w3 W (D::Rs) W.heap.size c0 c1 c2 c3 y ents u l wk wl wm wp :=
 ⟨h.lb,h.fb,h.bb,h.own,h.yo,h.be,fun r hr=>by
  rcases List.mem_cons.1 hr with rfl | hr
  ·exact ⟨h3,(Array.getElem?_eq_some_iff.1 hD).1,hD⟩
  ·exact ⟨(h.mr r hr).1,(Array.getElem?_eq_some_iff.1 (h.mr r hr).2.2).1,(h.mr r hr).2.2⟩,List.nodup_cons.2 ⟨fun hm=>by have:=(h.mr D hm).2.1;omega,h.nd⟩⟩
end
structure ScN (w3 W:World) (Rs:List Nat) (b:Nat) (c0 c1 c2 c3:Value) (y:Value) (ents:List ByteArray) (u l wk wl wm:Int) (wp op:ByteArray):Prop where
 sl:ScL w3 W Rs b c0 c1 c2 c3 y ents u l wk wl wm wp
 bu:Lib.IsBuilderF 210 5 b b (Lib.byteCells op.data.toList) W
 g1:W.heap[b+1]?=some (.cells #[c0,c1,c2,c3] 207 (0,0))
 g2:W.heap[b+2]?=some (.cells #[.int .i64 u] 3 (0,0))
 yb:∀ k,y.ownBlock=some k->k<b
 lo:w3.heap.size+2<b
section
variable {w3 W W':World} {Rs:List Nat} {b:Nat} {c0 c1 c2 c3:Value} {y:Value} {ents:List ByteArray} {u l wk wl wm:Int} {wp op:ByteArray}
theorem ScN.kept {row:Option Nat} (h:ScN w3 W Rs b c0 c1 c2 c3 y ents u l wk wl wm wp op) (hg:W.grownBy W' row) (hr:∀ r,row=some r->b<=r/\∃ o:Obj,W.heap[r]?=some o/\o.isCells=false):ScN w3 W' Rs b c0 c1 c2 c3 y ents u l wk wl wm wp op:=by
 have hb:∀ {g:Nat} {a:Array Value} {t:TypeId} {z:Nat×Nat},W.heap[g]?=some (.cells a t z)->W'.heap[g]?=some (.cells a t z):=fun hh=>(hg.block _ (Array.getElem?_eq_some_iff.1 hh).1 (fun e=>by
  obtain ⟨_,o,ho,hc⟩:=hr _ e.symm
  rw [hh] at ho;cases ho;cases hc)).trans hh
 exact ⟨h.sl.kept (by have:=h.lo;omega) hg hr,bu_kept h.bu hg (fun r e=>.inr (hr r e).2),hb h.g1,hb h.g2,h.yb,h.lo⟩
theorem ScN.alloc (h:ScN w3 W Rs b c0 c1 c2 c3 y ents u l wk wl wm wp op) (o:Obj):ScN w3 (W.alloc o) Rs b c0 c1 c2 c3 y ents u l wk wl wm wp op:=h.kept (World.grownBy_alloc W o none) (fun r e=>by cases e)
theorem ScN.setWas (h:ScN w3 W Rs b c0 c1 c2 c3 y ents u l wk wl wm wp op) (k' l' m':Int) (p':ByteArray) :
  ScN w3 ((((W.setCell ⟨w3.heap.size+2,0,none⟩ (.int .i64 k')).setCell ⟨w3.heap.size+2,1,none⟩ (.int .i64 l')).setCell ⟨w3.heap.size+2,2,none⟩ (.int .i64 m')).setCell ⟨w3.heap.size+2,3,none⟩ (.string p')) Rs b c0 c1 c2 c3 y ents u l k' l' m' p' op:=by
 have lo:=h.lo
 have g:∀ (X:World) (i:Nat) (v:Value),X.grownBy (X.setCell ⟨w3.heap.size+2,i,none⟩ v) (some (w3.heap.size+2)):=fun X i v=>⟨rfl,rfl,rfl,by simp,fun k _ hk=>Below.heap_setCell _ _ _ _ (fun e=>hk (by rw [e]))⟩
 have bs:∀ {X:World},Lib.IsBuilderF 210 5 b b (Lib.byteCells op.data.toList) X->∀ i v,Lib.IsBuilderF 210 5 b b (Lib.byteCells op.data.toList) (X.setCell ⟨w3.heap.size+2,i,none⟩ v):=fun hx i v=>bu_kept hx (g _ i v) (fun r e=>by cases e;exact .inl lo)
 have hs:∀ {X:World} {k:Nat} {o:Obj},k≠w3.heap.size+2->X.heap[k]?=some o->∀ i v,(X.setCell ⟨w3.heap.size+2,i,none⟩ v).heap[k]?=some o:=fun hk hx i v=>(Below.heap_setCell _ _ _ _ hk).trans hx
 have n1:b+1≠w3.heap.size+2:=by omega
 have n2:b+2≠w3.heap.size+2:=by omega
 exact ⟨h.sl.setWas k' l' m' p',bs (bs (bs (bs h.bu _ _) _ _) _ _) _ _,hs n1 (hs n1 (hs n1 (hs n1 h.g1 _ _) _ _) _ _) _ _,hs n2 (hs n2 (hs n2 (hs n2 h.g2 _ _) _ _) _ _) _ _,h.yb,h.lo⟩
theorem ScN.wrote (h:ScN w3 W Rs b c0 c1 c2 c3 y ents u l wk wl wm wp op) {op':ByteArray} (hb:Below b W W') (hk:Lib.OthersKept 5 (some b) W W') (hbu:Lib.IsBuilderF 210 5 b b (Lib.byteCells op'.data.toList) W') :
  ScN w3 W' Rs b c0 c1 c2 c3 y ents u l wk wl wm wp op' :=
 ⟨h.sl.low hb h.lo h.yb,hbu,hk _ _ h.g1 (by simp) (by intro c fz e;simp at e),hk _ _ h.g2 (by simp) (by intro c fz e;simp at e),h.yb,h.lo⟩
end
def InS {SF:Nat->ByteArray} {fm:Nat} {wd:Int} {N:Nat} (first:Int) (RES:Scd) (w3:World) (Rs:List Nat) (b:Nat) (c0 c1 c2 c3:Value) (y:Value) (ents:List ByteArray) (u:Nat) (l:Int) (pre:List (Pgs SF fm wd N)) (W:World):Prop :=
 ∃ wk wl wm wp op,ScN w3 W Rs b c0 c1 c2 c3 y ents (u:Int) l wk wl wm wp op/\op.size<=64*pre.length/\Chn first RES u pre wk wl op (ents,(u:Int),l)
def InX {SF:Nat->ByteArray} {fm:Nat} {wd:Int} {N:Nat} (first:Int) (RES:Scd) (w3:World) (Rs:List Nat) (b:Nat) (c0 c1 c2 c3:Value) (y:Value) (ents:List ByteArray) (u:Nat) (l:Int) (c:Code) (pre:List (Pgs SF fm wd N)) (W:World):Prop :=
 (c=.exit 0/\(∃ wk wl wm wp,ScL w3 W Rs b c0 c1 c2 c3 y ents (u:Int) l wk wl wm wp)/\(Good u pre->(ents,(u:Int),l)=RES)) ∨
 (c=.exit 1/\∃ (x:Nat) (y':Value) (ents':List ByteArray) (l' wk wl wm:Int) (wp:ByteArray),ScL w3 W Rs b c0 c1 c2 c3 y' ents' ((x+1:Nat):Int) l' wk wl wm wp/\x<N/\(Good u pre->u<=x/\ents'.length<=ents.length+1/\Chn (S:=SF) (frm:=fm) (n:=wd) (size:=N) first RES (x+1) [] wk wl ByteArray.empty (ents',((x+1:Nat):Int),l')))
section
variable {SF:Nat->ByteArray} {fm:Nat} {wd:Int} {N:Nat} {first:Int} {RES:Scd} {w3:World} {Rs:List Nat} {b:Nat} {c0 c1 c2 c3:Value} {y:Value} {ents:List ByteArray} {u:Nat} {l:Int}
theorem InS.own (B:Nat) (hB:b<=B):OwnFrom B (fun (pre:List (Pgs SF fm wd N)) W=>InS first RES w3 Rs b c0 c1 c2 c3 y ents u l pre W):=by
 rintro s X Y row ⟨wk,wl,wm,wp,op,hn,h1,h2⟩ hg hr
 exact ⟨wk,wl,wm,wp,op,hn.kept hg (fun r e=>⟨Nat.le_trans hB (hr r e).1,(hr r e).2⟩),h1,h2⟩
theorem InX.own (B:Nat) (hB:b<=B) (hlo:w3.heap.size<=b) (c:Code):OwnFrom B (fun (pre:List (Pgs SF fm wd N)) W=>InX first RES w3 Rs b c0 c1 c2 c3 y ents u l c pre W):=by
 rintro s X Y row h hg hr
 have hr':∀ r,row=some r->b<=r/\∃ o:Obj,X.heap[r]?=some o/\o.isCells=false:=fun r e=>⟨Nat.le_trans hB (hr r e).1,(hr r e).2⟩
 rcases h with ⟨hc,⟨wk,wl,wm,wp,hl⟩,hg2⟩ | ⟨hc,x,y',ents',l',wk,wl,wm,wp,hl,hx,hg2⟩
 ·exact .inl ⟨hc,⟨wk,wl,wm,wp,hl.kept hlo hg hr'⟩,hg2⟩
 ·exact .inr ⟨hc,x,y',ents',l',wk,wl,wm,wp,hl.kept hlo hg hr',hx,hg2⟩
end
theorem leaves_marks {F:Fence} {n:Nat} {P:Program} {fn:Func} {tmps:Array Value} {R:Ending->World->Prop} (B:Nat) (Pr:World->Prop) (hput:∀ W r,B<=r->W.heap[r]?=some (.deferred (some []))->Pr W->Pr (W.putObj r (.deferred none))) (hfin:∀ W,Pr W->LeavesIn F n P fn tmps R [] .returning W) :
  ∀ (Rs:List Nat) (W:World),Rs.Nodup->(∀ r∈Rs,B<=r/\W.heap[r]?=some (.deferred (some [])))->Pr W->LeavesInM F n P fn tmps R (Rs.map (fun r=>({ target:=.collected r,args:=#[] }:Deferred))) .returning W
 | [],W,_,_,hp=>hfin W hp
 | r::Rs,W,hn,hm,hp=>by
  have h0:=hm r (List.mem_cons_self ..)
  refine ⟨by simp,.inl ⟨r,_,rfl,run_takeDeferred h0.2,?_⟩⟩
  have hnr:=List.nodup_cons.1 hn
  refine leaves_marks B Pr hput hfin Rs _ hnr.2 (fun q hq=>?_) (hput W r h0.1 h0.2 hp)
  have h1:=hm q (List.mem_cons_of_mem _ hq)
  exact ⟨h1.1,(World.putObj_heap_other (fun e:q=r=>hnr.1 (by rw [<-e];exact hq))).trans h1.2⟩
def ScF1 (w w3:World) (RB:Nat) (y:Value) (ents:List ByteArray) (u l:Int) (X:World):Prop:=Row X RB [y,.int .i64 u,.int .i64 l]/\X.ownsRow w3.heap.size 9 1 y ents.length (ents.map Value.string)/\Below w.heap.size w X
theorem ScF1.put {w w3:World} {RB:Nat} {y:Value} {ents:List ByteArray} {u l:Int} (hw:w.heap.size<=w3.heap.size) (X:World) (r:Nat) (hr:w3.heap.size<=r) (hd:X.heap[r]?=some (.deferred (some []))) (h:ScF1 w w3 RB y ents u l X):ScF1 w w3 RB y ents u l (X.putObj r (.deferred none)):=by
 obtain ⟨h1,h2,h3⟩:=h
 have hrow:∀ q,some r=some q->∃ o:Obj,X.heap[q]?=some o/\o.isCells=false:=fun q e=>by cases e;exact ⟨_,hd,rfl⟩
 exact ⟨row_kept h1 (grownBy_putObj' X r _) (fun q e=>.inr (hrow q e)),own_kept h2 (grownBy_putObj' X r _) hrow,h3.grown (grownBy_putObj' X r _) h3.size (fun k e=>by cases e;omega)⟩
theorem ScL.fin {w w3 W:World} {Rs:List Nat} {M:Nat} {c0 c1 c2 c3:Value} {y:Value} {ents:List ByteArray} {u l wk wl wm:Int} {wp:ByteArray} {RB:Nat} {r0 r1 r2:Value} (h:ScL w3 W Rs M c0 c1 c2 c3 y ents u l wk wl wm wp) (hr:Row w3 RB [r0,r1,r2]) (hR:w.heap.size<=RB) (hb:Below w.heap.size w w3) :
  ScF1 w w3 RB y ents u l (((W.setCell ⟨RB,0,none⟩ y).setCell ⟨RB,1,none⟩ (.int .i64 u)).setCell ⟨RB,2,none⟩ (.int .i64 l))/\(∀ r∈Rs,w3.heap.size<=r/\(((W.setCell ⟨RB,0,none⟩ y).setCell ⟨RB,1,none⟩ (.int .i64 u)).setCell ⟨RB,2,none⟩ (.int .i64 l)).heap[r]?=some (.deferred (some []))):=by
 have hl:=hr.lt
 have hrW:Row W RB [r0,r1,r2]:=⟨Nat.lt_of_lt_of_le hl h.be.size,fun i v hv=>(World.cell?_of_block (a:=⟨_,i,none⟩) (h.be.block _ hl)).trans (hr.cell i v hv),fun i hi=>(World.frozen?_of_block (a:=⟨_,i,none⟩) (h.be.block _ hl)).trans (hr.froz i hi)⟩
 have hy:y.ownBlock≠some RB:=fun e=>by have:=h.yo RB e;omega
 refine ⟨⟨((hrW.set 0 (by simp) _).set 1 (by simp) _).set 2 (by simp) _,ownsRow_setCell_other (ownsRow_setCell_other (ownsRow_setCell_other h.own hy _) hy _) hy _,(((hb.trans (h.be.mono hb.size)).setCell hR _).setCell hR _).setCell hR _⟩,fun r hrr=>⟨(h.mr r hrr).1,?_⟩⟩
 have hn:r≠RB:=by have:=(h.mr r hrr).1;omega
 rw [Below.heap_setCell _ _ _ _ hn,Below.heap_setCell _ _ _ _ hn,Below.heap_setCell _ _ _ _ hn]
 exact (h.mr r hrr).2.2
end Go.Proofs.YtnmaknnnmjfhkagGreatDoor
