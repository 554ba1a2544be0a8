import Derived.Test.YtcoegjnjjdndjaaGreatDoorPrRbWa
import Derived.Test.YtcoegjnjjdndjaaGreatDoorPrRbWb
import Derived.Test.YtcoegjnjjdndjaaGreatDoorPrRbWc
import Derived.Test.YtcoegjnjjdndjaaGreatDoorPrRbWd
import Derived.Test.YtcoegjnjjdndjaaGreatDoorPrRbWe
import Derived.Test.YtcoegjnjjdndjaaGreatDoorPrG44
import Derived.Test.YtcoegjnjjdndjaaGreatDoorPrG48
import Derived.Test.YtcoegjnjjdndjaaGreatDoorPrFbS
set_option maxHeartbeats 16000000
set_option maxRecDepth 8000
set_option linter.unusedVariables false
set_option linter.unusedSimpArgs false
namespace Go.Proofs.YtcoegjnjjdndjaaGreatDoor
open Go.RowKit
theorem pc_size {r k m:ByteArray} (h:pc r=some (k,m)):m.size<=r.size:=by
 have:=congrArg List.length (pc_some h).1
 simp [nums_length] at this
 omega
theorem change_i (r:ByteArray) (w:World) (hs:r.size<=1048576) (h0:0<r.size):Calls Tryz.prog 139 #[.string r] w fun e w'=>chgPost (stpV r) e/\Below w.heap.size w w':=by
 unfold stpV
 by_cases hb:1<b0 r
 ·rw [if_pos hb];exact change_bad r w hs h0 hb
 ·rw [if_neg hb]
  unfold stp
  cases hp:pc (r.extract 1 r.size) with
  | none =>
   rcases Nat.eq_zero_or_pos (b0 r) with h1 | h1
   ·exact change_sn r w hs h0 h1 hp
   ·exact change_gn r w hs h0 (by omega) hp
  | some p =>
   obtain ⟨k,m⟩:=p
   have hmz:m.size<=1048576:=by have:=pc_size hp;simp only [ByteArray.size_extract] at this;omega
   rcases Nat.eq_zero_or_pos (b0 r) with h1 | h1
   ·simp only
    rw [if_neg (by omega)]
    cases hq:pc m with
    | none=>exact change_ssn r w hs h0 h1 k m hp hmz hq
    | some q =>
     obtain ⟨v,m'⟩:=q
     exact rbchange_s r w hs h0 h1 k m hp hmz v m' hq
   ·simp only
    rw [if_pos (by omega)]
    exact change_g r w hs h0 (by omega) k m hp
theorem info_ch':(Tryz.prog.info? 184).map (fun i=>(i.zero,i.size,i.bytes))=some (some (.agg #[.string ByteArray.empty,.string ByteArray.empty,.bool false]),3,40):=by kernel_rfl
theorem info_partsC {P:Program} {e:TypeId} {z:Value} {size bytes:Nat} (h:(P.info? e).map (fun i=>(i.zero,i.size,i.bytes))=some (some z,size,bytes)):∃ i,P.info? e=some i/\i.zero=some z/\i.size=size/\i.bytes=bytes:=by
 obtain ⟨i,hi,hh⟩:=Option.map_eq_some_iff.1 h
 simp only [Prod.mk.injEq] at hh
 exact ⟨i,hi,hh⟩
theorem below_grownC {W w w1:World} {e:TypeId} {size:Nat} {v:Value} {n B:Nat} {xs:List Value} (hb:Below B W w) (own:w.ownsRow B e size v n xs) (hg:w.grownBy w1 v.ownBlock) (hB:B<=w.heap.size):Below B W w1 :=
 hb.trans ⟨hg.os,hg.tape,hg.output,hg.size,fun k hk=>hg.block k (by omega) (fun he=>by have:=(own.lt k he.symm).1;omega)⟩
theorem stp_size {r r1:ByteArray} {c:Ch} (hr:0<r.size) (h:stp r=some (c,r1)):r1.size<r.size/\c.1.size<=255/\c.2.1.size<=255:=by
 obtain ⟨k1,k2,t,k3,k4⟩:=stp_some hr h
 refine ⟨?_,k1,k2⟩
 have e1:=congrArg List.length k3
 have e2:=congrArg List.length k4
 rw [nums_length] at e2
 rw [List.length_append,nums_length] at e1
 have e3:2<=(chN c).length:=by unfold chN;split<;>simp<;>omega
 simp only [List.length_cons] at e1 e2
 omega
def RbPost (w w':World) (e:Ending) (res:Option (List Ch)):Prop:=∃ a c,e=.returned (.tuple #[.slice a (res.getD []).length c,.bool res.isSome])/\OwnS w' a (chcells (res.getD []))/\(∀ g,blk a (res.getD []).length=some g->w.heap.size<=g)/\Below w.heap.size w w'
theorem rbPost_none {w w':World} {v:Value} {a:Option Addr} {c:Nat} (hv:v=.tuple #[.slice a 0 c,.bool false]) (hb:Below w.heap.size w w'):RbPost w w' (.returned v) none:=⟨a,c,by rw [hv];rfl,.inl rfl,fun g h=>(by cases h),hb⟩
theorem rbPost_some {w w':World} {v y:Value} {o:List Ch} {e:TypeId} (h:w'.ownsRow w.heap.size e 3 y o.length (chcells o)) (hv:v=.tuple #[y,.bool true]) (hb:Below w.heap.size w w'):RbPost w w' (.returned v) (some o):=by
 rcases owns_forms h with ⟨h1,h2⟩ | ⟨g,cap,h1,h2,_,h3⟩
 ·have:o=[]:=List.eq_nil_of_length_eq_zero h2
  subst this
  exact ⟨none,0,by rw [hv,h1];rfl,.inl rfl,fun g h=>(by cases h),hb⟩
 ·refine ⟨_,cap,by rw [hv,h1];rfl,.inr ⟨g,rfl,h3⟩,fun g' hg'=>?_,hb⟩
  simp only [Option.getD_some] at hg'
  by_cases h0:o.length=0
  ·rw [h0] at hg';cases hg'
  ·rw [blk_pos g 0 _ h0] at hg';cases hg';exact h2
theorem owns_chs {w:World} {B:Nat} {e:TypeId} {y:Value} {o:List Ch} (h:w.ownsRow B e 3 y o.length (chcells o)):∃ a c,y=.slice a o.length c/\Chs w a o:=by
 rcases owns_forms h with ⟨h1,h2⟩ | ⟨g,cap,h1,h2,_,h3⟩
 ·have:o=[]:=List.eq_nil_of_length_eq_zero h2
  subst this
  exact ⟨none,0,h1,.inl rfl⟩
 ·exact ⟨_,cap,h1,h3.chs⟩
theorem chcells_snoc (o:List Ch) (c:Ch):chcells (o++[c])=chcells o++[.string c.1,.string c.2.1,.bool c.2.2]:=by rw [chcells_append];rfl
theorem news2 (w:World) (A:Obj) (cs:Array Value) (t:TypeId):∀ j u,cs.toList[j]?=some u->((w.alloc A).alloc (.cells cs t)).cell? ((⟨w.heap.size+1,0,none⟩:Addr).add j)=some u:=by
 have h:=heap_alloc_new (w.alloc A) (.cells cs t)
 rw [World.size_alloc] at h
 exact World.news_of_block h
theorem oneC (k v:ByteArray) (g:Bool):∀ u∈[Value.string k,.string v,.bool g],u.oneCell'=true:=by
 intro u hu
 simp only [List.mem_cons,List.not_mem_nil,or_false] at hu
 rcases hu with rfl | rfl | rfl<;>rfl
set_option maxHeartbeats 16000000 in
theorem read_i (s:ByteArray) (w:World) (hs:s.size<=1048576):Calls Tryz.prog 111 #[.string s] w fun e w'=>RbPost w w' e (resI s):=by
 obtain ⟨R,HR⟩:∃ R,Hid (R=resI s):=⟨_,hid rfl⟩
 rw [<-HR.out]
 obtain ⟨i0,hi0,hz0,hz1,hz2⟩:=info_partsC info_ch'
 have HI:=hid (And.intro hi0 (And.intro hz0 (And.intro hz1 hz2)))
 clear hi0 hz0 hz1 hz2
 go_enter Tryz.func111,Tryz.ntmps111
 go_wp2_with fail
 go_loopw [0,4] (fun x y wr=>∃ (j:Nat) (o:List Ch) (r:ByteArray),x=.string r/\j+o.length=21/\r.size<=1048576/\Hid (runI j r o=runI 21 s [])/\Hid (∀ z∈o,z.1.size<=1048576/\z.2.1.size<=1048576)/\wr.ownsRow w.heap.size 184 3 y o.length (chcells o)/\Below w.heap.size w wr) (fun x _ _=>match x with | .string r=>r.size | _=>0)
 case atStart=>exact ⟨21,[],s,rfl,rfl,hs,rfl,fun z hz=>(by simp at hz),World.ownsRow_nil _ _ _ _,Below.refl _ _⟩
 case round =>
  obtain ⟨j,o,r,rfl,hj,hrz,HRN,HOZ,hown,hbel⟩:=hrel
  obtain ⟨ya,yc,rfl,hchs⟩:=owns_chs hown
  have HO:=hid hown
  have HB:=hid hbel
  have hsz:=hbel.size
  have HC:=hid hchs
  clear hown hbel hchs
  have fin:∀ (b:Bool),Hid (runI j r o=some (o,r))->Hid (R=if batchOk o=true then some o else none):=fun b hh=>by
   show _=_
   have:=HRN.out
   rw [hh.out] at this
   rw [HR.out]
   unfold resI
   rw [<-this]
  by_cases h0:r.size=0
  ·have he:r.toList.isEmpty=true:=by rw [isEmpty_size];exact decide_eq_true h0
   have HF:=fin true (by show _=_;cases j<;>simp [runI,h0])
   clear fin
   cases hok:batchOk o with
   | true =>
    rw [hok,if_pos rfl] at HF
    go_wp2_with (go_at_call 140;refine (vbatch_i _ o _ _ HC.out (by omega) HOZ.out).mono ?_;rw [hok];rintro e w2 ⟨rfl,hb2⟩)
    go_ret2
    rw [HF.out]
    exact rbPost_some (owns_below HO.out hb2) rfl (HB.out.trans (hb2.mono hsz))
   | false =>
    rw [hok,if_neg (by simp)] at HF
    go_wp2_with (go_at_call 140;refine (vbatch_i _ o _ _ HC.out (by omega) HOZ.out).mono ?_;rw [hok];rintro e w2 ⟨rfl,hb2⟩)
    go_ret2
    rw [HF.out]
    exact rbPost_none rfl (by first | exact HB.out.trans (hb2.mono hsz) | exact (HB.out.trans (hb2.mono hsz)).alloc (by have:=hb2.size;omega) _)
  ·have he:r.toList.isEmpty=false:=by rw [isEmpty_size];exact decide_eq_false h0
   by_cases hl:(o.length:Int)<=20
   ·obtain ⟨j',rfl⟩:∃ j',j=j'+1:=⟨j-1,by omega⟩
    have HRN2:=HRN.out
    rw [runI,if_neg h0] at HRN2
    have HPC:=hid (change_i r · hrz (by omega))
    clear fin
    by_cases hbad:1<b0 r
    ·have hst:stpV r=none:=by unfold stpV;exact if_pos hbad
     rw [if_pos hbad] at HRN2
     have HF:Hid (R=none):=by show _=_;rw [HR.out];unfold resI;rw [<-HRN2]
     rw [hst] at HPC
     clear hbad hst
     go_wp2_with (go_at_call 139;refine (HPC.out _).mono ?_;rintro e w2 ⟨⟨a1,a2,a3,a4,rfl⟩,hb2⟩)
     go_ret2
     rw [HF.out]
     exact rbPost_none rfl (by first | exact HB.out.trans (hb2.mono hsz) | exact (HB.out.trans (hb2.mono hsz)).alloc (by have:=hb2.size;omega) _)
    ·rw [if_neg hbad] at HRN2
     have hst:stpV r=stp r:=by unfold stpV;exact if_neg hbad
     rw [hst] at HPC
     clear hbad hst
     cases hq:stp r with
     | none =>
      rw [hq] at HRN2 HPC
      have HF:Hid (R=none):=by show _=_;rw [HR.out];unfold resI;rw [<-HRN2]
      clear hq
      go_wp2_with (go_at_call 139;refine (HPC.out _).mono ?_;rintro e w2 ⟨⟨a1,a2,a3,a4,rfl⟩,hb2⟩)
      go_ret2
      rw [HF.out]
      exact rbPost_none rfl (by first | exact HB.out.trans (hb2.mono hsz) | exact (HB.out.trans (hb2.mono hsz)).alloc (by have:=hb2.size;omega) _)
     | some p =>
      obtain ⟨⟨ck,cv,cg⟩,r1⟩:=p
      obtain ⟨q1,q2,q3⟩:=stp_size (by omega) hq
      rw [hq] at HRN2 HPC
      have HR2:Hid (runI j' r1 (o++[(ck,cv,cg)])=runI 21 s []):=HRN2
      clear hq HRN2 HRN
      simp only at q2 q3
      go_wp2_with (first | (go_at_call 139;refine (HPC.out _).mono ?_;rintro e w2 ⟨he2,hb2⟩;simp only [chgPost] at he2;subst he2;have hs2:=hb2.size;have HO5:=hid (((owns_below HO.out hb2).alloc (.cells #[.string ck,.string cv,.bool cg] 184)).alloc (.cells #[.string ck,.string cv,.bool cg] 184));have HB5:=hid (((HB.out.trans (hb2.mono hsz)).alloc (by omega) (.cells #[.string ck,.string cv,.bool cg] 184)).alloc (by simp;omega) (.cells #[.string ck,.string cv,.bool cg] 184));clear hb2) | (at_builtin;refine wpList_append_lies _ rfl _ _ 129 rfl w.heap.size 184 i0 (.agg #[.string ByteArray.empty,.string ByteArray.empty,.bool false]) 3 40 Tryz.underlying129 HI.out.1 HI.out.2.1 HI.out.2.2.1 HI.out.2.2.2 rfl (by omega) _ o.length _ rfl HO5.out ⟨w2.heap.size+1,0,none⟩ 1 1 [.string ck,.string cv,.bool cg] rfl rfl (news2 w2 _ _ _) (oneC _ _ _) (by omega) (by unfold maxLen;omega) (by omega) (by simp;omega) (w2.heap.size+1+1) (by simp) ?_;intro g cap w7 hown7 hgrow7 hat7 hlt7;have HO7:=hid hown7;have HB7:=hid (below_grownC HB5.out HO5.out hgrow7 (by simp;omega));clear hown7 hgrow7 hat7))
      refine ⟨⟨j',o++[(ck,cv,cg)],r1,rfl,by simp;omega,by omega,HR2.out,fun z hz=>?_,?_,HB7.out⟩,by simp only;omega⟩
      ·rcases List.mem_append.1 hz with hz | hz
       ·exact HOZ.out z hz
       ·simp at hz;subst hz;exact ⟨by simp only;omega,by simp only;omega⟩
      ·rw [chcells_snoc,List.length_append];exact HO7.out
   ·have hj0:j=0:=by omega
    subst hj0
    have HF:=fin true rfl
    clear fin
    have hok:batchOk o=false:=batchOk_no1 (by omega)
    rw [hok,if_neg (by simp)] at HF
    go_wp2_with (go_at_call 140;refine (vbatch_i _ o _ _ HC.out (by omega) HOZ.out).mono ?_;rw [hok];rintro e w2 ⟨rfl,hb2⟩)
    go_ret2
    rw [HF.out]
    exact rbPost_none rfl (HB.out.trans (hb2.mono hsz))
theorem own_set {w:World} {B:Nat} {e:TypeId} {size:Nat} {y:Value} {n b i:Nat} {xs:List Value} (h:w.ownsRow B e size y n xs) (hne:y.ownBlock≠some b) (u:Value):(w.setCell ⟨b,i,none⟩ u).ownsRow B e size y n xs:=ownsRow_setCell_other h hne u
theorem news3 (X:World) (b:Nat) (hb:X.heap.size=b) (cs:Array Value) (t:TypeId):∀ j u,cs.toList[j]?=some u->(X.alloc (.cells cs t)).cell? ((⟨b,0,none⟩:Addr).add j)=some u:=by
 subst hb;exact World.news_of_block (heap_alloc_new X _)
set_option maxHeartbeats 16000000 in
theorem read_s (s:ByteArray) (w:World) (hs:s.size<=1048576):Calls Tryz.prog 85 #[.string s] w fun e w'=>RbPost w w' e (resS s):=by
 have hb0:∀ o,Below w.heap.size w (w.alloc o):=fun o=>(Below.refl _ _).alloc (Nat.le_refl _) _
 obtain ⟨R,HR⟩:∃ R,Hid (R=resS s):=⟨_,hid rfl⟩
 rw [<-HR.out]
 obtain ⟨i0,hi0,hz0,hz1,hz2⟩:=info_partsC info_ch'
 have HI:=hid (And.intro hi0 (And.intro hz0 (And.intro hz1 hz2)))
 clear hi0 hz0 hz1 hz2
 go_enter Tryz.func85,Tryz.ntmps85
 go_wp2_with fail
 go_loopw [4,5] (fun y x wr=>∃ (j:Nat) (o:List Ch) (r:ByteArray),x=.string r/\j+o.length=21/\r.size<=1048576/\Hid (run j r o=run 21 s [])/\Hid (∀ z∈o,z.1.size<=1048576/\z.2.1.size<=1048576)/\wr.ownsRow w.heap.size 184 3 y o.length (chcells o)/\Below w.heap.size w wr) (fun _ x _=>match x with | .string r=>r.size | _=>0)
 case atStart=>exact ⟨21,[],s,rfl,rfl,hs,rfl,fun z hz=>(by simp at hz),World.ownsRow_lit _ #[] 0 (Nat.le_refl _) (by simp) (by simp),hb0 _⟩
 case round =>
  obtain ⟨j,o,r,rfl,hj,hrz,HRN,HOZ,hown,hbel⟩:=hrel
  obtain ⟨ya,yc,rfl,hchs⟩:=owns_chs hown
  have HO:=hid hown
  have HB:=hid hbel
  have hsz:=hbel.size
  have HC:=hid hchs
  clear hown hbel hchs
  have hneq:(Value.slice ya o.length yc).ownBlock≠some wr.heap.size:=fun h=>by have:=(HO.out.lt _ h).2;omega
  have fin:Hid (run j r o=some (o,r))->Hid (R=if s.size≠0/\bOut o=s then some o else none):=fun hh=>by
   show _=_
   have:=HRN.out
   rw [hh.out] at this
   rw [HR.out]
   unfold resS
   rw [<-this]
  by_cases h0:0<(r.size:Int)
  ·by_cases hl:(o.length:Int)<=20
   ·obtain ⟨j',rfl⟩:∃ j',j=j'+1:=⟨j-1,by omega⟩
    have HRN2:=HRN.out
    rw [run,if_neg (by omega)] at HRN2
    have hg:=get0 r (by omega)
    obtain ⟨b,hb⟩:∃ b,b=b0 r:=⟨_,rfl⟩
    have hbl:b<=255:=by rw [hb];exact b0_lt r
    rw [<-hb] at hg
    have hsz1:(r.extract 1 r.size).size<=1048576:=by simp only [ByteArray.size_extract];omega
    clear fin
    cases hp:pc (r.extract 1 r.size) with
    | none =>
     have HP:=hid (pcV_none hp)
     have HF:Hid (R=none):=by
      show _=_
      have e:stp r=none:=by unfold stp;rw [hp]
      rw [e] at HRN2
      rw [HR.out];unfold resS;rw [<-HRN2]
     clear hp hb HRN2
     by_cases hb1:b=1
     ·subst hb1
      go_wp2_with (go_at_call 126;refine (piece_s _ _ hsz1).mono ?_;rw [HP.out];rintro e w2 ⟨rfl,hb2⟩;have hsw2:=hb2.size;simp only [World.size_alloc,World.size_setCell] at hsw2;have c0:w2.cell? ⟨wr.heap.size,0,none⟩=some (.string ⟨#[]⟩):=(hb2.cell (p:=⟨wr.heap.size,0,none⟩) (by simp<;>omega)).trans (by go_simp);have cf0:w2.frozen? ⟨wr.heap.size,0,none⟩=false:=(hb2.frozen (p:=⟨wr.heap.size,0,none⟩) (by simp<;>omega)).trans (by go_simp);have c1:w2.cell? ⟨wr.heap.size,1,none⟩=some (.string ⟨#[]⟩):=(hb2.cell (p:=⟨wr.heap.size,1,none⟩) (by simp<;>omega)).trans (by go_simp);have cf1:w2.frozen? ⟨wr.heap.size,1,none⟩=false:=(hb2.frozen (p:=⟨wr.heap.size,1,none⟩) (by simp<;>omega)).trans (by go_simp);have c2:w2.cell? ⟨wr.heap.size,2,none⟩=some (.bool true):=(hb2.cell (p:=⟨wr.heap.size,2,none⟩) (by simp<;>omega)).trans (by go_simp);have cf2:w2.frozen? ⟨wr.heap.size,2,none⟩=false:=(hb2.frozen (p:=⟨wr.heap.size,2,none⟩) (by simp<;>omega)).trans (by go_simp);have HB2:=hid (HB.out.trans ((bs0 hb2).mono hsz));have HO2:=hid (owns_below (HO.out.alloc _) hb2);clear hb2)
      go_ret2
      rw [HF.out]
      exact rbPost_none rfl (HB2.out.alloc (by omega) _)
     ·have hb2:((b:Int) == 1)=false:=by simp;omega
      go_wp2_with (go_at_call 126;refine (piece_s _ _ hsz1).mono ?_;rw [HP.out];rintro e w2 ⟨rfl,hb2⟩;have hsw2:=hb2.size;simp only [World.size_alloc,World.size_setCell] at hsw2;have c0:w2.cell? ⟨wr.heap.size,0,none⟩=some (.string ⟨#[]⟩):=(hb2.cell (p:=⟨wr.heap.size,0,none⟩) (by simp<;>omega)).trans (by go_simp);have cf0:w2.frozen? ⟨wr.heap.size,0,none⟩=false:=(hb2.frozen (p:=⟨wr.heap.size,0,none⟩) (by simp<;>omega)).trans (by go_simp);have c1:w2.cell? ⟨wr.heap.size,1,none⟩=some (.string ⟨#[]⟩):=(hb2.cell (p:=⟨wr.heap.size,1,none⟩) (by simp<;>omega)).trans (by go_simp);have cf1:w2.frozen? ⟨wr.heap.size,1,none⟩=false:=(hb2.frozen (p:=⟨wr.heap.size,1,none⟩) (by simp<;>omega)).trans (by go_simp);have c2:w2.cell? ⟨wr.heap.size,2,none⟩=some (.bool false):=(hb2.cell (p:=⟨wr.heap.size,2,none⟩) (by simp<;>omega)).trans (by go_simp);have cf2:w2.frozen? ⟨wr.heap.size,2,none⟩=false:=(hb2.frozen (p:=⟨wr.heap.size,2,none⟩) (by simp<;>omega)).trans (by go_simp);have HB2:=hid (HB.out.trans ((bs0 hb2).mono hsz));have HO2:=hid (owns_below (HO.out.alloc _) hb2);clear hb2)
      go_ret2
      rw [HF.out]
      exact rbPost_none rfl (HB2.out.alloc (by omega) _)
    | some p =>
     obtain ⟨k,m⟩:=p
     have HP:=hid (pcV_some hp)
     have hmz:m.size<=1048576:=by have:=pc_size hp;simp only [ByteArray.size_extract] at this;omega
     by_cases hb1:b=1
     ·have e:stp r=some ((k,ByteArray.empty,true),m):=by unfold stp;rw [hp];simp only;rw [if_pos (by omega)]
      obtain ⟨q1,q2,q3⟩:=stp_size (by omega) e
      rw [e] at HRN2
      have HR2:Hid (run j' m (o++[(k,ByteArray.empty,true)])=run 21 s []):=HRN2
      simp only at q2 q3
      clear hp hb HRN2 e
      subst hb1
      go_wp2_with (first | (go_at_call 126;refine (piece_s _ _ hsz1).mono ?_;rw [HP.out];rintro e w2 ⟨rfl,hb2⟩;have hsw2:=hb2.size;simp only [World.size_alloc,World.size_setCell] at hsw2;have c0:w2.cell? ⟨wr.heap.size,0,none⟩=some (.string ⟨#[]⟩):=(hb2.cell (p:=⟨wr.heap.size,0,none⟩) (by simp<;>omega)).trans (by go_simp);have cf0:w2.frozen? ⟨wr.heap.size,0,none⟩=false:=(hb2.frozen (p:=⟨wr.heap.size,0,none⟩) (by simp<;>omega)).trans (by go_simp);have c1:w2.cell? ⟨wr.heap.size,1,none⟩=some (.string ⟨#[]⟩):=(hb2.cell (p:=⟨wr.heap.size,1,none⟩) (by simp<;>omega)).trans (by go_simp);have cf1:w2.frozen? ⟨wr.heap.size,1,none⟩=false:=(hb2.frozen (p:=⟨wr.heap.size,1,none⟩) (by simp<;>omega)).trans (by go_simp);have c2:w2.cell? ⟨wr.heap.size,2,none⟩=some (.bool true):=(hb2.cell (p:=⟨wr.heap.size,2,none⟩) (by simp<;>omega)).trans (by go_simp);have cf2:w2.frozen? ⟨wr.heap.size,2,none⟩=false:=(hb2.frozen (p:=⟨wr.heap.size,2,none⟩) (by simp<;>omega)).trans (by go_simp);have HB2:=hid (HB.out.trans ((bs0 hb2).mono hsz));have HO2:=hid (owns_below (HO.out.alloc _) hb2);clear hb2) | (at_builtin;refine wpList_append_lies _ rfl _ _ 129 rfl w.heap.size 184 i0 (.agg #[.string ByteArray.empty,.string ByteArray.empty,.bool false]) 3 40 Tryz.underlying129 HI.out.1 HI.out.2.1 HI.out.2.2.1 HI.out.2.2.2 rfl (by omega) _ o.length _ rfl ((own_set HO2.out hneq (.string k)).alloc (.cells #[.string k,.string ⟨#[]⟩,.bool true] 184)) ⟨w2.heap.size,0,none⟩ 1 1 [.string k,.string ⟨#[]⟩,.bool true] rfl rfl (news3 _ _ (by simp) _ _) (oneC _ _ _) (by omega) (by unfold maxLen;omega) (by omega) (by simp;omega) (w2.heap.size+1) (by simp) ?_;intro ga cap w7 hown7 hgrow7 hat7 hlt7;have HO7:=hid hown7;have HB7:=hid (below_grownC ((HB2.out.setCell (p:=⟨wr.heap.size,0,none⟩) hsz (.string k)).alloc (by simp;omega) _) ((own_set HO2.out hneq (.string k)).alloc _) hgrow7 (by simp;omega));clear hown7 hgrow7 hat7))
      refine ⟨⟨j',o++[(k,ByteArray.empty,true)],m,rfl,by simp;omega,by omega,HR2.out,fun z hz=>?_,?_,HB7.out⟩,by simp only;omega⟩
      ·rcases List.mem_append.1 hz with hz | hz
       ·exact HOZ.out z hz
       ·simp at hz;subst hz;exact ⟨by simp only;omega,by simp only;first | omega | simp⟩
      ·rw [chcells_snoc,List.length_append];exact HO7.out
     ·have hb2:((b:Int) == 1)=false:=by simp;omega
      have hszm:m.size<=1048576:=hmz
      cases hq:pc m with
      | none =>
       have HQ:=hid (pcV_none hq)
       have HF:Hid (R=none):=by
        show _=_
        have e:stp r=none:=by unfold stp;rw [hp];simp only;rw [if_neg (by omega),hq]
        rw [e] at HRN2
        rw [HR.out];unfold resS;rw [<-HRN2]
       clear hp hq hb HRN2
       go_wp2_with (first | (have _g:=HB2;go_at_call 126;refine (piece_s _ _ hszm).mono ?_;rw [HQ.out];rintro e w3 ⟨rfl,hb3⟩;have hsw3:=hb3.size;simp only [World.size_alloc,World.size_setCell] at hsw3;have d0:w3.cell? ⟨wr.heap.size,0,none⟩=some (.string k):=(hb3.cell (p:=⟨wr.heap.size,0,none⟩) (by simp<;>omega)).trans (by go_simp);have df0:w3.frozen? ⟨wr.heap.size,0,none⟩=false:=(hb3.frozen (p:=⟨wr.heap.size,0,none⟩) (by simp<;>omega)).trans (by go_simp);have d1:w3.cell? ⟨wr.heap.size,1,none⟩=some (.string ⟨#[]⟩):=(hb3.cell (p:=⟨wr.heap.size,1,none⟩) (by simp<;>omega)).trans (by go_simp);have df1:w3.frozen? ⟨wr.heap.size,1,none⟩=false:=(hb3.frozen (p:=⟨wr.heap.size,1,none⟩) (by simp<;>omega)).trans (by go_simp);have d2:w3.cell? ⟨wr.heap.size,2,none⟩=some (.bool false):=(hb3.cell (p:=⟨wr.heap.size,2,none⟩) (by simp<;>omega)).trans (by go_simp);have df2:w3.frozen? ⟨wr.heap.size,2,none⟩=false:=(hb3.frozen (p:=⟨wr.heap.size,2,none⟩) (by simp<;>omega)).trans (by go_simp);have HB3:=hid ((HB2.out.setCell (p:=⟨wr.heap.size,0,none⟩) hsz (.string k)).trans (hb3.mono (by simp<;>omega)));have HO3:=hid (owns_below (own_set HO2.out hneq (.string k)) hb3);clear hb3 c0 c1 c2 cf0 cf1 cf2) | (go_at_call 126;refine (piece_s _ _ hsz1).mono ?_;rw [HP.out];rintro e w2 ⟨rfl,hb2⟩;have hsw2:=hb2.size;simp only [World.size_alloc,World.size_setCell] at hsw2;have c0:w2.cell? ⟨wr.heap.size,0,none⟩=some (.string ⟨#[]⟩):=(hb2.cell (p:=⟨wr.heap.size,0,none⟩) (by simp<;>omega)).trans (by go_simp);have cf0:w2.frozen? ⟨wr.heap.size,0,none⟩=false:=(hb2.frozen (p:=⟨wr.heap.size,0,none⟩) (by simp<;>omega)).trans (by go_simp);have c1:w2.cell? ⟨wr.heap.size,1,none⟩=some (.string ⟨#[]⟩):=(hb2.cell (p:=⟨wr.heap.size,1,none⟩) (by simp<;>omega)).trans (by go_simp);have cf1:w2.frozen? ⟨wr.heap.size,1,none⟩=false:=(hb2.frozen (p:=⟨wr.heap.size,1,none⟩) (by simp<;>omega)).trans (by go_simp);have c2:w2.cell? ⟨wr.heap.size,2,none⟩=some (.bool false):=(hb2.cell (p:=⟨wr.heap.size,2,none⟩) (by simp<;>omega)).trans (by go_simp);have cf2:w2.frozen? ⟨wr.heap.size,2,none⟩=false:=(hb2.frozen (p:=⟨wr.heap.size,2,none⟩) (by simp<;>omega)).trans (by go_simp);have HB2:=hid (HB.out.trans ((bs0 hb2).mono hsz));have HO2:=hid (owns_below (HO.out.alloc _) hb2);clear hb2))
       go_ret2
       rw [HF.out]
       exact rbPost_none rfl (HB3.out.alloc (by omega) _)
      | some q =>
       obtain ⟨v,m'⟩:=q
       have HQ:=hid (pcV_some hq)
       have e:stp r=some ((k,v,false),m'):=by unfold stp;rw [hp];simp only;rw [if_neg (by omega),hq]
       obtain ⟨q1,q2,q3⟩:=stp_size (by omega) e
       rw [e] at HRN2
       have HR2:Hid (run j' m' (o++[(k,v,false)])=run 21 s []):=HRN2
       simp only at q2 q3
       clear hp hq hb HRN2 e
       go_wp2_with (first | (have _g:=HB2;go_at_call 126;refine (piece_s _ _ hszm).mono ?_;rw [HQ.out];rintro e w3 ⟨rfl,hb3⟩;have hsw3:=hb3.size;simp only [World.size_alloc,World.size_setCell] at hsw3;have d0:w3.cell? ⟨wr.heap.size,0,none⟩=some (.string k):=(hb3.cell (p:=⟨wr.heap.size,0,none⟩) (by simp<;>omega)).trans (by go_simp);have df0:w3.frozen? ⟨wr.heap.size,0,none⟩=false:=(hb3.frozen (p:=⟨wr.heap.size,0,none⟩) (by simp<;>omega)).trans (by go_simp);have d1:w3.cell? ⟨wr.heap.size,1,none⟩=some (.string ⟨#[]⟩):=(hb3.cell (p:=⟨wr.heap.size,1,none⟩) (by simp<;>omega)).trans (by go_simp);have df1:w3.frozen? ⟨wr.heap.size,1,none⟩=false:=(hb3.frozen (p:=⟨wr.heap.size,1,none⟩) (by simp<;>omega)).trans (by go_simp);have d2:w3.cell? ⟨wr.heap.size,2,none⟩=some (.bool false):=(hb3.cell (p:=⟨wr.heap.size,2,none⟩) (by simp<;>omega)).trans (by go_simp);have df2:w3.frozen? ⟨wr.heap.size,2,none⟩=false:=(hb3.frozen (p:=⟨wr.heap.size,2,none⟩) (by simp<;>omega)).trans (by go_simp);have HB3:=hid ((HB2.out.setCell (p:=⟨wr.heap.size,0,none⟩) hsz (.string k)).trans (hb3.mono (by simp<;>omega)));have HO3:=hid (owns_below (own_set HO2.out hneq (.string k)) hb3);clear hb3 c0 c1 c2 cf0 cf1 cf2) | (go_at_call 126;refine (piece_s _ _ hsz1).mono ?_;rw [HP.out];rintro e w2 ⟨rfl,hb2⟩;have hsw2:=hb2.size;simp only [World.size_alloc,World.size_setCell] at hsw2;have c0:w2.cell? ⟨wr.heap.size,0,none⟩=some (.string ⟨#[]⟩):=(hb2.cell (p:=⟨wr.heap.size,0,none⟩) (by simp<;>omega)).trans (by go_simp);have cf0:w2.frozen? ⟨wr.heap.size,0,none⟩=false:=(hb2.frozen (p:=⟨wr.heap.size,0,none⟩) (by simp<;>omega)).trans (by go_simp);have c1:w2.cell? ⟨wr.heap.size,1,none⟩=some (.string ⟨#[]⟩):=(hb2.cell (p:=⟨wr.heap.size,1,none⟩) (by simp<;>omega)).trans (by go_simp);have cf1:w2.frozen? ⟨wr.heap.size,1,none⟩=false:=(hb2.frozen (p:=⟨wr.heap.size,1,none⟩) (by simp<;>omega)).trans (by go_simp);have c2:w2.cell? ⟨wr.heap.size,2,none⟩=some (.bool false):=(hb2.cell (p:=⟨wr.heap.size,2,none⟩) (by simp<;>omega)).trans (by go_simp);have cf2:w2.frozen? ⟨wr.heap.size,2,none⟩=false:=(hb2.frozen (p:=⟨wr.heap.size,2,none⟩) (by simp<;>omega)).trans (by go_simp);have HB2:=hid (HB.out.trans ((bs0 hb2).mono hsz));have HO2:=hid (owns_below (HO.out.alloc _) hb2);clear hb2) | (at_builtin;refine wpList_append_lies _ rfl _ _ 129 rfl w.heap.size 184 i0 (.agg #[.string ByteArray.empty,.string ByteArray.empty,.bool false]) 3 40 Tryz.underlying129 HI.out.1 HI.out.2.1 HI.out.2.2.1 HI.out.2.2.2 rfl (by omega) _ o.length _ rfl ((own_set HO3.out hneq (.string v)).alloc (.cells #[.string k,.string v,.bool false] 184)) ⟨w3.heap.size,0,none⟩ 1 1 [.string k,.string v,.bool false] rfl rfl (news3 _ _ (by simp) _ _) (oneC _ _ _) (by omega) (by unfold maxLen;omega) (by omega) (by simp;omega) (w3.heap.size+1) (by simp) ?_;intro ga cap w7 hown7 hgrow7 hat7 hlt7;have HO7:=hid hown7;have HB7:=hid (below_grownC ((HB3.out.setCell (p:=⟨wr.heap.size,1,none⟩) hsz (.string v)).alloc (by simp;omega) _) ((own_set HO3.out hneq (.string v)).alloc _) hgrow7 (by simp;omega));clear hown7 hgrow7 hat7))
       refine ⟨⟨j',o++[(k,v,false)],m',rfl,by simp;omega,by omega,HR2.out,fun z hz=>?_,?_,HB7.out⟩,by simp only;omega⟩
       ·rcases List.mem_append.1 hz with hz | hz
        ·exact HOZ.out z hz
        ·simp at hz;subst hz;exact ⟨by simp only;omega,by simp only;first | omega | simp⟩
       ·rw [chcells_snoc,List.length_append];exact HO7.out
   ·have hj0:j=0:=by omega
    subst hj0
    have HF:=fin rfl
    clear fin HRN
    by_cases hz:s.size=0
    ·have hz1:((s.size:Int) == 0)=true:=by rw [beq_iff_eq];omega
     rw [if_neg (fun hh=>hh.1 hz)] at HF
     go_wp2
     go_ret2
     rw [HF.out]
     exact rbPost_none rfl (HB.out.alloc hsz _)
    ·have hz1:((s.size:Int) == 0)=false:=by rw [beq_eq_false_iff_ne];omega
     by_cases hF:bOut o=s
     ·rw [if_pos ⟨hz,hF⟩] at HF
      have HFF:=hid hF
      clear hF
      go_wp2_with (go_at_call 89;refine (formbatch_s _ o _ _ HC.out (by omega) HOZ.out).mono ?_;rw [HFF.out];rintro e w2 ⟨rfl,hb2⟩)
      go_ret2
      rw [HF.out]
      exact rbPost_some (owns_below HO.out hb2) rfl (HB.out.trans (hb2.mono hsz))
     ·rw [if_neg (fun hh=>hF hh.2)] at HF
      obtain ⟨G,HG⟩:∃ G,Hid (G=bOut o):=⟨_,hid rfl⟩
      have hG:(!G.toList == s.toList)=true:=by rw [HG.out];simp only [Bool.not_eq_true',beq_eq_false_iff_ne];intro hh;rw [ByteArray.toList_eq,ByteArray.toList_eq] at hh;exact hF (ByteArray.ext (Array.ext' hh))
      clear hF
      go_wp2_with (go_at_call 89;refine (formbatch_s _ o _ _ HC.out (by omega) HOZ.out).mono ?_;rw [<-HG.out];rintro e w2 ⟨rfl,hb2⟩)
      go_ret2
      rw [HF.out]
      exact rbPost_none rfl ((HB.out.trans (hb2.mono hsz)).alloc (by have:=hb2.size;omega) _)
  ·have HF:=fin (by show _=_;exact run_nil _ _ _ (by omega))
   clear fin HRN
   by_cases hz:s.size=0
   ·have hz1:((s.size:Int) == 0)=true:=by rw [beq_iff_eq];omega
    rw [if_neg (fun hh=>hh.1 hz)] at HF
    go_wp2
    go_ret2
    rw [HF.out]
    exact rbPost_none rfl (HB.out.alloc hsz _)
   ·have hz1:((s.size:Int) == 0)=false:=by rw [beq_eq_false_iff_ne];omega
    by_cases hF:bOut o=s
    ·rw [if_pos ⟨hz,hF⟩] at HF
     have HFF:=hid hF
     clear hF
     go_wp2_with (go_at_call 89;refine (formbatch_s _ o _ _ HC.out (by omega) HOZ.out).mono ?_;rw [HFF.out];rintro e w2 ⟨rfl,hb2⟩)
     go_ret2
     rw [HF.out]
     exact rbPost_some (owns_below HO.out hb2) rfl (HB.out.trans (hb2.mono hsz))
    ·rw [if_neg (fun hh=>hF hh.2)] at HF
     obtain ⟨G,HG⟩:∃ G,Hid (G=bOut o):=⟨_,hid rfl⟩
     have hG:(!G.toList == s.toList)=true:=by rw [HG.out];simp only [Bool.not_eq_true',beq_eq_false_iff_ne];intro hh;rw [ByteArray.toList_eq,ByteArray.toList_eq] at hh;exact hF (ByteArray.ext (Array.ext' hh))
     clear hF
     go_wp2_with (go_at_call 89;refine (formbatch_s _ o _ _ HC.out (by omega) HOZ.out).mono ?_;rw [<-HG.out];rintro e w2 ⟨rfl,hb2⟩)
     go_ret2
     rw [HF.out]
     exact rbPost_none rfl ((HB.out.trans (hb2.mono hsz)).alloc (by have:=hb2.size;omega) _)
end Go.Proofs.YtcoegjnjjdndjaaGreatDoor
