import Derived.Test.YthdilmkbnpmdaaaPrFnA
import Derived.Test.YthdilmkbnpmdaaaPrPfK
import Derived.Test.YthdilmkbnpmdaaaPrWoB
import Derived.Test.YthdilmkbnpmdaaaPrG34
set_option maxHeartbeats 16000000
set_option maxRecDepth 8000
set_option linter.unusedVariables false
set_option linter.unusedSimpArgs false
namespace Go.Proofs.Ythdilmkbnpmdaaa
open Go.RowKit
section
abbrev scOk (ss:List ByteArray) (ws:List (Int×ByteArray)) (frm size n:Int):Prop:=diskOk ss ws=true/\(1<=n/\n<=8)/\0<=frm/\0<=size/\frm<=(ss.length:Int)/\size<=(ss.length:Int)-frm
def scD (ss:List ByteArray) (ws:List (Int×ByteArray)) (frm size first life n:Int):Scd :=
 if scOk ss ws frm size n then scanP (fun k=>(syncs ws ss).getD k ByteArray.empty) frm.toNat first n size.toNat 0 0 life ByteArray.empty ([],0,life) else ([],0,0)
def ScPost (w w':World) (e:Ending) (x:Scd):Prop:=∃ y,e=.returned (.agg #[y,.int .i64 x.2.1,.int .i64 x.2.2])/\w'.ownsRow w.heap.size 9 1 y x.1.length (x.1.map Value.string)/\Below w.heap.size w w'
structure ScB (w0 w:World) (RB G XB OT WS:Nat) (S:List Value) (cx:Nat) (xp:Value) (y:Value) (ents:List ByteArray) (u l wk wl wm:Int) (wp:ByteArray):Prop where
 rb:Row w RB [.slice none 0 0,.int .i64 0,.int .i64 0]
 sec:Row w G S
 xb:Row w XB [.slice (some ⟨G,0,none⟩) S.length cx,xp]
 ot:Row w OT [y,.int .i64 u,.int .i64 l]
 ws:Row w WS [.int .i64 wk,.int .i64 wl,.int .i64 wm,.string wp]
 own:w.ownsRow w0.heap.size 9 1 y ents.length (ents.map Value.string)
 o1:w0.heap.size<=RB
 o2:RB<G
 o3:G<XB
 o4:XB<OT
 o5:OT<WS
 yo:∀ k,y.ownBlock=some k->WS<k
 be:Below w0.heap.size w0 w
section
variable {w0 w w':World} {RB G XB OT WS:Nat} {S:List Value} {cx:Nat} {xp:Value} {y:Value} {ents:List ByteArray} {u l wk wl wm:Int} {wp:ByteArray}
theorem ScB.below (h:ScB w0 w RB G XB OT WS S cx xp y ents u l wk wl wm wp) (hb:Below w.heap.size w w'):ScB w0 w' RB G XB OT WS S cx xp y ents u l wk wl wm wp :=
 ⟨h.rb.below hb,h.sec.below hb,h.xb.below hb,h.ot.below hb,h.ws.below hb,owns_below h.own hb,h.o1,h.o2,h.o3,h.o4,h.o5,h.yo,h.be.trans (hb.mono h.be.size)⟩
theorem ScB.own_ne (h:ScB w0 w RB G XB OT WS S cx xp y ents u l wk wl wm wp) {k:Nat} (hk:k<=WS):y.ownBlock≠some k:=fun e=>by have:=h.yo k e;omega
theorem ScB.setWas (h:ScB w0 w RB G XB OT WS S cx xp y ents u l wk wl wm wp) (k' l' m':Int) (p':ByteArray) :
  ScB w0 ((((w.setCell ⟨WS,0,none⟩ (.int .i64 k')).setCell ⟨WS,1,none⟩ (.int .i64 l')).setCell ⟨WS,2,none⟩ (.int .i64 m')).setCell ⟨WS,3,none⟩ (.string p')) RB G XB OT WS S cx xp y ents u l k' l' m' p':=by
 have o1:=h.o1;have o2:=h.o2;have o3:=h.o3;have o4:=h.o4;have o5:=h.o5
 have far:∀ {g:Nat} {cs:List Value},g≠WS->Row w g cs->Row ((((w.setCell ⟨WS,0,none⟩ (.int .i64 k')).setCell ⟨WS,1,none⟩ (.int .i64 l')).setCell ⟨WS,2,none⟩ (.int .i64 m')).setCell ⟨WS,3,none⟩ (.string p')) g cs:=fun hg hr =>
  (((hr.other _ (Ne.symm hg) _).other _ (Ne.symm hg) _).other _ (Ne.symm hg) _).other _ (Ne.symm hg) _
 have hy:=h.own_ne (Nat.le_refl WS)
 have bs:∀ {x:World},Below w0.heap.size w0 x->∀ i v,Below w0.heap.size w0 (x.setCell ⟨WS,i,none⟩ v):=fun hx i v=>hx.setCell (by show w0.heap.size<=WS;omega) _
 exact ⟨far (by omega) h.rb,far (by omega) h.sec,far (by omega) h.xb,far (by omega) h.ot,(((h.ws.set 0 (by simp) _).set 1 (by simp) _).set 2 (by simp) _).set 3 (by simp) _,
  ownsRow_setCell_other (ownsRow_setCell_other (ownsRow_setCell_other (ownsRow_setCell_other h.own hy _) hy _) hy _) hy _,o1,o2,o3,o4,o5,h.yo,bs (bs (bs (bs h.be _ _) _ _) _ _) _ _⟩
theorem ScB.setEnd (h:ScB w0 w RB G XB OT WS S cx xp y ents u l wk wl wm wp) (u' l':Int) :
  ScB w0 ((w.setCell ⟨OT,1,none⟩ (.int .i64 u')).setCell ⟨OT,2,none⟩ (.int .i64 l')) RB G XB OT WS S cx xp y ents u' l' wk wl wm wp:=by
 have o1:=h.o1;have o2:=h.o2;have o3:=h.o3;have o4:=h.o4;have o5:=h.o5
 have far:∀ {g:Nat} {cs:List Value},g≠OT->Row w g cs->Row ((w.setCell ⟨OT,1,none⟩ (.int .i64 u')).setCell ⟨OT,2,none⟩ (.int .i64 l')) g cs:=fun hg hr=>(hr.other _ (Ne.symm hg) _).other _ (Ne.symm hg) _
 have hy:=h.own_ne (k:=OT) (by omega)
 have bs:∀ {x:World},Below w0.heap.size w0 x->∀ i v,Below w0.heap.size w0 (x.setCell ⟨OT,i,none⟩ v):=fun hx i v=>hx.setCell (by show w0.heap.size<=OT;omega) _
 exact ⟨far (by omega) h.rb,far (by omega) h.sec,far (by omega) h.xb,(h.ot.set 1 (by simp) _).set 2 (by simp) _,far (by omega) h.ws,
  ownsRow_setCell_other (ownsRow_setCell_other h.own hy _) hy _,o1,o2,o3,o4,o5,h.yo,bs (bs h.be _ _) _ _⟩
theorem ScB.push (h:ScB w0 w RB G XB OT WS S cx xp y ents u l wk wl wm wp) {y':Value} {ents':List ByteArray} {H:Nat} (hown:w'.ownsRow w0.heap.size 9 1 y' ents'.length (ents'.map Value.string)) (hg:w.grownBy w' y.ownBlock) (hat:y.ownBlock=y'.ownBlock\/y'.ownBlock=some H) (hH:w.heap.size<=H) :
  ScB w0 (w'.setCell ⟨OT,0,none⟩ y') RB G XB OT WS S cx xp y' ents' u l wk wl wm wp:=by
 have o1:=h.o1;have o2:=h.o2;have o3:=h.o3;have o4:=h.o4;have o5:=h.o5
 have lW:=h.ws.lt
 have yo':∀ k,y'.ownBlock=some k->WS<k:=fun k hk=>by
  rcases hat with e | e
  ·exact h.yo k (e.trans hk)
  ·rw [e] at hk;cases hk;omega
 have gr:∀ {g:Nat} {cs:List Value},g<=WS->Row w g cs->Row w' g cs:=fun hle hr=>hr.grown hg (fun e=>h.own_ne hle e.symm)
 have far:∀ {g:Nat} {cs:List Value},g≠OT->Row w' g cs->Row (w'.setCell ⟨OT,0,none⟩ y') g cs:=fun hg hr=>hr.other _ (Ne.symm hg) _
 have hy':y'.ownBlock≠some OT:=fun e=>by have:=yo' OT e;omega
 have be':Below w0.heap.size w0 w':=h.be.trans (grown_below hg h.be.size (fun g e=>(h.own.lt g e).1))
 exact ⟨far (by omega) (gr (by omega) h.rb),far (by omega) (gr (by omega) h.sec),far (by omega) (gr (by omega) h.xb),(gr (by omega) h.ot).set 0 (by simp) _,far (by omega) (gr (Nat.le_refl _) h.ws),
  ownsRow_setCell_other hown hy' _,o1,o2,o3,o4,o5,yo',be'.setCell (by show w0.heap.size<=OT;omega) _⟩
end
theorem goes_s (wk wl wm:Int) (wp:ByteArray) (k l m:Int) (p:ByteArray) (w:World):Calls Try.prog 82 #[pageV wk wl wm wp,pageV k l m p] w fun e w'=>e=.returned (.bool (goesP wk wl k l))/\Below w.heap.size w w':=by
 have hb2:∀ o1 o2,Below w.heap.size w ((w.alloc o1).alloc o2):=fun o1 o2=>((Below.refl _ _).alloc (Nat.le_refl _) _).alloc (by simp) _
 obtain ⟨B,hB⟩:∃ B,goesP wk wl k l=B:=⟨_,rfl⟩
 have HB:=hid hB
 rw [hB]
 clear hB
 by_cases h1:l<wl
 ·have e:B=false:=by rw [<-HB.out];unfold goesP;simp;omega
  subst e
  clear HB
  go_enter Try.func82,Try.ntmps82
  go_wp2
  go_ret
  exact ⟨rfl,hb2 _ _⟩
 ·by_cases h3:k=3
  ·subst h3
   by_cases hw:wk=1
   ·have e:B=false:=by rw [<-HB.out];unfold goesP;simp [hw]
    subst e
    clear HB
    go_enter Try.func82,Try.ntmps82
    go_wp2
    go_ret
    exact ⟨rfl,hb2 _ _⟩
   ·have e:B=true:=by rw [<-HB.out];unfold goesP;simp [hw];omega
    have hwb:(wk != 1)=true:=by simp [hw]
    subst e
    clear HB
    go_enter Try.func82,Try.ntmps82
    go_wp2
    go_ret
    exact ⟨rfl,hb2 _ _⟩
  ·by_cases h12:k=1\/k=2
   ·by_cases hw:wk=1
    ·by_cases hl:wl=l
     ·have e:B=true:=by rw [<-HB.out];unfold goesP;rcases h12 with rfl | rfl<;>simp [hw,hl]
      subst e
      clear HB
      rcases h12 with rfl | rfl<;>(go_enter Try.func82,Try.ntmps82;go_wp2;go_ret;exact ⟨rfl,hb2 _ _⟩)
     ·have e:B=false:=by rw [<-HB.out];unfold goesP;rcases h12 with rfl | rfl<;>simp [hw,hl]
      have hlb:(wl == l)=false:=by simp [hl]
      subst e
      clear HB
      rcases h12 with rfl | rfl<;>(go_enter Try.func82,Try.ntmps82;go_wp2;go_ret;exact ⟨rfl,hb2 _ _⟩)
    ·have e:B=true:=by rw [<-HB.out];unfold goesP;rcases h12 with rfl | rfl<;>simp [hw]<;>omega
     have hwb:(wk != 1)=true:=by simp [hw]
     subst e
     clear HB
     rcases h12 with rfl | rfl<;>(go_enter Try.func82,Try.ntmps82;go_wp2;go_ret;exact ⟨rfl,hb2 _ _⟩)
   ·have hk1:¬ k=1:=fun e=>h12 (.inl e)
    have hk2:¬ k=2:=fun e=>h12 (.inr e)
    have e:B=false:=by rw [<-HB.out];unfold goesP;simp [h3,hk1,hk2]
    subst e
    clear HB h12
    go_enter Try.func82,Try.ntmps82
    go_wp2
    go_ret
    exact ⟨rfl,hb2 _ _⟩
end
section
def foldE:List ByteArray->List Pr->Option (List Pr)
 | [],rs=>some rs
 | e::es,rs=>match resS e with
  | none=>none
  | some b=>if apC rs b=0 then foldE es (apU rs b) else none
theorem foldE_ok:∀ (es:List ByteArray) (rs:List Pr),stateOk rs=true->∀ r,foldE es rs=some r->stateOk r=true
 | [],rs,h,r,hr=>by cases hr;exact h
 | e::es,rs,h,r,hr=>by
  rw [foldE] at hr
  split at hr
  ·cases hr
  ·split at hr
   ·rename_i hc
    exact foldE_ok es _ (apU_ok hc) r hr
   ·cases hr
theorem foldE_none {e:ByteArray} {es:List ByteArray} {rs:List Pr} (h:resS e=none):foldE (e::es) rs=none:=by rw [foldE,h]
theorem foldE_no {e:ByteArray} {es:List ByteArray} {rs:List Pr} {b:List Ch} (h:resS e=some b) (hc:apC rs b≠0):foldE (e::es) rs=none:=by rw [foldE,h];simp only;rw [if_neg hc]
theorem foldE_yes {e:ByteArray} {es:List ByteArray} {rs:List Pr} {b:List Ch} (h:resS e=some b) (hc:apC rs b=0):foldE (e::es) rs=foldE es (apU rs b):=by rw [foldE,h];simp only;rw [if_pos hc]
theorem stateOk_nil:stateOk []=true:=by decide
theorem stateOk_sizes {rs:List Pr} (h:stateOk rs=true):rs.length<=100/\∀ x∈rs,x.1.size<=1048576/\x.2.size<=1048576:=by
 obtain ⟨h1,h2,h3⟩:=(stateOk_iff rs).1 h
 refine ⟨h1,fun x hx=>?_⟩
 obtain ⟨k1,k2⟩:=h2 x hx
 unfold kOk at k1
 unfold vOk at k2
 simp at k1 k2
 omega
theorem batchOk_sizes {b:List Ch} (h:batchOk b=true):b.length<=20/\∀ x∈b,x.1.size<=1048576/\x.2.1.size<=1048576:=by
 obtain ⟨h1,h2⟩:=batchOk_of h
 refine ⟨by omega,fun x hx=>?_⟩
 obtain ⟨k1,k2⟩:=chOk_parts (h2 x hx)
 unfold kOk at k1
 unfold vOk at k2
 simp at k1 k2
 omega
def rtGood (x:RtT):Prop:=(0<=x.1/\x.1<=1000000000)/\(0<=x.2.1/\x.2.1<=1)/\(1<=x.2.2.1/\x.2.2.1<=999999000)/\(0<=x.2.2.2/\x.2.2.2<=60000)
theorem rootOf_good {s:ByteArray} {a n:Int} {x:RtT} (h:rootOf s a n=some x):rtGood x:=by
 unfold rootOf at h
 split at h
 ·cases h
 ·rename_i k l m p hp
  have hr:=rpRes_some hp
  split at h
  ·rename_i hh
   cases h
   obtain ⟨h1,h2,h3⟩:=hh
   have hf:rtOk (ptH p) (ptF p):=by
    by_cases e:rtOk (ptH p) (ptF p)
    ·exact e
    ·exfalso
     unfold rtForm at h2
     rw [if_neg e] at h2
     have h64:=hr.1
     rw [<-h2] at h64
     exact absurd h64 (by decide)
   unfold rtOk at hf
   unfold rtGood
   simp only
   omega
  ·cases h
theorem rtMax_good {b:RtT} {o:Option RtT} (hb:rtGood b) (ho:∀ x,o=some x->rtGood x):rtGood (rtMax b o):=by
 unfold rtMax
 split
 ·exact hb
 ·rename_i r
  split
  ·exact ho _ rfl
  ·exact hb
theorem frOf_good (s0 s1:ByteArray) (n:Int):rtGood (frOf s0 s1 n):=by
 unfold frOf
 exact rtMax_good (rtMax_good (by unfold rtGood;simp) (fun x hx=>rootOf_good hx)) (fun x hx=>rootOf_good hx)
theorem frD_good {ss:List ByteArray} {ws:List (Int×ByteArray)} {n:Int} (h:diskOk ss ws=true/\1<=n/\n<=8):rtGood (frD ss ws n):=by
 unfold frD
 rw [if_pos h]
 exact frOf_good _ _ _
def opX (ss:List ByteArray) (ws:List (Int×ByteArray)) (n:Int):Scd:=scD ss ws (2+(frD ss ws n).2.1*hv ss.length) (hv ss.length) (frD ss ws n).2.2.1 (frD ss ws n).2.2.2 n
theorem hv_half {S:Int} (h:8<=S/\S<=200):2+2*hv S<=S:=by unfold hv;rw [if_pos h];omega
theorem half_mul {H q:Int} (h:0<=H/\H<=1) (hq:0<=q):0<=H*q/\H*q<=q:=by
 have:H=0\/H=1:=by omega
 rcases this with rfl | rfl<;>omega
theorem opX_ok {ss:List ByteArray} {ws:List (Int×ByteArray)} {n:Int} (h:diskOk ss ws=true/\1<=n/\n<=8):scOk ss ws (2+(frD ss ws n).2.1*hv ss.length) (hv ss.length) n:=by
 have hg:=frD_good h
 obtain ⟨⟨hn1,hn2,hn3⟩,h64,hw⟩:=diskOk_of h.1
 have h1:=hv_yes (S:=(ss.length:Int)) (by omega)
 have h2:=hv_half (S:=(ss.length:Int)) (by omega)
 have h3:=half_mul hg.2.1 (q:=hv ss.length) (by omega)
 exact ⟨h.1,h.2,by omega,by omega,by omega,by omega⟩
theorem opX_rng {ss:List ByteArray} {ws:List (Int×ByteArray)} {n:Int} (h:diskOk ss ws=true/\1<=n/\n<=8):(0<=(opX ss ws n).2.1/\(opX ss ws n).2.1<=hv ss.length)/\(0<=(opX ss ws n).2.2/\(opX ss ws n).2.2<=60000)/\(opX ss ws n).1.length<=99/\∀ e∈(opX ss ws n).1,e.size<=6336:=by
 have hg:=frD_good h
 have hok:=opX_ok h
 obtain ⟨⟨hn1,hn2,hn3⟩,h64,hw⟩:=diskOk_of h.1
 have h1:=hv_yes (S:=(ss.length:Int)) (by omega)
 unfold opX scD
 rw [if_pos hok]
 obtain ⟨q,hq⟩:∃ q:Nat,hv ss.length=(q:Int):=⟨(hv ss.length).toNat,by omega⟩
 rw [hq] at h1 ⊢
 simp only [Int.toNat_natCast]
 have u1:=scanP_used (fun k=>(syncs ws ss).getD k ByteArray.empty) (2+(frD ss ws n).2.1*(q:Int)).toNat (frD ss ws n).2.2.1 n q 0 0 (frD ss ws n).2.2.2 ByteArray.empty ([],0,(frD ss ws n).2.2.2) (by simp)
 have u2:=scanP_life (fun k=>(syncs ws ss).getD k ByteArray.empty) (2+(frD ss ws n).2.1*(q:Int)).toNat (frD ss ws n).2.2.1 n q 0 0 (frD ss ws n).2.2.2 ByteArray.empty ([],0,(frD ss ws n).2.2.2)
 have u3:=scanP_size (fun k=>(syncs ws ss).getD k ByteArray.empty) (2+(frD ss ws n).2.1*(q:Int)).toNat (frD ss ws n).2.2.1 n q 0 0 (frD ss ws n).2.2.2 ByteArray.empty ([],0,(frD ss ws n).2.2.2) 6336 (by show 0+64*q<=6336;omega) (by intro e he;cases he)
 simp only [List.length_nil] at u3
 refine ⟨by omega,?_,by omega,u3.1⟩
 have:=hg.2.2.2
 rcases u2 with u2 | u2
 ·rw [u2];exact this
 ·omega
def openD (ss:List ByteArray) (ws:List (Int×ByteArray)) (n:Int):Dd :=
 if diskOk ss ws=true/\1<=n/\n<=8 then
  match foldE (opX ss ws n).1 [] with
  | none=>noD 2
  | some rs =>
   if 60000<(opX ss ws n).2.2+1 then noD 3
   else if hv ss.length-1<roomOf (snapOf rs) n then noD 4
   else if hv ss.length<=(opX ss ws n).2.1 then moveD n ss.length ((opX ss ws n).2.2+1) (frD ss ws n).1 (frD ss ws n).2.1 (frD ss ws n).2.2.1 rs
   else ⟨0,n,ss.length,(opX ss ws n).2.2+1,(frD ss ws n).1,(frD ss ws n).2.1,(frD ss ws n).2.2.1,(frD ss ws n).2.2.2,(opX ss ws n).2.1+1,0,rs,
    [(false,2+(frD ss ws n).2.1*hv ss.length+(opX ss ws n).2.1,formOf 3 ((opX ss ws n).2.2+1) ((frD ss ws n).2.2.1+(opX ss ws n).2.1) ByteArray.empty n),(true,0,ByteArray.empty)]⟩
 else noD 1
section
variable {ss:List ByteArray} {ws:List (Int×ByteArray)} {n T H F R U L:Int} {es:List ByteArray} {rs:List Pr}
theorem openD_1 (h:¬ (diskOk ss ws=true/\1<=n/\n<=8)):openD ss ws n=noD 1:=by unfold openD;rw [if_neg h]
theorem openD_2 (h:diskOk ss ws=true/\1<=n/\n<=8) (h2:opX ss ws n=(es,U,L)) (h3:foldE es []=none):openD ss ws n=noD 2:=by
 unfold openD;rw [if_pos h,h2];simp only;rw [h3]
theorem openD_3 (h:diskOk ss ws=true/\1<=n/\n<=8) (h2:opX ss ws n=(es,U,L)) (h3:foldE es []=some rs) (h4:60000<L+1):openD ss ws n=noD 3:=by
 unfold openD;rw [if_pos h,h2];simp only;rw [h3];simp only;rw [if_pos h4]
theorem openD_4 (h:diskOk ss ws=true/\1<=n/\n<=8) (h2:opX ss ws n=(es,U,L)) (h3:foldE es []=some rs) (h4:¬ 60000<L+1) (h5:hv ss.length-1<roomOf (snapOf rs) n):openD ss ws n=noD 4:=by
 unfold openD;rw [if_pos h,h2];simp only;rw [h3];simp only;rw [if_neg h4,if_pos h5]
theorem openD_5 (h:diskOk ss ws=true/\1<=n/\n<=8) (h1:frD ss ws n=(T,H,F,R)) (h2:opX ss ws n=(es,U,L)) (h3:foldE es []=some rs) (h4:¬ 60000<L+1) (h5:¬ hv ss.length-1<roomOf (snapOf rs) n) (h6:hv ss.length<=U):openD ss ws n=moveD n ss.length (L+1) T H F rs:=by
 unfold openD;rw [if_pos h,h2,h1];simp only;rw [h3];simp only;rw [if_neg h4,if_neg h5,if_pos h6]
theorem openD_6 (h:diskOk ss ws=true/\1<=n/\n<=8) (h1:frD ss ws n=(T,H,F,R)) (h2:opX ss ws n=(es,U,L)) (h3:foldE es []=some rs) (h4:¬ 60000<L+1) (h5:¬ hv ss.length-1<roomOf (snapOf rs) n) (h6:¬ hv ss.length<=U) :
  openD ss ws n=⟨0,n,ss.length,L+1,T,H,F,R,U+1,0,rs,[(false,2+H*hv ss.length+U,formOf 3 (L+1) (F+U) ByteArray.empty n),(true,0,ByteArray.empty)]⟩:=by
 unfold openD;rw [if_pos h,h2,h1];simp only;rw [h3];simp only;rw [if_neg h4,if_neg h5,if_neg h6]
end
theorem moveD_bound {W S L T H F:Int} {rs:List Pr} (hl:rs.length<=1048576) (hok:mvOk W S L T H F rs):(moveD W S L T H F rs).rs.length<=1048576/\(moveD W S L T H F rs).ops.length<=1000:=by
 unfold moveD
 cases h2:mvFit S T F with
 | false=>simp [noD]
 | true =>
  obtain ⟨⟨h1,h1'⟩,h3,h4,h5,h6,h7,h8⟩:=hok
  have hq:=hv_yes h3
  have hm:=mvPages_len L (F+hv S) W.toNat (56-W.toNat) (by omega) (by omega) (by omega) (snapOf rs)
  rw [show ((W.toNat:Nat):Int)=W by omega] at hm
  simp only [if_true,mvD,List.length_append,putOps_length]
  refine ⟨hl,?_⟩
  simp
  omega
theorem openD_bound (ss:List ByteArray) (ws:List (Int×ByteArray)) (n:Int):(openD ss ws n).rs.length<=1048576/\(openD ss ws n).ops.length<=1000:=by
 by_cases h:diskOk ss ws=true/\1<=n/\n<=8
 ·obtain ⟨T,H,F,R,hFR⟩:∃ T H F R,frD ss ws n=(T,H,F,R):=⟨_,_,_,_,rfl⟩
  obtain ⟨es,U,L,hX⟩:∃ es U L,opX ss ws n=(es,U,L):=⟨_,_,_,rfl⟩
  have hg:=frD_good h
  have hx:=opX_rng h
  rw [hFR] at hg
  rw [hX] at hx
  unfold rtGood at hg
  simp only at hg hx
  obtain ⟨⟨hn1,hn2,hn3⟩,_,_⟩:=diskOk_of h.1
  cases hf:foldE es [] with
  | none=>rw [openD_2 h hX hf];simp [noD]
  | some rs =>
   have hrs:=(stateOk_sizes (foldE_ok es [] stateOk_nil rs hf)).1
   by_cases h4:60000<L+1
   ·rw [openD_3 h hX hf h4];simp [noD]
   ·by_cases h5:hv ss.length-1<roomOf (snapOf rs) n
    ·rw [openD_4 h hX hf h4 h5];simp [noD]
    ·by_cases h6:hv ss.length<=U
     ·rw [openD_5 h hFR hX hf h4 h5 h6]
      exact moveD_bound (by omega) ⟨h.2,by omega,by omega,hg.1,hg.2.1,hg.2.2.1,by omega⟩
     ·rw [openD_6 h hFR hX hf h4 h5 h6]
      simp
      omega
 ·rw [openD_1 h];simp [noD]
end
theorem Ops.take {w:World} {a:Option Addr} {rs:List (Bool×Int×ByteArray)} (h:Ops w a rs) (m:Nat):Ops w a (rs.take m):=by
 rcases h with h | ⟨b,o,h1,h2,h3⟩
 ·exact .inl (by rw [h];simp)
 ·refine .inr ⟨b,o,h1,h2,fun i hi=>?_⟩
  have hi':i<rs.length/\i<m:=by simp at hi;omega
  have e:(rs.take m).getD i (false,0,ByteArray.empty)=rs.getD i (false,0,ByteArray.empty):=by simp [List.getD,List.getElem?_take,hi'.2]
  rw [e]
  exact h3 i hi'.1
theorem Row.lowB {w w':World} {R base:Nat} {cs:List Value} (h:Row w R cs) (hb:Below base w w') (hR:R<base):Row w' R cs :=
 ⟨Nat.lt_of_lt_of_le h.lt hb.size,fun i v hv=>(hb.cell (p:=⟨R,i,none⟩) hR).trans (h.cell i v hv),fun i hi=>(hb.frozen (p:=⟨R,i,none⟩) hR).trans (h.froz i hi)⟩
theorem OwnS.setp {w:World} {a:Option Addr} {cs:List Value} (h:OwnS w a cs) (p:Addr) (hp:∀ g,a=some ⟨g,0,none⟩->cs≠[]->p.block≠g) (v:Value):OwnS (w.setCell p v) a cs:=by
 rcases h with h | ⟨g,h1,h2⟩
 ·exact .inl h
 ·by_cases hc:cs=[]
  ·exact .inl hc
  ·exact .inr ⟨g,h1,h2.other p (hp g h1 hc) v⟩
theorem secs_nums (ss:List ByteArray):secs (ss.map nums)=ss:=by
 unfold secs
 rw [List.map_map]
 exact List.map_id'' (fun s=>strOfNums_nums s) ss
theorem held_hsOf (ws:List (Int×ByteArray)):held (hsOf ws)=ws:=by
 unfold held hsOf
 rw [List.map_map]
 exact List.map_id'' (fun x=>by show (x.1,strOfNums (nums x.2))=x;rw [strOfNums_nums]) ws
theorem DV.form {w:World} {base X g n:Nat} {v:Value} {ps:List (List Int)} {hs:List (Int×List Int)} (h:DV w base X g n v ps hs) (h64:∀ p∈hs,p.2.length=64):∃ a c,v=.slice a hs.length c/\Hld w a hs:=by
 rcases owns_forms h.own with ⟨e,h0⟩ | ⟨g,c,e,_,_,hr⟩
 ·exact ⟨_,_,by rw [e,h0],.inl (List.eq_nil_of_length_eq_zero h0)⟩
 ·exact ⟨_,_,e,hr.hld h64⟩
theorem opsD_len:∀ (l:List (Bool×Int×ByteArray)) (d:List ByteArray×List (Int×ByteArray)),(opsD l d).1.length=d.1.length
 | [],_=>rfl
 | o::r,d=>by rw [opsD,opsD_len r,opD_len]
theorem opsD_ok:∀ (l:List (Bool×Int×ByteArray)) (d:List ByteArray×List (Int×ByteArray)),diskOk d.1 d.2=true->diskOk (opsD l d).1 (opsD l d).2=true
 | [],_,h=>h
 | o::r,d,h=>opsD_ok r _ (opD_ok d o h)
theorem do_i (base X g n:Nat) (v:Value) (ss:List ByteArray) (ws:List (Int×ByteArray)) (s:Bool) (at_:Int) (d:ByteArray) (w:World) (h:DV w base X g n v (ss.map nums) (hsOf ws)) (hn:ss.length=n) (hok:diskOk ss ws=true) (hd:d.size<=1048576) (hbw:base<=w.heap.size) :
  Calls Try.prog 18 #[.pointer (some ⟨X,0,none⟩),.agg #[.bool s,.int .i64 at_,.string d]] w fun e w'=>(∃ x,e=.returned x)/\(∃ v',DV w' base X g n v' ((opD (ss,ws) (s,at_,d)).1.map nums) (hsOf (opD (ss,ws) (s,at_,d)).2))/\Below base w w':=by
 cases s with
 | true =>
  rw [opD_sync]
  refine (do_i_sync base X g n v ss ws at_ d w h hn hok hbw).mono ?_
  rintro e w' ⟨h1,h2,h3⟩
  exact ⟨h1,⟨_,h2⟩,h3⟩
 | false =>
  cases hc:wOk ss.length (at_,d) with
  | false =>
   rw [opD_no (ss,ws) (at_,d) (.inl hc)]
   refine (do_i_no base X g n v ss ws at_ d w h hn hok hd (.inl hc) hbw).mono ?_
   rintro e w' ⟨h1,h2,h3⟩
   exact ⟨h1,⟨_,h2⟩,h3⟩
  | true =>
   by_cases hl:ws.length<300
   ·rw [opD_yes (ss,ws) (at_,d) hc hl]
    exact do_i_yes base X g n v ss ws at_ d w h hn hok hc hl hbw
   ·rw [opD_no (ss,ws) (at_,d) (.inr hl)]
    refine (do_i_no base X g n v ss ws at_ d w h hn hok hd (.inr hl) hbw).mono ?_
    rintro e w' ⟨h1,h2,h3⟩
    exact ⟨h1,⟨_,h2⟩,h3⟩
def pfN (z:Int) (n:Nat):Nat:=min z.toNat n
theorem pfN_le (z:Int) (n:Nat):pfN z n<=n:=Nat.min_le_right _ _
set_option maxRecDepth 100000 in
theorem pf_i_a (a:Option Addr) (ss:List ByteArray) (c:Nat) (a':Option Addr) (ws:List (Int×ByteArray)) (c':Nat) (f:Option Addr) (rs:List (Bool×Int×ByteArray)) (cf:Nat) (z:Int) (w:World) (h:Strs w a ss) (h':Wrs w a' ws) (hz:Ops w f rs) (hcf:rs.length<=cf) (hlz:rs.length<=1048576) (hz0:z<0) (hsz:∀ x∈rs,x.2.2.size<=1048576) (hok:diskOk ss ws=true) :
  Calls Try.prog 5 #[diskV a ss.length c a' ws.length c',.slice f rs.length cf,.int .i64 z] w fun e w'=>∃ a1 c1 a1' c1',e=.returned (diskV a1 (opsD (rs.take (0)) (ss,ws)).1.length c1 a1' (opsD (rs.take (0)) (ss,ws)).2.length c1')/\OwnD w' a1 (opsD (rs.take (0)) (ss,ws)).1 a1' (opsD (rs.take (0)) (ss,ws)).2/\(∀ g,blk a1 (opsD (rs.take (0)) (ss,ws)).1.length=some g->w.heap.size<=g)/\(∀ g,blk a1' (opsD (rs.take (0)) (ss,ws)).2.length=some g->w.heap.size<=g)/\Below w.heap.size w w':=by
 obtain ⟨⟨hn1,hn2,hn3⟩,h64,hw⟩:=diskOk_of hok
 have hb0:∀ o1 o2,Below w.heap.size w ((w.alloc o1).alloc o2):=fun o1 o2=>((Below.refl _ _).alloc (Nat.le_refl _) _).alloc (by simp) _
 have hml:0<=rs.length:=by omega
 obtain ⟨RS,HRS⟩:∃ RS,Hid (RS=rs.take (0)):=⟨_,hid rfl⟩
 have hRSl:RS.length=0:=by rw [HRS.out];simp
 have hzt:Ops w f RS:=by rw [HRS.out];exact hz.take (0)
 have HSZ:Hid (∀ x∈RS,x.2.2.size<=1048576):=fun x hx=>hsz x (by rw [HRS.out] at hx;exact List.mem_of_mem_take hx)
 rw [<-HRS.out]
 obtain ⟨RES,HRES⟩:∃ RES,Hid (RES=opsD RS (ss,ws)):=⟨_,hid rfl⟩
 rw [<-HRES.out]
 go_enter Try.func5,Try.ntmps5
 go_wp2_with fail
 refine (valid_i a ss c a' ws c' _ (h.below (hb0 _ _)) (h'.below (hb0 _ _)) (by omega) (by omega) (fun s hs=>by have:=h64 s hs;omega) (fun x hx=>by have:=of_decide_eq_true (hw x hx);omega)).mono ?_
 rw [hok]
 rintro e w1 ⟨rfl,hb1⟩
 have hB1:=(hb0 _ _).trans (hb1.mono (by simp;omega))
 obtain ⟨q1,q2⟩:=bcell hb1
 have rR:=(row_new' (w.alloc (.cells #[.slice a ss.length c,.slice a' ws.length c'] 26)) #[.slice none 0 0,.slice none 0 0] 26 (w.heap.size+1) (by simp)).below hb1
 have HRR:=hid rR
 have HB1:=hid hB1
 clear rR hb1 hB1
 go_wp2_with fail
 refine (drv_i a ss c a' ws c' _ (h.below HB1.out) (h'.below HB1.out) hn2 hn3 (fun s hs=>by have:=h64 s hs;omega) (fun x hx=>by have:=of_decide_eq_true (hw x hx);omega)).mono ?_
 rintro e w2 ⟨g,v,rfl,hpr,hown,hg,hb2⟩
 clear q1 q2
 have HRR2:=hid (HRR.out.below hb2)
 have HRR1:Hid (w.heap.size+1+1<=g):=by have:=HRR.out.lt;show _<=_;omega
 have HB2:=hid (Below.then HB1.out (Nat.le_refl _) hb2)
 have hgl:g<w2.heap.size:=hpr.lt
 have hgw:=HRR1.out
 rw [<-hsOf_length] at hown
 have hnb:∀ k,v.ownBlock=some k->g+1<=k/\k<w2.heap.size:=fun k hk=>hown.lt k hk
 have hst:DV (w2.alloc (.cells #[.slice (some ⟨g,0,none⟩) ss.length ss.length,v] 51)) (w.heap.size+1+1) w2.heap.size g ss.length v (ss.map nums) (hsOf ws) :=
  ⟨row_new _ _ _,hpr.below (below_new _ _),(owns_below hown (below_new _ _)).mono (by omega),fun e=>by have:=hnb _ e;omega,fun e=>by have:=hnb _ e;omega,by omega,by omega,by omega⟩
 have hszx:w.heap.size+1+1<=(w2.alloc (.cells #[.slice (some ⟨g,0,none⟩) ss.length ss.length,v] 51)).heap.size:=by simp;omega
 have HST:=hid hst
 have HR0:=hid (HRR2.out.alloc (.cells #[.slice (some ⟨g,0,none⟩) ss.length ss.length,v] 51))
 have HBW:=hid (Below.then HB2.out (Nat.le_refl _) (below_new w2 (.cells #[.slice (some ⟨g,0,none⟩) ss.length ss.length,v] 51)))
 obtain ⟨av,cv,hv⟩:∃ a c,v=.slice a ws.length c:=by
  rw [<-hsOf_length]
  rcases owns_forms hown with ⟨e,h0⟩ | ⟨g,c,e,_⟩
  ·exact ⟨_,_,by rw [e,h0]⟩
  ·exact ⟨_,_,e⟩
 subst hv
 have HOK:=hid hok
 clear hst hpr hown hb2 HB1 HRR HB2 HRR2 hnb
 go_wp2
 obtain ⟨wq,HWQ⟩:∃ wq,wq=w2.alloc (.cells #[.slice (some ⟨g,0,none⟩) ss.length ss.length,.slice av ws.length cv] 51):=⟨_,rfl⟩
 rw [<-HWQ] at HST HR0 HBW hszx ⊢
 go_loopw [9,24] (fun _ i wr=>∃ (k:Nat) (d:List ByteArray×List (Int×ByteArray)) (v:Value),k<=0/\i=.int .i64 k/\d.1.length=ss.length/\Hid (diskOk d.1 d.2=true)/\Hid (opsD (RS.drop k) d=RES)/\Hid (DV wr (w.heap.size+1+1) w2.heap.size g ss.length v (d.1.map nums) (hsOf d.2))/\Hid (Row wr (w.heap.size+1) [.slice none 0 0,.slice none 0 0])/\Hid (Below w.heap.size w wr)/\w.heap.size+1+1<=wr.heap.size) (fun _ i _=>0-(intOf i).toNat)
 case atStart=>exact ⟨0,(ss,ws),_,Nat.zero_le _,rfl,rfl,HOK,by show _=_;rw [List.drop_zero,HRES.out],HST,HR0,HBW,hszx⟩
 case round =>
  obtain ⟨k,d,v,hk,rfl,hdl,HDO,HK,HDV,HRR,HBE,hsw⟩:=hrel
  by_cases hlt:k<0
  ·omega
  ·have hres:Hid (d=RES):=by
    have:=HK.out
    rw [List.drop_of_length_le (by rw [hRSl];omega)] at this
    exact this
   clear HK HRES HST HR0 HBW
   obtain rfl:=hres.out
   obtain ⟨⟨hm1,hm2,hm3⟩,hm64,hmw⟩:=diskOk_of HDO.out
   have H64:=hid (hsOf_64 (ws:=d.2) fun x hx=>by have:=of_decide_eq_true (hmw x hx);omega)
   obtain ⟨a2,c2,hv,hld⟩:=HDV.out.form H64.out
   rw [hsOf_length] at hv
   have q0:=HDV.out.rx.cell 0 _ rfl
   have q1:=HDV.out.rx.cell 1 _ rfl
   rw [hv] at q1
   have HLD:=hid hld
   clear hm1 hm64 hmw hld
   go_wp2_with fail
   refine (disk_i' (some ⟨g,0,none⟩) (d.1.map nums) ss.length ss.length a2 (hsOf d.2) d.2.length c2 (by simp [hdl]) (hsOf_length _) _ HDV.out.pr.plt HLD.out hn2 (by omega) HDV.out.pr.len H64.out).mono ?_
   rintro e w5 ⟨a1,c1,a1',c1',rfl,hod,hg1,hg2,hb5⟩
   rw [secs_nums,held_hsOf] at hod
   have rR:=HRR.out.below hb5
   have r0:=rR.cell 0 _ rfl
   have r1:=rR.cell 1 _ rfl
   obtain ⟨fr0,fr1⟩:=rR.z2
   have HB5:=hid (Below.then HBE.out (Nat.le_refl _) hb5)
   have HOD:=hid hod
   have hbs:=HBE.out.size
   have HG1:Hid (∀ g,blk a1 ss.length=some g->w.heap.size+1<g):=fun g hg=>by have h1:=hg1 g hg;omega
   have HG2:Hid (∀ g,blk a1' d.2.length=some g->w.heap.size+1<g):=fun g hg=>by have h1:=hg2 g hg;omega
   clear hod hg1 hg2 hb5 rR q0 q1
   go_wp2
   rw [hdl]
   have hd1:d.1.length≠0:=by omega
   have hs1:∀ (wz:World) (u:Value) (i:Nat),OwnD wz a1 d.1 a1' d.2->OwnD (wz.setCell ⟨w.heap.size+1,i,none⟩ u) a1 d.1 a1' d.2:=fun wz u i ho=>by
    refine ⟨ho.s.setp _ (fun g3 e3 hne e=>?_) _,ho.p.setp _ (fun g3 e3 hne e=>?_) _,ho.ne⟩
    ·have:=HG1.out g3 (by rw [e3];exact blk_pos g3 0 _ (by omega))
     have e':w.heap.size+1=g3:=e
     omega
    ·have:=HG2.out g3 (by rw [e3];exact blk_pos g3 0 _ (fun e0=>hne (by rw [List.eq_nil_of_length_eq_zero e0];rfl)))
     have e':w.heap.size+1=g3:=e
     omega
   refine bodyPost_ret (v:=diskV a1 ss.length c1 a1' d.2.length c1') (by simp [results,Try.results5,go_sem,r0,r1]) rfl ⟨a1,c1,a1',c1',rfl,hs1 _ _ _ (hs1 _ _ _ HOD.out),fun g hg=>by have:=HG1.out g hg;omega,fun g hg=>by have:=HG2.out g hg;omega,?_⟩
   exact (HB5.out.setCell (by show w.heap.size<=w.heap.size+1;omega) _).setCell (by show w.heap.size<=w.heap.size+1;omega) _
set_option maxRecDepth 100000 in
theorem pf_i_b (a:Option Addr) (ss:List ByteArray) (c:Nat) (a':Option Addr) (ws:List (Int×ByteArray)) (c':Nat) (f:Option Addr) (rs:List (Bool×Int×ByteArray)) (cf:Nat) (zn:Nat) (w:World) (h:Strs w a ss) (h':Wrs w a' ws) (hz:Ops w f rs) (hcf:rs.length<=cf) (hlz:rs.length<=1048576) (hz0:zn<rs.length) (hsz:∀ x∈rs,x.2.2.size<=1048576) (hok:diskOk ss ws=true) :
  Calls Try.prog 5 #[diskV a ss.length c a' ws.length c',.slice f rs.length cf,.int .i64 (zn:Int)] w fun e w'=>∃ a1 c1 a1' c1',e=.returned (diskV a1 (opsD (rs.take (zn)) (ss,ws)).1.length c1 a1' (opsD (rs.take (zn)) (ss,ws)).2.length c1')/\OwnD w' a1 (opsD (rs.take (zn)) (ss,ws)).1 a1' (opsD (rs.take (zn)) (ss,ws)).2/\(∀ g,blk a1 (opsD (rs.take (zn)) (ss,ws)).1.length=some g->w.heap.size<=g)/\(∀ g,blk a1' (opsD (rs.take (zn)) (ss,ws)).2.length=some g->w.heap.size<=g)/\Below w.heap.size w w':=by
 obtain ⟨⟨hn1,hn2,hn3⟩,h64,hw⟩:=diskOk_of hok
 have hb0:∀ o1 o2,Below w.heap.size w ((w.alloc o1).alloc o2):=fun o1 o2=>((Below.refl _ _).alloc (Nat.le_refl _) _).alloc (by simp) _
 have hml:zn<=rs.length:=by omega
 obtain ⟨RS,HRS⟩:∃ RS,Hid (RS=rs.take (zn)):=⟨_,hid rfl⟩
 have hRSl:RS.length=zn:=by rw [HRS.out];simp;omega
 have hzt:Ops w f RS:=by rw [HRS.out];exact hz.take (zn)
 have HSZ:Hid (∀ x∈RS,x.2.2.size<=1048576):=fun x hx=>hsz x (by rw [HRS.out] at hx;exact List.mem_of_mem_take hx)
 rw [<-HRS.out]
 obtain ⟨RES,HRES⟩:∃ RES,Hid (RES=opsD RS (ss,ws)):=⟨_,hid rfl⟩
 rw [<-HRES.out]
 go_enter Try.func5,Try.ntmps5
 go_wp2_with fail
 refine (valid_i a ss c a' ws c' _ (h.below (hb0 _ _)) (h'.below (hb0 _ _)) (by omega) (by omega) (fun s hs=>by have:=h64 s hs;omega) (fun x hx=>by have:=of_decide_eq_true (hw x hx);omega)).mono ?_
 rw [hok]
 rintro e w1 ⟨rfl,hb1⟩
 have hB1:=(hb0 _ _).trans (hb1.mono (by simp;omega))
 obtain ⟨q1,q2⟩:=bcell hb1
 have rR:=(row_new' (w.alloc (.cells #[.slice a ss.length c,.slice a' ws.length c'] 26)) #[.slice none 0 0,.slice none 0 0] 26 (w.heap.size+1) (by simp)).below hb1
 have HRR:=hid rR
 have HB1:=hid hB1
 clear rR hb1 hB1
 go_wp2_with fail
 refine (drv_i a ss c a' ws c' _ (h.below HB1.out) (h'.below HB1.out) hn2 hn3 (fun s hs=>by have:=h64 s hs;omega) (fun x hx=>by have:=of_decide_eq_true (hw x hx);omega)).mono ?_
 rintro e w2 ⟨g,v,rfl,hpr,hown,hg,hb2⟩
 clear q1 q2
 have HRR2:=hid (HRR.out.below hb2)
 have HRR1:Hid (w.heap.size+1+1<=g):=by have:=HRR.out.lt;show _<=_;omega
 have HB2:=hid (Below.then HB1.out (Nat.le_refl _) hb2)
 have hgl:g<w2.heap.size:=hpr.lt
 have hgw:=HRR1.out
 rw [<-hsOf_length] at hown
 have hnb:∀ k,v.ownBlock=some k->g+1<=k/\k<w2.heap.size:=fun k hk=>hown.lt k hk
 have hst:DV (w2.alloc (.cells #[.slice (some ⟨g,0,none⟩) ss.length ss.length,v] 51)) (w.heap.size+1+1) w2.heap.size g ss.length v (ss.map nums) (hsOf ws) :=
  ⟨row_new _ _ _,hpr.below (below_new _ _),(owns_below hown (below_new _ _)).mono (by omega),fun e=>by have:=hnb _ e;omega,fun e=>by have:=hnb _ e;omega,by omega,by omega,by omega⟩
 have hszx:w.heap.size+1+1<=(w2.alloc (.cells #[.slice (some ⟨g,0,none⟩) ss.length ss.length,v] 51)).heap.size:=by simp;omega
 have HST:=hid hst
 have HR0:=hid (HRR2.out.alloc (.cells #[.slice (some ⟨g,0,none⟩) ss.length ss.length,v] 51))
 have HBW:=hid (Below.then HB2.out (Nat.le_refl _) (below_new w2 (.cells #[.slice (some ⟨g,0,none⟩) ss.length ss.length,v] 51)))
 obtain ⟨av,cv,hv⟩:∃ a c,v=.slice a ws.length c:=by
  rw [<-hsOf_length]
  rcases owns_forms hown with ⟨e,h0⟩ | ⟨g,c,e,_⟩
  ·exact ⟨_,_,by rw [e,h0]⟩
  ·exact ⟨_,_,e⟩
 subst hv
 have HOK:=hid hok
 clear hst hpr hown hb2 HB1 HRR HB2 HRR2 hnb
 go_wp2
 obtain ⟨wq,HWQ⟩:∃ wq,wq=w2.alloc (.cells #[.slice (some ⟨g,0,none⟩) ss.length ss.length,.slice av ws.length cv] 51):=⟨_,rfl⟩
 rw [<-HWQ] at HST HR0 HBW hszx ⊢
 go_loopw [9,24] (fun _ i wr=>∃ (k:Nat) (d:List ByteArray×List (Int×ByteArray)) (v:Value),k<=zn/\i=.int .i64 k/\d.1.length=ss.length/\Hid (diskOk d.1 d.2=true)/\Hid (opsD (RS.drop k) d=RES)/\Hid (DV wr (w.heap.size+1+1) w2.heap.size g ss.length v (d.1.map nums) (hsOf d.2))/\Hid (Row wr (w.heap.size+1) [.slice none 0 0,.slice none 0 0])/\Hid (Below w.heap.size w wr)/\w.heap.size+1+1<=wr.heap.size) (fun _ i _=>zn-(intOf i).toNat)
 case atStart=>exact ⟨0,(ss,ws),_,Nat.zero_le _,rfl,rfl,HOK,by show _=_;rw [List.drop_zero,HRES.out],HST,HR0,HBW,hszx⟩
 case round =>
  obtain ⟨k,d,v,hk,rfl,hdl,HDO,HK,HDV,HRR,HBE,hsw⟩:=hrel
  by_cases hlt:k<zn
  ·obtain ⟨b,o,s0,n1,s2,rfl,hc0,hc1,hc2,HS⟩:=(hzt.below HBE.out).at (k:=k) (by rw [hRSl];exact hlt)
   have hmem:(s0,n1,s2)∈RS:=by rw [HS.out];simp [List.getD,hRSl,hlt]
   have hs2:s2.size<=1048576:=HSZ.out _ hmem
   have hbA:∀ ob,Below wr.heap.size wr (wr.alloc ob):=fun ob=>below_new _ _
   have HDI:=hid (fun ob=>do_i (w.heap.size+1+1) w2.heap.size g ss.length v d.1 d.2 s0 n1 s2 (wr.alloc ob) (HDV.out.below (hbA ob)) hdl HDO.out hs2 (Nat.le_trans hsw (hbA ob).size))
   go_wp2_with (go_at_call 18;refine (HDI.out _).mono ?_;rintro e w4 ⟨⟨x,rfl⟩,⟨v',hdv⟩,hb4⟩)
   have HDV':=hid hdv
   have HB4:=hid (((hbA (.cells #[.bool s0,.int .i64 n1,.string s2] 34)).mono hsw).trans hb4)
   have HK':Hid (opsD (RS.drop (k+1)) (opD d (s0,n1,s2))=RES):=by
    show _=_
    rw [<-HK.out,drop_at RS k (false,0,ByteArray.empty) (by rw [hRSl];exact hlt),<-HS.out,opsD]
   have hs4:=hb4.size
   clear hdv hb4
   go_wp2
   go_roundw
   case rel=>exact ⟨k+1,_,v',by omega,by go_num,by rw [opD_len];exact hdl,opD_ok d _ HDO.out,HK',HDV',HRR.out.lowB HB4.out (by omega),HBE.out.trans (HB4.out.mono (by omega)),by simp at hs4;omega⟩
   case measure=>simp [intOf];omega
  ·have hres:Hid (d=RES):=by
    have:=HK.out
    rw [List.drop_of_length_le (by rw [hRSl];omega)] at this
    exact this
   clear HK HRES HST HR0 HBW
   obtain rfl:=hres.out
   obtain ⟨⟨hm1,hm2,hm3⟩,hm64,hmw⟩:=diskOk_of HDO.out
   have H64:=hid (hsOf_64 (ws:=d.2) fun x hx=>by have:=of_decide_eq_true (hmw x hx);omega)
   obtain ⟨a2,c2,hv,hld⟩:=HDV.out.form H64.out
   rw [hsOf_length] at hv
   have q0:=HDV.out.rx.cell 0 _ rfl
   have q1:=HDV.out.rx.cell 1 _ rfl
   rw [hv] at q1
   have HLD:=hid hld
   clear hm1 hm64 hmw hld
   go_wp2_with fail
   refine (disk_i' (some ⟨g,0,none⟩) (d.1.map nums) ss.length ss.length a2 (hsOf d.2) d.2.length c2 (by simp [hdl]) (hsOf_length _) _ HDV.out.pr.plt HLD.out hn2 (by omega) HDV.out.pr.len H64.out).mono ?_
   rintro e w5 ⟨a1,c1,a1',c1',rfl,hod,hg1,hg2,hb5⟩
   rw [secs_nums,held_hsOf] at hod
   have rR:=HRR.out.below hb5
   have r0:=rR.cell 0 _ rfl
   have r1:=rR.cell 1 _ rfl
   obtain ⟨fr0,fr1⟩:=rR.z2
   have HB5:=hid (Below.then HBE.out (Nat.le_refl _) hb5)
   have HOD:=hid hod
   have hbs:=HBE.out.size
   have HG1:Hid (∀ g,blk a1 ss.length=some g->w.heap.size+1<g):=fun g hg=>by have h1:=hg1 g hg;omega
   have HG2:Hid (∀ g,blk a1' d.2.length=some g->w.heap.size+1<g):=fun g hg=>by have h1:=hg2 g hg;omega
   clear hod hg1 hg2 hb5 rR q0 q1
   go_wp2
   rw [hdl]
   have hd1:d.1.length≠0:=by omega
   have hs1:∀ (wz:World) (u:Value) (i:Nat),OwnD wz a1 d.1 a1' d.2->OwnD (wz.setCell ⟨w.heap.size+1,i,none⟩ u) a1 d.1 a1' d.2:=fun wz u i ho=>by
    refine ⟨ho.s.setp _ (fun g3 e3 hne e=>?_) _,ho.p.setp _ (fun g3 e3 hne e=>?_) _,ho.ne⟩
    ·have:=HG1.out g3 (by rw [e3];exact blk_pos g3 0 _ (by omega))
     have e':w.heap.size+1=g3:=e
     omega
    ·have:=HG2.out g3 (by rw [e3];exact blk_pos g3 0 _ (fun e0=>hne (by rw [List.eq_nil_of_length_eq_zero e0];rfl)))
     have e':w.heap.size+1=g3:=e
     omega
   refine bodyPost_ret (v:=diskV a1 ss.length c1 a1' d.2.length c1') (by simp [results,Try.results5,go_sem,r0,r1]) rfl ⟨a1,c1,a1',c1',rfl,hs1 _ _ _ (hs1 _ _ _ HOD.out),fun g hg=>by have:=HG1.out g hg;omega,fun g hg=>by have:=HG2.out g hg;omega,?_⟩
   exact (HB5.out.setCell (by show w.heap.size<=w.heap.size+1;omega) _).setCell (by show w.heap.size<=w.heap.size+1;omega) _
set_option maxRecDepth 100000 in
theorem pf_i_c (a:Option Addr) (ss:List ByteArray) (c:Nat) (a':Option Addr) (ws:List (Int×ByteArray)) (c':Nat) (f:Option Addr) (rs:List (Bool×Int×ByteArray)) (cf:Nat) (z:Int) (w:World) (h:Strs w a ss) (h':Wrs w a' ws) (hz:Ops w f rs) (hcf:rs.length<=cf) (hlz:rs.length<=1048576) (hz0:0<=z) (hz1:(rs.length:Int)<z) (hsz:∀ x∈rs,x.2.2.size<=1048576) (hok:diskOk ss ws=true) :
  Calls Try.prog 5 #[diskV a ss.length c a' ws.length c',.slice f rs.length cf,.int .i64 z] w fun e w'=>∃ a1 c1 a1' c1',e=.returned (diskV a1 (opsD (rs.take (rs.length)) (ss,ws)).1.length c1 a1' (opsD (rs.take (rs.length)) (ss,ws)).2.length c1')/\OwnD w' a1 (opsD (rs.take (rs.length)) (ss,ws)).1 a1' (opsD (rs.take (rs.length)) (ss,ws)).2/\(∀ g,blk a1 (opsD (rs.take (rs.length)) (ss,ws)).1.length=some g->w.heap.size<=g)/\(∀ g,blk a1' (opsD (rs.take (rs.length)) (ss,ws)).2.length=some g->w.heap.size<=g)/\Below w.heap.size w w':=by
 obtain ⟨⟨hn1,hn2,hn3⟩,h64,hw⟩:=diskOk_of hok
 have hb0:∀ o1 o2,Below w.heap.size w ((w.alloc o1).alloc o2):=fun o1 o2=>((Below.refl _ _).alloc (Nat.le_refl _) _).alloc (by simp) _
 have hml:rs.length<=rs.length:=by omega
 obtain ⟨RS,HRS⟩:∃ RS,Hid (RS=rs.take (rs.length)):=⟨_,hid rfl⟩
 have hRSl:RS.length=rs.length:=by rw [HRS.out];simp
 have hzt:Ops w f RS:=by rw [HRS.out];exact hz.take (rs.length)
 have HSZ:Hid (∀ x∈RS,x.2.2.size<=1048576):=fun x hx=>hsz x (by rw [HRS.out] at hx;exact List.mem_of_mem_take hx)
 rw [<-HRS.out]
 obtain ⟨RES,HRES⟩:∃ RES,Hid (RES=opsD RS (ss,ws)):=⟨_,hid rfl⟩
 rw [<-HRES.out]
 go_enter Try.func5,Try.ntmps5
 go_wp2_with fail
 refine (valid_i a ss c a' ws c' _ (h.below (hb0 _ _)) (h'.below (hb0 _ _)) (by omega) (by omega) (fun s hs=>by have:=h64 s hs;omega) (fun x hx=>by have:=of_decide_eq_true (hw x hx);omega)).mono ?_
 rw [hok]
 rintro e w1 ⟨rfl,hb1⟩
 have hB1:=(hb0 _ _).trans (hb1.mono (by simp;omega))
 obtain ⟨q1,q2⟩:=bcell hb1
 have rR:=(row_new' (w.alloc (.cells #[.slice a ss.length c,.slice a' ws.length c'] 26)) #[.slice none 0 0,.slice none 0 0] 26 (w.heap.size+1) (by simp)).below hb1
 have HRR:=hid rR
 have HB1:=hid hB1
 clear rR hb1 hB1
 go_wp2_with fail
 refine (drv_i a ss c a' ws c' _ (h.below HB1.out) (h'.below HB1.out) hn2 hn3 (fun s hs=>by have:=h64 s hs;omega) (fun x hx=>by have:=of_decide_eq_true (hw x hx);omega)).mono ?_
 rintro e w2 ⟨g,v,rfl,hpr,hown,hg,hb2⟩
 clear q1 q2
 have HRR2:=hid (HRR.out.below hb2)
 have HRR1:Hid (w.heap.size+1+1<=g):=by have:=HRR.out.lt;show _<=_;omega
 have HB2:=hid (Below.then HB1.out (Nat.le_refl _) hb2)
 have hgl:g<w2.heap.size:=hpr.lt
 have hgw:=HRR1.out
 rw [<-hsOf_length] at hown
 have hnb:∀ k,v.ownBlock=some k->g+1<=k/\k<w2.heap.size:=fun k hk=>hown.lt k hk
 have hst:DV (w2.alloc (.cells #[.slice (some ⟨g,0,none⟩) ss.length ss.length,v] 51)) (w.heap.size+1+1) w2.heap.size g ss.length v (ss.map nums) (hsOf ws) :=
  ⟨row_new _ _ _,hpr.below (below_new _ _),(owns_below hown (below_new _ _)).mono (by omega),fun e=>by have:=hnb _ e;omega,fun e=>by have:=hnb _ e;omega,by omega,by omega,by omega⟩
 have hszx:w.heap.size+1+1<=(w2.alloc (.cells #[.slice (some ⟨g,0,none⟩) ss.length ss.length,v] 51)).heap.size:=by simp;omega
 have HST:=hid hst
 have HR0:=hid (HRR2.out.alloc (.cells #[.slice (some ⟨g,0,none⟩) ss.length ss.length,v] 51))
 have HBW:=hid (Below.then HB2.out (Nat.le_refl _) (below_new w2 (.cells #[.slice (some ⟨g,0,none⟩) ss.length ss.length,v] 51)))
 obtain ⟨av,cv,hv⟩:∃ a c,v=.slice a ws.length c:=by
  rw [<-hsOf_length]
  rcases owns_forms hown with ⟨e,h0⟩ | ⟨g,c,e,_⟩
  ·exact ⟨_,_,by rw [e,h0]⟩
  ·exact ⟨_,_,e⟩
 subst hv
 have HOK:=hid hok
 clear hst hpr hown hb2 HB1 HRR HB2 HRR2 hnb
 go_wp2
 obtain ⟨wq,HWQ⟩:∃ wq,wq=w2.alloc (.cells #[.slice (some ⟨g,0,none⟩) ss.length ss.length,.slice av ws.length cv] 51):=⟨_,rfl⟩
 rw [<-HWQ] at HST HR0 HBW hszx ⊢
 go_loopw [9,24] (fun _ i wr=>∃ (k:Nat) (d:List ByteArray×List (Int×ByteArray)) (v:Value),k<=rs.length/\i=.int .i64 k/\d.1.length=ss.length/\Hid (diskOk d.1 d.2=true)/\Hid (opsD (RS.drop k) d=RES)/\Hid (DV wr (w.heap.size+1+1) w2.heap.size g ss.length v (d.1.map nums) (hsOf d.2))/\Hid (Row wr (w.heap.size+1) [.slice none 0 0,.slice none 0 0])/\Hid (Below w.heap.size w wr)/\w.heap.size+1+1<=wr.heap.size) (fun _ i _=>rs.length-(intOf i).toNat)
 case atStart=>exact ⟨0,(ss,ws),_,Nat.zero_le _,rfl,rfl,HOK,by show _=_;rw [List.drop_zero,HRES.out],HST,HR0,HBW,hszx⟩
 case round =>
  obtain ⟨k,d,v,hk,rfl,hdl,HDO,HK,HDV,HRR,HBE,hsw⟩:=hrel
  by_cases hlt:k<rs.length
  ·obtain ⟨b,o,s0,n1,s2,rfl,hc0,hc1,hc2,HS⟩:=(hzt.below HBE.out).at (k:=k) (by rw [hRSl];exact hlt)
   have hmem:(s0,n1,s2)∈RS:=by rw [HS.out];simp [List.getD,hRSl,hlt]
   have hs2:s2.size<=1048576:=HSZ.out _ hmem
   have hbA:∀ ob,Below wr.heap.size wr (wr.alloc ob):=fun ob=>below_new _ _
   have HDI:=hid (fun ob=>do_i (w.heap.size+1+1) w2.heap.size g ss.length v d.1 d.2 s0 n1 s2 (wr.alloc ob) (HDV.out.below (hbA ob)) hdl HDO.out hs2 (Nat.le_trans hsw (hbA ob).size))
   go_wp2_with (go_at_call 18;refine (HDI.out _).mono ?_;rintro e w4 ⟨⟨x,rfl⟩,⟨v',hdv⟩,hb4⟩)
   have HDV':=hid hdv
   have HB4:=hid (((hbA (.cells #[.bool s0,.int .i64 n1,.string s2] 34)).mono hsw).trans hb4)
   have HK':Hid (opsD (RS.drop (k+1)) (opD d (s0,n1,s2))=RES):=by
    show _=_
    rw [<-HK.out,drop_at RS k (false,0,ByteArray.empty) (by rw [hRSl];exact hlt),<-HS.out,opsD]
   have hs4:=hb4.size
   clear hdv hb4
   go_wp2
   go_roundw
   case rel=>exact ⟨k+1,_,v',by omega,by go_num,by rw [opD_len];exact hdl,opD_ok d _ HDO.out,HK',HDV',HRR.out.lowB HB4.out (by omega),HBE.out.trans (HB4.out.mono (by omega)),by simp at hs4;omega⟩
   case measure=>simp [intOf];omega
  ·have hres:Hid (d=RES):=by
    have:=HK.out
    rw [List.drop_of_length_le (by rw [hRSl];omega)] at this
    exact this
   clear HK HRES HST HR0 HBW
   obtain rfl:=hres.out
   obtain ⟨⟨hm1,hm2,hm3⟩,hm64,hmw⟩:=diskOk_of HDO.out
   have H64:=hid (hsOf_64 (ws:=d.2) fun x hx=>by have:=of_decide_eq_true (hmw x hx);omega)
   obtain ⟨a2,c2,hv,hld⟩:=HDV.out.form H64.out
   rw [hsOf_length] at hv
   have q0:=HDV.out.rx.cell 0 _ rfl
   have q1:=HDV.out.rx.cell 1 _ rfl
   rw [hv] at q1
   have HLD:=hid hld
   clear hm1 hm64 hmw hld
   go_wp2_with fail
   refine (disk_i' (some ⟨g,0,none⟩) (d.1.map nums) ss.length ss.length a2 (hsOf d.2) d.2.length c2 (by simp [hdl]) (hsOf_length _) _ HDV.out.pr.plt HLD.out hn2 (by omega) HDV.out.pr.len H64.out).mono ?_
   rintro e w5 ⟨a1,c1,a1',c1',rfl,hod,hg1,hg2,hb5⟩
   rw [secs_nums,held_hsOf] at hod
   have rR:=HRR.out.below hb5
   have r0:=rR.cell 0 _ rfl
   have r1:=rR.cell 1 _ rfl
   obtain ⟨fr0,fr1⟩:=rR.z2
   have HB5:=hid (Below.then HBE.out (Nat.le_refl _) hb5)
   have HOD:=hid hod
   have hbs:=HBE.out.size
   have HG1:Hid (∀ g,blk a1 ss.length=some g->w.heap.size+1<g):=fun g hg=>by have h1:=hg1 g hg;omega
   have HG2:Hid (∀ g,blk a1' d.2.length=some g->w.heap.size+1<g):=fun g hg=>by have h1:=hg2 g hg;omega
   clear hod hg1 hg2 hb5 rR q0 q1
   go_wp2
   rw [hdl]
   have hd1:d.1.length≠0:=by omega
   have hs1:∀ (wz:World) (u:Value) (i:Nat),OwnD wz a1 d.1 a1' d.2->OwnD (wz.setCell ⟨w.heap.size+1,i,none⟩ u) a1 d.1 a1' d.2:=fun wz u i ho=>by
    refine ⟨ho.s.setp _ (fun g3 e3 hne e=>?_) _,ho.p.setp _ (fun g3 e3 hne e=>?_) _,ho.ne⟩
    ·have:=HG1.out g3 (by rw [e3];exact blk_pos g3 0 _ (by omega))
     have e':w.heap.size+1=g3:=e
     omega
    ·have:=HG2.out g3 (by rw [e3];exact blk_pos g3 0 _ (fun e0=>hne (by rw [List.eq_nil_of_length_eq_zero e0];rfl)))
     have e':w.heap.size+1=g3:=e
     omega
   refine bodyPost_ret (v:=diskV a1 ss.length c1 a1' d.2.length c1') (by simp [results,Try.results5,go_sem,r0,r1]) rfl ⟨a1,c1,a1',c1',rfl,hs1 _ _ _ (hs1 _ _ _ HOD.out),fun g hg=>by have:=HG1.out g hg;omega,fun g hg=>by have:=HG2.out g hg;omega,?_⟩
   exact (HB5.out.setCell (by show w.heap.size<=w.heap.size+1;omega) _).setCell (by show w.heap.size<=w.heap.size+1;omega) _
set_option maxRecDepth 100000 in
theorem pf_i_d (a:Option Addr) (ss:List ByteArray) (c:Nat) (a':Option Addr) (ws:List (Int×ByteArray)) (c':Nat) (f:Option Addr) (rs:List (Bool×Int×ByteArray)) (cf:Nat) (w:World) (h:Strs w a ss) (h':Wrs w a' ws) (hz:Ops w f rs) (hcf:rs.length<=cf) (hlz:rs.length<=1048576) (hsz:∀ x∈rs,x.2.2.size<=1048576) (hok:diskOk ss ws=true) :
  Calls Try.prog 5 #[diskV a ss.length c a' ws.length c',.slice f rs.length cf,.int .i64 (rs.length:Int)] w fun e w'=>∃ a1 c1 a1' c1',e=.returned (diskV a1 (opsD (rs.take (rs.length)) (ss,ws)).1.length c1 a1' (opsD (rs.take (rs.length)) (ss,ws)).2.length c1')/\OwnD w' a1 (opsD (rs.take (rs.length)) (ss,ws)).1 a1' (opsD (rs.take (rs.length)) (ss,ws)).2/\(∀ g,blk a1 (opsD (rs.take (rs.length)) (ss,ws)).1.length=some g->w.heap.size<=g)/\(∀ g,blk a1' (opsD (rs.take (rs.length)) (ss,ws)).2.length=some g->w.heap.size<=g)/\Below w.heap.size w w':=by
 obtain ⟨⟨hn1,hn2,hn3⟩,h64,hw⟩:=diskOk_of hok
 have hb0:∀ o1 o2,Below w.heap.size w ((w.alloc o1).alloc o2):=fun o1 o2=>((Below.refl _ _).alloc (Nat.le_refl _) _).alloc (by simp) _
 have hml:rs.length<=rs.length:=by omega
 obtain ⟨RS,HRS⟩:∃ RS,Hid (RS=rs.take (rs.length)):=⟨_,hid rfl⟩
 have hRSl:RS.length=rs.length:=by rw [HRS.out];simp
 have hzt:Ops w f RS:=by rw [HRS.out];exact hz.take (rs.length)
 have HSZ:Hid (∀ x∈RS,x.2.2.size<=1048576):=fun x hx=>hsz x (by rw [HRS.out] at hx;exact List.mem_of_mem_take hx)
 rw [<-HRS.out]
 obtain ⟨RES,HRES⟩:∃ RES,Hid (RES=opsD RS (ss,ws)):=⟨_,hid rfl⟩
 rw [<-HRES.out]
 go_enter Try.func5,Try.ntmps5
 go_wp2_with fail
 refine (valid_i a ss c a' ws c' _ (h.below (hb0 _ _)) (h'.below (hb0 _ _)) (by omega) (by omega) (fun s hs=>by have:=h64 s hs;omega) (fun x hx=>by have:=of_decide_eq_true (hw x hx);omega)).mono ?_
 rw [hok]
 rintro e w1 ⟨rfl,hb1⟩
 have hB1:=(hb0 _ _).trans (hb1.mono (by simp;omega))
 obtain ⟨q1,q2⟩:=bcell hb1
 have rR:=(row_new' (w.alloc (.cells #[.slice a ss.length c,.slice a' ws.length c'] 26)) #[.slice none 0 0,.slice none 0 0] 26 (w.heap.size+1) (by simp)).below hb1
 have HRR:=hid rR
 have HB1:=hid hB1
 clear rR hb1 hB1
 go_wp2_with fail
 refine (drv_i a ss c a' ws c' _ (h.below HB1.out) (h'.below HB1.out) hn2 hn3 (fun s hs=>by have:=h64 s hs;omega) (fun x hx=>by have:=of_decide_eq_true (hw x hx);omega)).mono ?_
 rintro e w2 ⟨g,v,rfl,hpr,hown,hg,hb2⟩
 clear q1 q2
 have HRR2:=hid (HRR.out.below hb2)
 have HRR1:Hid (w.heap.size+1+1<=g):=by have:=HRR.out.lt;show _<=_;omega
 have HB2:=hid (Below.then HB1.out (Nat.le_refl _) hb2)
 have hgl:g<w2.heap.size:=hpr.lt
 have hgw:=HRR1.out
 rw [<-hsOf_length] at hown
 have hnb:∀ k,v.ownBlock=some k->g+1<=k/\k<w2.heap.size:=fun k hk=>hown.lt k hk
 have hst:DV (w2.alloc (.cells #[.slice (some ⟨g,0,none⟩) ss.length ss.length,v] 51)) (w.heap.size+1+1) w2.heap.size g ss.length v (ss.map nums) (hsOf ws) :=
  ⟨row_new _ _ _,hpr.below (below_new _ _),(owns_below hown (below_new _ _)).mono (by omega),fun e=>by have:=hnb _ e;omega,fun e=>by have:=hnb _ e;omega,by omega,by omega,by omega⟩
 have hszx:w.heap.size+1+1<=(w2.alloc (.cells #[.slice (some ⟨g,0,none⟩) ss.length ss.length,v] 51)).heap.size:=by simp;omega
 have HST:=hid hst
 have HR0:=hid (HRR2.out.alloc (.cells #[.slice (some ⟨g,0,none⟩) ss.length ss.length,v] 51))
 have HBW:=hid (Below.then HB2.out (Nat.le_refl _) (below_new w2 (.cells #[.slice (some ⟨g,0,none⟩) ss.length ss.length,v] 51)))
 obtain ⟨av,cv,hv⟩:∃ a c,v=.slice a ws.length c:=by
  rw [<-hsOf_length]
  rcases owns_forms hown with ⟨e,h0⟩ | ⟨g,c,e,_⟩
  ·exact ⟨_,_,by rw [e,h0]⟩
  ·exact ⟨_,_,e⟩
 subst hv
 have HOK:=hid hok
 clear hst hpr hown hb2 HB1 HRR HB2 HRR2 hnb
 go_wp2
 obtain ⟨wq,HWQ⟩:∃ wq,wq=w2.alloc (.cells #[.slice (some ⟨g,0,none⟩) ss.length ss.length,.slice av ws.length cv] 51):=⟨_,rfl⟩
 rw [<-HWQ] at HST HR0 HBW hszx ⊢
 go_loopw [9,24] (fun _ i wr=>∃ (k:Nat) (d:List ByteArray×List (Int×ByteArray)) (v:Value),k<=rs.length/\i=.int .i64 k/\d.1.length=ss.length/\Hid (diskOk d.1 d.2=true)/\Hid (opsD (RS.drop k) d=RES)/\Hid (DV wr (w.heap.size+1+1) w2.heap.size g ss.length v (d.1.map nums) (hsOf d.2))/\Hid (Row wr (w.heap.size+1) [.slice none 0 0,.slice none 0 0])/\Hid (Below w.heap.size w wr)/\w.heap.size+1+1<=wr.heap.size) (fun _ i _=>rs.length-(intOf i).toNat)
 case atStart=>exact ⟨0,(ss,ws),_,Nat.zero_le _,rfl,rfl,HOK,by show _=_;rw [List.drop_zero,HRES.out],HST,HR0,HBW,hszx⟩
 case round =>
  obtain ⟨k,d,v,hk,rfl,hdl,HDO,HK,HDV,HRR,HBE,hsw⟩:=hrel
  by_cases hlt:k<rs.length
  ·obtain ⟨b,o,s0,n1,s2,rfl,hc0,hc1,hc2,HS⟩:=(hzt.below HBE.out).at (k:=k) (by rw [hRSl];exact hlt)
   have hmem:(s0,n1,s2)∈RS:=by rw [HS.out];simp [List.getD,hRSl,hlt]
   have hs2:s2.size<=1048576:=HSZ.out _ hmem
   have hbA:∀ ob,Below wr.heap.size wr (wr.alloc ob):=fun ob=>below_new _ _
   have HDI:=hid (fun ob=>do_i (w.heap.size+1+1) w2.heap.size g ss.length v d.1 d.2 s0 n1 s2 (wr.alloc ob) (HDV.out.below (hbA ob)) hdl HDO.out hs2 (Nat.le_trans hsw (hbA ob).size))
   go_wp2_with (go_at_call 18;refine (HDI.out _).mono ?_;rintro e w4 ⟨⟨x,rfl⟩,⟨v',hdv⟩,hb4⟩)
   have HDV':=hid hdv
   have HB4:=hid (((hbA (.cells #[.bool s0,.int .i64 n1,.string s2] 34)).mono hsw).trans hb4)
   have HK':Hid (opsD (RS.drop (k+1)) (opD d (s0,n1,s2))=RES):=by
    show _=_
    rw [<-HK.out,drop_at RS k (false,0,ByteArray.empty) (by rw [hRSl];exact hlt),<-HS.out,opsD]
   have hs4:=hb4.size
   clear hdv hb4
   go_wp2
   go_roundw
   case rel=>exact ⟨k+1,_,v',by omega,by go_num,by rw [opD_len];exact hdl,opD_ok d _ HDO.out,HK',HDV',HRR.out.lowB HB4.out (by omega),HBE.out.trans (HB4.out.mono (by omega)),by simp at hs4;omega⟩
   case measure=>simp [intOf];omega
  ·have hres:Hid (d=RES):=by
    have:=HK.out
    rw [List.drop_of_length_le (by rw [hRSl];omega)] at this
    exact this
   clear HK HRES HST HR0 HBW
   obtain rfl:=hres.out
   obtain ⟨⟨hm1,hm2,hm3⟩,hm64,hmw⟩:=diskOk_of HDO.out
   have H64:=hid (hsOf_64 (ws:=d.2) fun x hx=>by have:=of_decide_eq_true (hmw x hx);omega)
   obtain ⟨a2,c2,hv,hld⟩:=HDV.out.form H64.out
   rw [hsOf_length] at hv
   have q0:=HDV.out.rx.cell 0 _ rfl
   have q1:=HDV.out.rx.cell 1 _ rfl
   rw [hv] at q1
   have HLD:=hid hld
   clear hm1 hm64 hmw hld
   go_wp2_with fail
   refine (disk_i' (some ⟨g,0,none⟩) (d.1.map nums) ss.length ss.length a2 (hsOf d.2) d.2.length c2 (by simp [hdl]) (hsOf_length _) _ HDV.out.pr.plt HLD.out hn2 (by omega) HDV.out.pr.len H64.out).mono ?_
   rintro e w5 ⟨a1,c1,a1',c1',rfl,hod,hg1,hg2,hb5⟩
   rw [secs_nums,held_hsOf] at hod
   have rR:=HRR.out.below hb5
   have r0:=rR.cell 0 _ rfl
   have r1:=rR.cell 1 _ rfl
   obtain ⟨fr0,fr1⟩:=rR.z2
   have HB5:=hid (Below.then HBE.out (Nat.le_refl _) hb5)
   have HOD:=hid hod
   have hbs:=HBE.out.size
   have HG1:Hid (∀ g,blk a1 ss.length=some g->w.heap.size+1<g):=fun g hg=>by have h1:=hg1 g hg;omega
   have HG2:Hid (∀ g,blk a1' d.2.length=some g->w.heap.size+1<g):=fun g hg=>by have h1:=hg2 g hg;omega
   clear hod hg1 hg2 hb5 rR q0 q1
   go_wp2
   rw [hdl]
   have hd1:d.1.length≠0:=by omega
   have hs1:∀ (wz:World) (u:Value) (i:Nat),OwnD wz a1 d.1 a1' d.2->OwnD (wz.setCell ⟨w.heap.size+1,i,none⟩ u) a1 d.1 a1' d.2:=fun wz u i ho=>by
    refine ⟨ho.s.setp _ (fun g3 e3 hne e=>?_) _,ho.p.setp _ (fun g3 e3 hne e=>?_) _,ho.ne⟩
    ·have:=HG1.out g3 (by rw [e3];exact blk_pos g3 0 _ (by omega))
     have e':w.heap.size+1=g3:=e
     omega
    ·have:=HG2.out g3 (by rw [e3];exact blk_pos g3 0 _ (fun e0=>hne (by rw [List.eq_nil_of_length_eq_zero e0];rfl)))
     have e':w.heap.size+1=g3:=e
     omega
   refine bodyPost_ret (v:=diskV a1 ss.length c1 a1' d.2.length c1') (by simp [results,Try.results5,go_sem,r0,r1]) rfl ⟨a1,c1,a1',c1',rfl,hs1 _ _ _ (hs1 _ _ _ HOD.out),fun g hg=>by have:=HG1.out g hg;omega,fun g hg=>by have:=HG2.out g hg;omega,?_⟩
   exact (HB5.out.setCell (by show w.heap.size<=w.heap.size+1;omega) _).setCell (by show w.heap.size<=w.heap.size+1;omega) _
theorem pf_i (a:Option Addr) (ss:List ByteArray) (c:Nat) (a':Option Addr) (ws:List (Int×ByteArray)) (c':Nat) (f:Option Addr) (rs:List (Bool×Int×ByteArray)) (cf:Nat) (z:Int) (w:World) (h:Strs w a ss) (h':Wrs w a' ws) (hz:Ops w f rs) (hcf:rs.length<=cf) (hlz:rs.length<=1048576) (hsz:∀ x∈rs,x.2.2.size<=1048576) (hok:diskOk ss ws=true) :
  Calls Try.prog 5 #[diskV a ss.length c a' ws.length c',.slice f rs.length cf,.int .i64 z] w fun e w'=>∃ a1 c1 a1' c1',e=.returned (diskV a1 (opsD (rs.take (pfN z rs.length)) (ss,ws)).1.length c1 a1' (opsD (rs.take (pfN z rs.length)) (ss,ws)).2.length c1')/\OwnD w' a1 (opsD (rs.take (pfN z rs.length)) (ss,ws)).1 a1' (opsD (rs.take (pfN z rs.length)) (ss,ws)).2/\(∀ g,blk a1 (opsD (rs.take (pfN z rs.length)) (ss,ws)).1.length=some g->w.heap.size<=g)/\(∀ g,blk a1' (opsD (rs.take (pfN z rs.length)) (ss,ws)).2.length=some g->w.heap.size<=g)/\Below w.heap.size w w':=by
 by_cases h0:z<0
 ·have e:pfN z rs.length=0:=by unfold pfN;omega
  rw [e]
  exact pf_i_a a ss c a' ws c' f rs cf z w h h' hz hcf hlz h0 hsz hok
 ·by_cases h1:z<(rs.length:Int)
  ·obtain ⟨zn,rfl⟩:∃ zn:Nat,z=(zn:Int):=⟨z.toNat,by omega⟩
   have e:pfN (zn:Int) rs.length=zn:=by unfold pfN;omega
   rw [e]
   exact pf_i_b a ss c a' ws c' f rs cf zn w h h' hz hcf hlz (by omega) hsz hok
  ·have e:pfN z rs.length=rs.length:=by unfold pfN;omega
   rw [e]
   by_cases h2:z=(rs.length:Int)
   ·subst h2
    exact pf_i_d a ss c a' ws c' f rs cf w h h' hz hcf hlz hsz hok
   ·exact pf_i_c a ss c a' ws c' f rs cf z w h h' hz hcf hlz (by omega) (by omega) hsz hok
theorem pf_i_no (a:Option Addr) (ss:List ByteArray) (c:Nat) (a':Option Addr) (ws:List (Int×ByteArray)) (c':Nat) (v z:Value) (w:World) (h:Strs w a ss) (h':Wrs w a' ws) (hl:ss.length<=1048576) (hl':ws.length<=1048576) (hs:∀ s∈ss,s.size<=1048576) (hs':∀ x∈ws,x.2.size<=1048576) (hok:diskOk ss ws=false) :
  Calls Try.prog 5 #[diskV a ss.length c a' ws.length c',v,z] w fun e w'=>e=.returned (diskV none 0 0 none 0 0)/\Below w.heap.size w w':=by
 have hb0:∀ o1 o2,Below w.heap.size w ((w.alloc o1).alloc o2):=fun o1 o2=>((Below.refl _ _).alloc (Nat.le_refl _) _).alloc (by simp) _
 go_enter Try.func5,Try.ntmps5
 go_wp2_with fail
 refine (valid_i a ss c a' ws c' _ (h.below (hb0 _ _)) (h'.below (hb0 _ _)) hl hl' hs hs').mono ?_
 rw [hok]
 rintro e w1 ⟨rfl,hb1⟩
 have HB1:=hid ((hb0 _ _).trans (hb1.mono (by simp;omega)))
 have rR:=(row_new' (w.alloc (.cells #[.slice a ss.length c,.slice a' ws.length c'] 26)) #[.slice none 0 0,.slice none 0 0] 26 (w.heap.size+1) (by simp)).below hb1
 have r0:=rR.cell 0 _ rfl
 have r1:=rR.cell 1 _ rfl
 obtain ⟨fr0,fr1⟩:=rR.z2
 clear rR hb1
 go_wp2
 exact bodyPost_ret (v:=diskV none 0 0 none 0 0) (by simp [results,Try.results5,go_sem,r0,r1]) rfl ⟨rfl,(HB1.out.setCell (by show w.heap.size<=w.heap.size+1;omega) _).setCell (by show w.heap.size<=w.heap.size+1;omega) _⟩
def pfR (ss:List ByteArray) (ws:List (Int×ByteArray)) (rs:List (Bool×Int×ByteArray)) (z:Int):List ByteArray×List (Int×ByteArray):=if diskOk ss ws=true then opsD (rs.take (pfN z rs.length)) (ss,ws) else ([],[])
theorem pf_i_any (a:Option Addr) (ss:List ByteArray) (c:Nat) (a':Option Addr) (ws:List (Int×ByteArray)) (c':Nat) (f:Option Addr) (rs:List (Bool×Int×ByteArray)) (cf:Nat) (z:Int) (w:World) (h:Strs w a ss) (h':Wrs w a' ws) (hz:Ops w f rs) (hcf:rs.length<=cf) (hlz:rs.length<=1048576) (hsz:∀ x∈rs,x.2.2.size<=1048576) (hl:ss.length<=1048576) (hl':ws.length<=1048576) (hs:∀ s∈ss,s.size<=1048576) (hs':∀ x∈ws,x.2.size<=1048576) :
  Calls Try.prog 5 #[diskV a ss.length c a' ws.length c',.slice f rs.length cf,.int .i64 z] w fun e w'=>∃ a1 c1 a1' c1',e=.returned (diskV a1 (pfR ss ws rs z).1.length c1 a1' (pfR ss ws rs z).2.length c1')/\OwnD w' a1 (pfR ss ws rs z).1 a1' (pfR ss ws rs z).2/\(∀ g,blk a1 (pfR ss ws rs z).1.length=some g->w.heap.size<=g)/\(∀ g,blk a1' (pfR ss ws rs z).2.length=some g->w.heap.size<=g)/\Below w.heap.size w w':=by
 by_cases hok:diskOk ss ws=true
 ·have e1:pfR ss ws rs z=opsD (rs.take (pfN z rs.length)) (ss,ws):=by simp [pfR,hok]
  rw [e1]
  exact pf_i a ss c a' ws c' f rs cf z w h h' hz hcf hlz hsz hok
 ·have e1:pfR ss ws rs z=([],[]):=by simp [pfR,hok]
  rw [e1]
  refine (pf_i_no a ss c a' ws c' _ _ w h h' hl hl' hs hs' (by simpa using hok)).mono ?_
  rintro e w' ⟨rfl,hb⟩
  exact ⟨none,0,none,0,rfl,⟨.inl rfl,.inl rfl,.inl rfl⟩,(fun g hg=>by cases hg),(fun g hg=>by cases hg),hb⟩
structure Ev where
 K:Int
 b:List Ch
 cut:Int
 fs:List Int
def Wo.call (x:Wo) (e:Ev):Dd×Bool :=
 if e.K=1 then (openD x.ss x.ws x.w,!x.up)
 else if e.K=2 then (commitD x.W x.S x.L x.T x.H x.F x.R x.U x.O x.rs e.b,x.up)
 else if e.K=3 then (flushD x.W x.S x.L x.T x.H x.F x.R x.U x.O x.rs,x.up)
 else if e.K=4 then (compactD x.W x.S x.L x.T x.H x.F x.R x.U x.O x.rs,x.up)
 else (noD 0,false)
def Wo.pow (x:Wo) (fs:List Int):Wo:={ x with ss:=plSS fs x.ss x.ws,ws:=[],up:=false,W:=0,S:=0,L:=0,T:=0,H:=0,F:=0,R:=0,U:=0,O:=0,rs:=[] }
def evCut (e:Ev) (d:Dd):Bool:=decide (0<=e.cut/\e.cut<=d.ops.length)
def evN (e:Ev) (d:Dd):Nat:=if 0<=e.cut/\e.cut<=d.ops.length then e.cut.toNat else d.ops.length
theorem evN_le (e:Ev) (d:Dd):evN e d<=d.ops.length:=by unfold evN;split<;>omega
def dats (ops:List OpT):List ByteArray:=ops.filterMap fun o=>if o.1=true then none else some o.2.2
theorem dats_snoc (l:List OpT) (o:OpT):dats (l++[o])=dats l++(if o.1=true then [] else [o.2.2]):=by
 unfold dats
 rw [List.filterMap_append]
 by_cases h:o.1=true<;>simp [h]
theorem dats_le (l:List OpT):(dats l).length<=l.length:=List.length_filterMap_le _ _
def evTs (x:Wo) (e:Ev) (d:Dd):List ByteArray:=x.ts++dats (d.ops.take (evN e d))
def evP (x:Wo) (e:Ev) (d:Dd):List (List Pr):=if e.K=2 then x.P++[d.rs] else x.P
def Wo.ran (x:Wo) (e:Ev) (d:Dd):Wo:={ x with ss:=(pfR x.ss x.ws d.ops (evN e d)).1,ws:=(pfR x.ss x.ws d.ops (evN e d)).2,P:=evP x e d,ts:=evTs x e d }
def Wo.upS (x:Wo) (d:Dd):Wo:={ x with up:=true,W:=d.W,S:=d.S,L:=d.L,T:=d.T,H:=d.H,F:=d.F,R:=d.R,U:=d.U,O:=d.O,rs:=d.rs }
def Wo.doE (x:Wo) (e:Ev):Wo :=
 if e.K=5 then x.pow e.fs
 else if (x.call e).2=false\/(x.call e).1.C≠0 then x
 else if 2000<(evTs x e (x.call e).1).length\/200<(evP x e (x.call e).1).length then x
 else if evCut e (x.call e).1=true then (x.ran e (x.call e).1).pow e.fs
 else if e.K=2 then (x.ran e (x.call e).1).upS (x.call e).1
 else { (x.ran e (x.call e).1).upS (x.call e).1 with P:=[(x.call e).1.rs] }
structure Wo.ok (x:Wo):Prop where
 d:diskOk x.ss x.ws=true\/(x.ss=[]/\x.ws=[])
 s:stateOk x.rs=true
 p:x.P.length<=200/\∀ r∈x.P,stateOk r=true
 t:x.ts.length<=2000/\∀ s∈x.ts,s.size<=64
theorem Wo.ok.le {x:Wo} (h:x.ok):x.le 1048576:=by
 have hs:=stateOk_sizes h.s
 have hd:(x.ss.length<=1048576/\∀ s∈x.ss,s.size<=1048576)/\(x.ws.length<=1048576/\∀ s∈x.ws,s.2.size<=1048576):=by
  rcases h.d with h | ⟨h1,h2⟩
  ·obtain ⟨⟨h1,h2,h3⟩,h4,h5⟩:=diskOk_of h
   refine ⟨⟨by omega,fun s hs=>by have:=h4 s hs;omega⟩,by omega,fun s hs=>?_⟩
   have:=of_decide_eq_true (h5 s hs)
   omega
  ·rw [h1,h2];simp
 exact ⟨hd.1.1,hd.1.2,hd.2.1,hd.2.2,by omega,hs.2,by have:=h.p.1;omega,fun r hr=>by have:=stateOk_sizes (h.p.2 r hr);exact ⟨by omega,this.2⟩,by have:=h.t.1;omega,fun s hs=>by have:=h.t.2 s hs;omega⟩
theorem formOf_le (k l m:Int) (p:ByteArray) (n:Int):(formOf k l m p n).size<=64:=by
 unfold formOf
 split
 ·rename_i h
  have hd:=of_decide_eq_true (by unfold pageOk at h;exact h)
  rw [pageForm_size _ _ _ _ _ (by omega)]
  exact Nat.le_refl _
 ·simp
theorem cutAll_le (s:ByteArray) (l f:Int) (n m:Nat):∀ p∈cutAll s l f n m,p.size<=64:=by
 unfold cutAll
 split
 ·intro p hp
  obtain ⟨i,_,rfl⟩:=List.mem_map.1 hp
  exact formOf_le _ _ _ _ _
 ·simp
theorem putOps_le (q:Int) (l:List ByteArray) (h:∀ p∈l,p.size<=64):∀ o∈putOps q l,o.2.2.size<=64:=by
 intro o ho
 obtain ⟨i,hi,rfl⟩:=List.mem_mapIdx.1 ho
 exact h _ (List.getElem_mem _)
theorem mvPages_le (L F:Int) (n m:Nat) (bss:List (List Ch)):∀ p∈mvPages L F n m bss,p.size<=64:=by
 have key:∀ (bss:List (List Ch)) (acc:List ByteArray),(∀ p∈acc,p.size<=64)->∀ p∈bss.foldl (mvStep L F n m) acc,p.size<=64:=by
  intro bss
  induction bss with
  | nil=>intro acc h;exact h
  | cons b bss ih =>
   intro acc h
   refine ih _ ?_
   unfold mvStep
   intro p hp
   rcases List.mem_append.1 hp with hp | hp
   ·exact h p hp
   ·exact cutAll_le _ _ _ _ _ p hp
 refine key bss _ ?_
 intro p hp
 rw [List.mem_singleton.1 hp]
 exact formOf_le _ _ _ _ _
def Dd.ok (d:Dd):Prop:=stateOk d.rs=true/\d.ops.length<=1000/\∀ o∈d.ops,o.2.2.size<=64
theorem noD_ok (C:Int):(noD C).ok:=⟨stateOk_nil,by simp [noD],by simp [noD]⟩
theorem moveD_ok (W S L T H F:Int) (rs:List Pr) (h:stateOk rs=true) (hl:(moveD W S L T H F rs).ops.length<=1000):(moveD W S L T H F rs).ok:=by
 refine ⟨?_,hl,?_⟩<;>unfold moveD<;>split
 ·exact h
 ·exact stateOk_nil
 ·intro o ho
  unfold mvD at ho
  simp only [List.mem_append,List.mem_cons,List.not_mem_nil,or_false] at ho
  rcases ho with ho | rfl | rfl | rfl
  ·exact putOps_le _ _ (mvPages_le _ _ _ _ _) o ho
  ·simp
  ·show (rtForm _ _ _ _ _).size<=64
   unfold rtForm
   split
   ·exact formOf_le _ _ _ _ _
   ·simp
  ·simp
 ·simp [noD]
theorem commitD_ok (W S L T H F R U O:Int) (rs:List Pr) (b:List Ch):(commitD W S L T H F R U O rs b).ok:=by
 have hb:=(commitD_bound W S L T H F R U O rs b).2
 refine ⟨?_,hb,?_⟩<;>unfold commitD<;>(repeat' split)<;>first | exact stateOk_nil | (simp [noD];done) | skip
 ·rename_i h _ _
  show stateOk (apR rs b)=true
  unfold apR
  rw [if_pos h]
  exact apU_ok h
 ·exact putOps_le _ _ (cutAll_le _ _ _ _ _)
theorem flushD_ok (W S L T H F R U O:Int) (rs:List Pr):(flushD W S L T H F R U O rs).ok:=by
 unfold flushD
 split
 ·rename_i h
  obtain ⟨_,_,_,_,_,_,_,_,h9⟩:=storeOk_of h
  exact ⟨by first | exact h9 | exact h9.1,by simp,by simp⟩
 ·exact noD_ok 1
theorem compactD_ok (W S L T H F R U O:Int) (rs:List Pr) (hl:rs.length<=1048576):(compactD W S L T H F R U O rs).ok:=by
 have hb:=(compactD_bound W S L T H F R U O rs hl).2
 unfold compactD at hb ⊢
 split
 ·rename_i h
  rw [if_pos h] at hb
  obtain ⟨_,_,_,_,_,_,_,_,h9⟩:=storeOk_of h
  exact moveD_ok _ _ _ _ _ _ _ (by first | exact h9 | exact h9.1) hb
 ·exact noD_ok 1
theorem openD_ok (ss:List ByteArray) (ws:List (Int×ByteArray)) (n:Int):(openD ss ws n).ok:=by
 have hb:=(openD_bound ss ws n).2
 unfold openD at hb ⊢
 split
 ·rename_i h
  rw [if_pos h] at hb
  cases hf:foldE (opX ss ws n).1 [] with
  | none=>exact noD_ok 2
  | some rs =>
   rw [hf] at hb
   have hs:=foldE_ok _ _ stateOk_nil _ hf
   simp only at hb ⊢
   split
   ·exact noD_ok 3
   ·rename_i h3
    rw [if_neg h3] at hb
    split
    ·exact noD_ok 4
    ·rename_i h4
     rw [if_neg h4] at hb
     split
     ·rename_i h5
      rw [if_pos h5] at hb
      exact moveD_ok _ _ _ _ _ _ _ hs hb
     ·refine ⟨hs,by simp,?_⟩
      intro o ho
      simp only [List.mem_cons,List.not_mem_nil,or_false] at ho
      rcases ho with rfl | rfl
      ·exact formOf_le _ _ _ _ _
      ·simp
 ·exact noD_ok 1
theorem Wo.ok.call {x:Wo} (h:x.ok) (e:Ev):(x.call e).1.ok:=by
 have:=(stateOk_sizes h.s).1
 unfold Wo.call
 split
 ·exact openD_ok _ _ _
 ·split
  ·exact commitD_ok _ _ _ _ _ _ _ _ _ _ _
  ·split
   ·exact flushD_ok _ _ _ _ _ _ _ _ _ _
   ·split
    ·exact compactD_ok _ _ _ _ _ _ _ _ _ _ (by omega)
    ·exact noD_ok 0
theorem lays_64 (zs:List Int):∀ (hs:List (Int×List Int)) (i:Nat) (ps:List (List Int)),(∀ p∈hs,p.2.length=64)->(∀ p∈ps,p.length=64)->∀ p∈lays zs i hs ps,p.length=64
 | [],_,_,_,h2=>h2
 | x::r,i,ps,h1,h2=>by
  rw [lays]
  by_cases hk:x.1.toNat<ps.length
  ·refine lays_64 zs r (i+1) _ (fun p hp=>h1 p (List.mem_cons_of_mem _ hp)) (fun p hp=>?_)
   rcases List.mem_or_eq_of_mem_set hp with hp | rfl
   ·exact h2 p hp
   ·have e1:=h1 x List.mem_cons_self
    have e2:=h2 (ps.getD x.1.toNat []) (by simp [List.getD,hk])
    unfold torn
    simp only [List.length_append,List.length_take,List.length_drop]
    omega
  ·rw [List.set_eq_of_length_le (by omega)]
   exact lays_64 zs r (i+1) _ (fun p hp=>h1 p (List.mem_cons_of_mem _ hp)) h2
theorem secs_lays_64 (fs:List Int) (ss:List ByteArray) (ws:List (Int×ByteArray)) (h:diskOk ss ws=true):∀ s∈secs (lays fs 0 (hsOf ws) (ss.map nums)),(s.size:Int)=64:=by
 obtain ⟨_,h4,h5⟩:=diskOk_of h
 intro s hs
 obtain ⟨l,hl,rfl⟩:=List.mem_map.1 hs
 have:=lays_64 fs (hsOf ws) 0 (ss.map nums) (fun p hp=>by
  obtain ⟨x,hx,rfl⟩:=List.mem_map.1 hp
  have:=(wOk_64 (h5 x hx)).2
  simp only [nums_length];omega) (fun p hp=>by
  obtain ⟨x,hx,rfl⟩:=List.mem_map.1 hp
  have:=h4 x hx
  simp only [nums_length];omega) l hl
 rw [strOfNums_size,this]
 rfl
theorem plSS_ok (fs:List Int) (ss:List ByteArray) (ws:List (Int×ByteArray)):diskOk (plSS fs ss ws) []=true\/(plSS fs ss ws=[]/\([]:List (Int×ByteArray))=[]):=by
 unfold plSS
 split
 ·rename_i h
  refine .inl ?_
  obtain ⟨⟨h1,h2,h3⟩,h4,h5⟩:=diskOk_of h
  refine diskOk_yes ⟨by simp [secs,lays_length];omega,by simp [secs,lays_length];omega,by simp⟩ (fun s hs=>?_) (by simp)
  exact secs_lays_64 fs ss ws h s hs
 ·exact .inr ⟨rfl,rfl⟩
theorem Wo.ok.pow {x:Wo} (h:x.ok) (fs:List Int):(x.pow fs).ok:=⟨plSS_ok fs x.ss x.ws,stateOk_nil,h.p,h.t⟩
theorem pfR_ok (ss:List ByteArray) (ws:List (Int×ByteArray)) (ops:List OpT) (z:Int):diskOk (pfR ss ws ops z).1 (pfR ss ws ops z).2=true\/((pfR ss ws ops z).1=[]/\(pfR ss ws ops z).2=[]):=by
 unfold pfR
 split
 ·rename_i h;exact .inl (opsD_ok _ (ss,ws) h)
 ·exact .inr ⟨rfl,rfl⟩
theorem Wo.ok.ran {x:Wo} (h:x.ok) (e:Ev) {d:Dd} (hd:d.ok) (hn:(evTs x e d).length<=2000/\(evP x e d).length<=200):(x.ran e d).ok:=by
 obtain ⟨h1,h2,h3⟩:=hd
 have hts:∀ s∈evTs x e d,s.size<=64:=by
  intro s hs
  rcases List.mem_append.1 hs with hs | hs
  ·exact h.t.2 s hs
  ·obtain ⟨o,ho,he⟩:=List.mem_filterMap.1 hs
   split at he
   ·cases he
   ·injection he with he
    rw [<-he]
    exact h3 o (List.mem_of_mem_take ho)
 have hP:∀ r∈evP x e d,stateOk r=true:=by
  unfold evP
  split
  ·intro r hr
   rcases List.mem_append.1 hr with hr | hr
   ·exact h.p.2 r hr
   ·rw [List.mem_singleton.1 hr];exact h1
  ·exact h.p.2
 exact ⟨pfR_ok _ _ _ _,h.s,⟨hn.2,hP⟩,⟨hn.1,hts⟩⟩
theorem Wo.ok.doE {x:Wo} (h:x.ok) (e:Ev):(x.doE e).ok:=by
 have hd:=h.call e
 unfold Wo.doE
 generalize (x.call e)=c at hd ⊢
 obtain ⟨d,asked⟩:=c
 obtain ⟨h1,h2,h3⟩:=hd
 split
 ·exact h.pow _
 ·split
  ·exact h
  ·split
   ·exact h
   ·rename_i hn
    simp only at hn h1 h2 h3 ⊢
    have hran:=h.ran e (d:=d) ⟨h1,h2,h3⟩ (by omega)
    split
    ·exact hran.pow _
    ·split
     ·exact ⟨hran.d,h1,hran.p,hran.t⟩
     ·exact ⟨hran.d,h1,⟨by simp,fun r hr=>by rw [List.mem_singleton.1 hr];exact h1⟩,hran.t⟩
theorem cutAt_size {s:ByteArray} {l f:Int} {n m N k:Nat} (hn:1<=n/\n<=8) (hm:n+m=56) (h:1<=l/\l<=60000/\1<=f/\f+(N:Int)<=1000000001) (hk:k<N):(cutAt s l f n m N k).size=64:=by
 unfold cutAt formOf
 have hx:(s.extract (k*m) (k*m+m)).size<=m:=by rw [ByteArray.size_extract];omega
 have hok:pageOk (if k+1=N then 2 else 1) l (f+(k:Int)) (s.extract (k*m) (k*m+m)) (n:Int)=true:=by
  unfold pageOk
  refine decide_eq_true ?_
  split<;>omega
 rw [if_pos hok,pageForm_size _ _ _ _ _ (by simp;omega)]
theorem commit_first {W S L T H F R U O:Int} {rs:List Pr} {b:List Ch} (h:(commitD W S L T H F R U O rs b).C=0):∃ at0 d rest,(commitD W S L T H F R U O rs b).ops=(false,at0,d)::rest/\0<=at0/\at0<S/\d.size=64:=by
 unfold commitD at h ⊢
 split at h
 ·rename_i h1
  rw [if_pos h1]
  rw [Bool.and_eq_true] at h1
  obtain ⟨⟨w1,w2⟩,s1,l1,t1,hh1,f1,u1,o1,r1⟩:=storeOk_of h1.1
  split at h
  ·rename_i h2
   rw [if_pos h2]
   split at h
   ·rename_i h3
    rw [if_pos h3]
    split at h
    ·rename_i h4
     rw [if_pos h4]
     have hv3:=hv_yes s1
     have hhv:2*hv S+2<=S:=by unfold hv;rw [if_pos s1];omega
     obtain ⟨N,hN⟩:∃ N,N=nparts (bOut b).size (56-W.toNat):=⟨_,rfl⟩
     have hnp:npages (bOut b).size W=(N:Int):=by
      unfold npages
      rw [if_pos ⟨w1,w2⟩,hN,show (56-W).toNat=56-W.toNat by omega]
     have hN1:1<=N:=by
      rw [hN];unfold nparts;split
      ·exact Nat.le_refl 1
      ·exact Nat.le_add_left 1 _
     rw [hnp] at h4
     have hok:1<=L/\L<=60000/\1<=F+U/\F+U+(N:Int)<=1000000001:=by omega
     show ∃ at0 d rest,putOps (2+H*hv S+U) (cutAll (bOut b) L (F+U) W.toNat (56-W.toNat))=(false,at0,d)::rest/\0<=at0/\at0<S/\d.size=64
     rw [cutAll_yes hN hok]
     obtain ⟨M,rfl⟩:∃ M,N=M+1:=⟨N-1,by omega⟩
     have hH:H=0\/H=1:=by omega
     refine ⟨_,_,_,by unfold putOps cutList;rw [List.range_succ_eq_map,List.map_cons,List.mapIdx_cons],?_,?_,cutAt_size (by omega) (by omega) hok (by omega)⟩
     ·rcases hH with rfl | rfl<;>simp<;>omega
     ·rcases hH with rfl | rfl<;>simp<;>omega
    ·exact absurd h (by simp [noD])
   ·exact absurd h (by simp [noD])
  ·exact absurd h (by simp [noD])
 ·exact absurd h (by simp [noD])
theorem open_S {ss:List ByteArray} {ws:List (Int×ByteArray)} {n:Int} (h:(openD ss ws n).C=0):(openD ss ws n).S=ss.length:=by
 unfold openD at h ⊢
 split at h
 ·rename_i h1
  rw [if_pos h1]
  split at h
  ·exact absurd h (by simp [noD])
  ·rename_i rs hrs
   by_cases k1:60000<(opX ss ws n).2.2+1
   ·rw [if_pos k1] at h;exact absurd h (by simp [noD])
   rw [if_neg k1] at h ⊢
   by_cases k2:hv ss.length-1<roomOf (snapOf rs) n
   ·rw [if_pos k2] at h;exact absurd h (by simp [noD])
   rw [if_neg k2] at h ⊢
   by_cases k3:hv ss.length<=(opX ss ws n).2.1
   ·rw [if_pos k3] at h ⊢
    unfold moveD at h ⊢
    by_cases k4:mvFit (ss.length:Int) (frD ss ws n).1 (frD ss ws n).2.2.1=true
    ·rw [if_pos k4];rfl
    ·rw [if_neg k4] at h;exact absurd h (by simp [noD])
   ·rw [if_neg k3]
 ·exact absurd h (by simp [noD])
theorem pfR_good {ss:List ByteArray} {ws:List (Int×ByteArray)} (h:diskOk ss ws=true) (ops:List OpT) (z:Int):diskOk (pfR ss ws ops z).1 (pfR ss ws ops z).2=true/\(pfR ss ws ops z).1.length=ss.length:=by
 have hl:(pfR ss ws ops z).1.length=ss.length:=by unfold pfR;rw [if_pos h,opsD_len]
 have h8:=(diskOk_of h).1.1
 refine ⟨(pfR_ok ss ws ops z).resolve_right (fun k=>?_),hl⟩
 rw [k.1] at hl
 simp at hl
 omega
theorem call_S {x:Wo} {e:Ev} (h:(x.call e).1.C=0) (ha:(x.call e).2=true) (hu:x.up=true->x.S=x.ss.length):(x.call e).1.S=x.ss.length:=by
 unfold Wo.call at h ha ⊢
 by_cases k1:e.K=1
 ·rw [if_pos k1] at h ⊢;exact open_S h
 rw [if_neg k1] at h ha ⊢
 by_cases k2:e.K=2
 ·rw [if_pos k2] at h ha ⊢
  rw [<-hu ha]
  show (commitD x.W x.S x.L x.T x.H x.F x.R x.U x.O x.rs e.b).S=x.S
  replace h:(commitD x.W x.S x.L x.T x.H x.F x.R x.U x.O x.rs e.b).C=0:=h
  unfold commitD at h ⊢
  split at h
  ·rename_i a1;rw [if_pos a1]
   split at h
   ·rename_i a2;rw [if_pos a2]
    split at h
    ·rename_i a3;rw [if_pos a3]
     split at h
     ·rename_i a4;rw [if_pos a4]
     ·exact absurd h (by simp [noD])
    ·exact absurd h (by simp [noD])
   ·exact absurd h (by simp [noD])
  ·exact absurd h (by simp [noD])
 rw [if_neg k2] at h ha ⊢
 by_cases k3:e.K=3
 ·rw [if_pos k3] at h ha ⊢
  rw [<-hu ha]
  show (flushD x.W x.S x.L x.T x.H x.F x.R x.U x.O x.rs).S=x.S
  replace h:(flushD x.W x.S x.L x.T x.H x.F x.R x.U x.O x.rs).C=0:=h
  unfold flushD at h ⊢
  split at h
  ·rename_i a1;rw [if_pos a1]
  ·exact absurd h (by simp [noD])
 rw [if_neg k3] at h ha ⊢
 by_cases k4:e.K=4
 ·rw [if_pos k4] at h ha ⊢
  rw [<-hu ha]
  show (compactD x.W x.S x.L x.T x.H x.F x.R x.U x.O x.rs).S=x.S
  replace h:(compactD x.W x.S x.L x.T x.H x.F x.R x.U x.O x.rs).C=0:=h
  unfold compactD at h ⊢
  split at h
  ·rename_i a1;rw [if_pos a1]
   unfold moveD at h ⊢
   split at h
   ·rename_i a2;rw [if_pos a2];rfl
   ·exact absurd h (by simp [noD])
  ·exact absurd h (by simp [noD])
 ·rw [if_neg k4] at ha
  exact absurd ha (by simp)
theorem plSS_good {ss:List ByteArray} {ws:List (Int×ByteArray)} (h:diskOk ss ws=true) (fs:List Int):diskOk (plSS fs ss ws) []=true/\(plSS fs ss ws).length=ss.length:=by
 have hl:(plSS fs ss ws).length=ss.length:=by unfold plSS secs;rw [if_pos h];simp [lays_length]
 have h8:=(diskOk_of h).1.1
 refine ⟨(plSS_ok fs ss ws).resolve_right (fun k=>?_),hl⟩
 rw [k.1] at hl
 simp at hl
 omega
structure Wo.good (x:Wo) (N:Nat):Prop where
 ok:x.ok
 d:diskOk x.ss x.ws=true
 n:x.ss.length=N
 u:x.up=true->x.S=x.ss.length
theorem Wo.good.pow {x:Wo} {N:Nat} (h:x.good N) (fs:List Int):(x.pow fs).good N :=
 ⟨h.ok.pow fs,(plSS_good h.d fs).1,(plSS_good h.d fs).2.trans h.n,fun k=>by cases k⟩
theorem Wo.good.doE {x:Wo} {N:Nat} (h:x.good N) (e:Ev):(x.doE e).good N:=by
 refine ⟨h.ok.doE e,?_,?_,?_⟩
 all_goals
  obtain ⟨D,hD⟩:∃ D,D=x.call e:=⟨_,rfl⟩
  have hc:=call_S (x:=x) (e:=e)
  unfold Wo.doE
  rw [<-hD] at hc ⊢
  have hp:=pfR_good h.d D.1.ops (evN e D.1)
  by_cases k5:e.K=5
  ·rw [if_pos k5]
   first | exact (h.pow e.fs).d | exact (h.pow e.fs).n | exact (h.pow e.fs).u
  rw [if_neg k5]
  by_cases k1:D.2=false\/D.1.C≠0
  ·rw [if_pos k1]
   first | exact h.d | exact h.n | exact h.u
  rw [if_neg k1]
  have ha:D.2=true:=by
   cases hd2:D.2 with
   | true=>rfl
   | false=>exact absurd (.inl hd2) k1
  have h0:D.1.C=0:=Decidable.not_not.1 (fun k=>k1 (.inr k))
  have hS:=hc h0 ha h.u
  by_cases k2:2000<(evTs x e D.1).length\/200<(evP x e D.1).length
  ·rw [if_pos k2]
   first | exact h.d | exact h.n | exact h.u
  rw [if_neg k2]
  by_cases k3:evCut e D.1=true
  ·rw [if_pos k3]
   first | exact (plSS_good hp.1 e.fs).1 | exact ((plSS_good hp.1 e.fs).2.trans hp.2).trans h.n | (intro k;cases k)
  rw [if_neg k3]
  by_cases k4:e.K=2
  ·rw [if_pos k4]
   first | exact hp.1 | exact hp.2.trans h.n | (intro _;exact hS.trans (by rw [show ((x.ran e D.1).upS D.1).ss.length=x.ss.length from hp.2]))
  ·rw [if_neg k4]
   first | exact hp.1 | exact hp.2.trans h.n | (intro _;exact hS.trans (congrArg Nat.cast (show x.ss.length=((x.ran e D.1).upS D.1).ss.length from hp.2.symm)))
theorem opsD_app:∀ (a b:List OpT) (d:List ByteArray×List (Int×ByteArray)),opsD (a++b) d=opsD b (opsD a d)
 | [],_,_=>rfl
 | o::r,b,d=>by rw [List.cons_append,opsD,opsD,opsD_app r b]
theorem pfR_all {ss:List ByteArray} {ws:List (Int×ByteArray)} (h:diskOk ss ws=true) (ops:List OpT) (z:Int) (hz:(ops.length:Int)<=z):pfR ss ws ops z=opsD ops (ss,ws):=by
 unfold pfR
 rw [if_pos h,show pfN z ops.length=ops.length by unfold pfN;omega,List.take_length]
theorem fd_parts {ss:List ByteArray} {ws:List (Int×ByteArray)} (h:diskOk ss ws=true) (ops:List OpT) (k:Nat) (hk:k<=ops.length) :
  pfR (pfR ss ws (ops.take k) k).1 (pfR ss ws (ops.take k) k).2 (ops.drop k) ops.length=pfR ss ws ops ops.length:=by
 have e1:pfR ss ws (ops.take k) k=opsD (ops.take k) (ss,ws):=pfR_all h _ _ (by rw [List.length_take];omega)
 have h2:=opsD_ok (ops.take k) (ss,ws) h
 rw [e1,pfR_all h2 _ _ (by rw [List.length_drop];omega),pfR_all h _ _ (Int.le_refl _),<-opsD_app,List.take_append_drop]
theorem fd_good {ss:List ByteArray} {ws:List (Int×ByteArray)} (h:diskOk ss ws=true) (ops:List OpT):diskOk (pfR ss ws ops ops.length).1 (pfR ss ws ops ops.length).2=true:=by
 rw [pfR_all h _ _ (Int.le_refl _)]
 exact opsD_ok ops (ss,ws) h
theorem fd_sync {ss:List ByteArray} {ws:List (Int×ByteArray)} (h:diskOk ss ws=true):pfR ss ws [(true,0,ByteArray.empty)] 1=(syncs ws ss,[]):=by
 rw [pfR_all h _ _ (by simp)]
 rfl
theorem fd_syncOk {ss:List ByteArray} {ws:List (Int×ByteArray)} (h:diskOk ss ws=true):diskOk (syncs ws ss) []=true:=by
 have:=opsD_ok [(true,0,ByteArray.empty)] (ss,ws) h
 exact this
theorem map_nums (ss:List ByteArray):(ss.map nums).map strOfNums=ss:=by
 rw [List.map_map]
 exact List.map_id'' (fun s=>strOfNums_nums s) ss
theorem fd_none {ss:List ByteArray} (h:diskOk ss []=true) (zs:List Int):plSS zs ss []=ss:=by
 unfold plSS
 rw [if_pos h]
 show secs (ss.map nums)=ss
 exact map_nums ss
theorem fd_lays (zs:List Int):∀ (ws:List (Int×ByteArray)) (i:Nat) (ss:List ByteArray),(∀ s∈ss,s.size=64)->(∀ x∈ws,x.2.size=64/\x.1.toNat<ss.length)->(∀ j,j<ws.length->fate zs (i+j)=64)->lays zs i (hsOf ws) (ss.map nums)=(syncs ws ss).map nums
 | [],_,_,_,_,_=>rfl
 | x::r,i,ss,h1,h2,h3=>by
  have hx:=h2 x List.mem_cons_self
  show lays zs (i+1) (hsOf r) ((ss.map nums).set x.1.toNat (torn (fate zs i) (nums x.2) ((ss.map nums).getD x.1.toNat [])))=(syncs r (ss.set x.1.toNat x.2)).map nums
  have hf:fate zs i=64:=h3 0 (by simp)
  have hg:((ss.map nums).getD x.1.toNat []).length=64:=by
   rw [List.getD_eq_getElem?_getD,List.getElem?_map,List.getElem?_eq_getElem hx.2]
   simp only [Option.map_some,Option.getD_some,nums_length]
   exact h1 _ (List.getElem_mem hx.2)
  rw [hf,torn_all _ _ (by rw [nums_length];exact hx.1) hg,<-List.map_set]
  refine fd_lays zs r (i+1) _ (fun s hs=>?_) (fun y hy=>?_) (fun j hj=>?_)
  ·rcases List.mem_or_eq_of_mem_set hs with k | k
   ·exact h1 s k
   ·rw [k];exact hx.1
  ·rw [List.length_set];exact h2 y (List.mem_cons_of_mem _ hy)
  ·have:=h3 (j+1) (by simp;omega)
   rwa [show i+(j+1)=i+1+j by omega] at this
def whole (n:Nat):List Int:=(List.range n).map fun i=>64+((i % 2:Nat):Int)
theorem whole_length (n:Nat):(whole n).length=n:=by simp [whole]
theorem whole_succ (n:Nat):whole (n+1)=whole n++[64+((n % 2:Nat):Int)]:=by simp [whole,List.range_succ]
theorem fate_whole {n i:Nat} (h:i<n):fate (whole n) i=64:=by
 unfold fate
 have e:(whole n).getD i 0=64+((i % 2:Nat):Int):=by
  unfold whole
  rw [List.getD_eq_getElem?_getD,List.getElem?_map,List.getElem?_range h]
  rfl
 rw [whole_length,if_pos h,e,if_neg (by omega)]
 split<;>omega
theorem fd_whole {ss:List ByteArray} {ws:List (Int×ByteArray)} (h:diskOk ss ws=true):plSS (whole ws.length) ss ws=syncs ws ss:=by
 obtain ⟨h1,h2,h3⟩:=diskOk_of h
 unfold plSS
 rw [if_pos h,fd_lays _ ws 0 ss (fun s hs=>by have:=h2 s hs;omega) (fun x hx=>by have:=wOk_64 (h3 x hx);omega) (fun j hj=>by rw [Nat.zero_add];exact fate_whole hj)]
 exact map_nums _
theorem fd_sct {ss:List ByteArray} {ws:List (Int×ByteArray)} (h:diskOk ss ws=true) {i:Nat} (hi:i<ss.length):sctOf ss ws (i:Int)=(syncs ws ss).getD i ByteArray.empty:=by
 unfold sctOf
 rw [if_pos ⟨h,by omega,by omega⟩,Int.toNat_natCast]
theorem fd_sctN {ss:List ByteArray} {ws:List (Int×ByteArray)} {n:Int} (h:n<0\/(ss.length:Int)<=n):sctOf ss ws n=ByteArray.empty:=by
 unfold sctOf
 rw [if_neg]
 rintro ⟨_,h1,h2⟩
 omega
section
structure DepF (w:World) (F:Nat->Prop) (P:World->Prop):Prop where
 now:P w
 keep:∀ w',Below 0 w w'->(∀ b,F b->b<w.heap.size->w'.heap[b]?=w.heap[b]?)->P w'
section
variable {w w':World} {F G:Nat->Prop} {P Q:World->Prop}
theorem DepF.step (h:DepF w F P) (h0:Below 0 w w') (hk:∀ b,F b->b<w.heap.size->w'.heap[b]?=w.heap[b]?):DepF w' F P :=
 ⟨h.keep w' h0 hk,fun w2 h1 h2=>h.keep w2 (h0.trans (h1.mono (Nat.zero_le _))) (fun b hb hl=>(h2 b hb (Nat.lt_of_lt_of_le hl h0.size)).trans (hk b hb hl))⟩
theorem DepF.below (h:DepF w F P) (hb:Below w.heap.size w w'):DepF w' F P:=h.step (hb.mono (Nat.zero_le _)) (fun b _ hl=>hb.block b hl)
theorem DepF.grown {r:Option Nat} (h:DepF w F P) (hg:w.grownBy w' r) (hr:∀ g,r=some g->¬ F g):DepF w' F P :=
 h.step (grown_below hg (Nat.zero_le _) (fun _ _=>Nat.zero_le _)) (fun b hb hl=>hg.block b hl (fun e=>hr b e.symm hb))
theorem DepF.mono (h:DepF w F P) (hF:∀ b,b<w.heap.size->F b->G b):DepF w G P:=⟨h.now,fun w' h1 h2=>h.keep w' h1 (fun b hb hl=>h2 b (hF b hl hb) hl)⟩
theorem DepF.map (h:DepF w F P) (f:∀ W,P W->Q W):DepF w F Q:=⟨f _ h.now,fun w' h1 h2=>f _ (h.keep w' h1 h2)⟩
theorem DepF.and (h:DepF w F P) (k:DepF w F Q):DepF w F (fun W=>P W/\Q W):=⟨⟨h.now,k.now⟩,fun w' h1 h2=>⟨h.keep w' h1 h2,k.keep w' h1 h2⟩⟩
theorem depF_of {lo hi:Nat} (h:Dep w lo hi P) (hF:∀ b,lo<=b->b<hi->F b):DepF w F P :=
 ⟨h.now,fun w' h1 h2=>h.keep w' (fun b h3 h4=>h2 b (hF b h3 h4) (Nat.lt_of_lt_of_le h4 h.top)) (Nat.le_trans h.top h1.size)⟩
theorem depF_true (h:∀ W,P W):DepF w F P:=⟨h _,fun w' _ _=>h _⟩
end
def PstF (w:World) (F:Nat->Prop) (p:Option Addr) (P:List (List Pr)):Prop :=
 P=[]\/∃ b o,p=some ⟨b,o,none⟩/\b<w.heap.size/\F b/\∀ i,i<P.length->∃ p' c',w.cell? ⟨b,o+i,none⟩=some (.slice p' (P.getD i []).length c')/\DepF w F (fun W=>Prs W p' (P.getD i []))
section
variable {w w':World} {F G:Nat->Prop} {p:Option Addr} {P:List (List Pr)}
theorem PstF.step (h:PstF w F p P) (h0:Below 0 w w') (hk:∀ b,F b->b<w.heap.size->w'.heap[b]?=w.heap[b]?):PstF w' F p P:=by
 rcases h with h | ⟨b,o,h1,h2,h3,h4⟩
 ·exact .inl h
 ·refine .inr ⟨b,o,h1,Nat.lt_of_lt_of_le h2 h0.size,h3,fun i hi=>?_⟩
  obtain ⟨p',c',h5,h6⟩:=h4 i hi
  exact ⟨p',c',(World.cell?_of_block (a:=⟨b,o+i,none⟩) (hk b h3 h2)).trans h5,h6.step h0 hk⟩
theorem PstF.mono (h:PstF w F p P) (hF:∀ b,b<w.heap.size->F b->G b):PstF w G p P:=by
 rcases h with h | ⟨b,o,h1,h2,h3,h4⟩
 ·exact .inl h
 ·refine .inr ⟨b,o,h1,h2,hF b h2 h3,fun i hi=>?_⟩
  obtain ⟨p',c',h5,h6⟩:=h4 i hi
  exact ⟨p',c',h5,h6.mono hF⟩
theorem PstF.pst (h:PstF w F p P):Pst w p P:=by
 rcases h with h | ⟨b,o,h1,h2,h3,h4⟩
 ·exact .inl h
 ·refine .inr ⟨b,o,h1,h2,fun i hi=>?_⟩
  obtain ⟨p',c',h5,h6⟩:=h4 i hi
  exact ⟨p',c',h5,h6.now⟩
theorem PstF.below (h:PstF w F p P) (hb:Below w.heap.size w w'):PstF w' F p P:=h.step (hb.mono (Nat.zero_le _)) (fun b _ hl=>hb.block b hl)
end
structure WoF (x:Wo) (w:World) (F:Nat->Prop) (q:Wp):Prop where
 h1:DepF w F (fun W=>Strs W q.a x.ss)
 h2:DepF w F (fun W=>Wrs W q.a' x.ws)
 h3:DepF w F (fun W=>Prs W q.s x.rs)
 h4:PstF w F q.p x.P
 h5:DepF w F (fun W=>Strs W q.t x.ts)
section
variable {x:Wo} {w w':World} {F G:Nat->Prop} {q:Wp}
theorem WoF.step (h:WoF x w F q) (h0:Below 0 w w') (hk:∀ b,F b->b<w.heap.size->w'.heap[b]?=w.heap[b]?):WoF x w' F q:=⟨h.h1.step h0 hk,h.h2.step h0 hk,h.h3.step h0 hk,h.h4.step h0 hk,h.h5.step h0 hk⟩
theorem WoF.below (h:WoF x w F q) (hb:Below w.heap.size w w'):WoF x w' F q:=h.step (hb.mono (Nat.zero_le _)) (fun b _ hl=>hb.block b hl)
theorem WoF.grown {r:Option Nat} (h:WoF x w F q) (hg:w.grownBy w' r) (hr:∀ g,r=some g->¬ F g):WoF x w' F q :=
 h.step (grown_below hg (Nat.zero_le _) (fun _ _=>Nat.zero_le _)) (fun b hb hl=>hg.block b hl (fun e=>hr b e.symm hb))
theorem WoF.mono (h:WoF x w F q) (hF:∀ b,b<w.heap.size->F b->G b):WoF x w G q:=⟨h.h1.mono hF,h.h2.mono hF,h.h3.mono hF,h.h4.mono hF,h.h5.mono hF⟩
theorem WoF.at (h:WoF x w F q):x.at w q:=⟨h.h1.now,h.h2.now,h.h3.now,h.h4.pst,h.h5.now⟩
end
def WPost (w w':World) (F:Nat->Prop) (e:Ending) (x:Wo):Prop:=∃ q,e=.returned (worldW x q)/\WoF x w' (fun b=>F b\/w.heap.size<=b) q/\Below w.heap.size w w'
theorem pst_cells {w:World} {F:Nat->Prop} {p:Option Addr} {P:List (List Pr)} (h:PstF w F p P):∃ news:List Value,news.length=P.length/\(∀ u∈news,u.oneCell'=true)/\(∀ i,i<P.length->∃ p' c',news[i]?=some (.slice p' (P.getD i []).length c')/\DepF w F (fun W=>Prs W p' (P.getD i [])))/\(P=[]\/∃ b o,p=some ⟨b,o,none⟩/\b<w.heap.size/\∀ i u,news[i]?=some u->w.cell? ⟨b,o+i,none⟩=some u):=by
 rcases h with h | ⟨b,o,h1,h2,h3,h4⟩
 ·exact ⟨[],by simp [h],by simp,by simp [h],.inl h⟩
 ·have hc:∀ i,i<P.length->∃ u,w.cell? ⟨b,o+i,none⟩=some u:=fun i hi=>by obtain ⟨p',c',h5,_⟩:=h4 i hi;exact ⟨_,h5⟩
  refine ⟨(List.range P.length).map fun i=>(w.cell? ⟨b,o+i,none⟩).getD undef,by simp,fun u hu=>?_,fun i hi=>?_,.inr ⟨b,o,h1,h2,fun i u hu=>?_⟩⟩
  ·obtain ⟨i,hi,rfl⟩:=List.mem_map.1 hu
   obtain ⟨p',c',h5,_⟩:=h4 i (List.mem_range.1 hi)
   rw [h5];rfl
  ·obtain ⟨p',c',h5,h6⟩:=h4 i hi
   exact ⟨p',c',by simp [hi,h5],h6⟩
  ·obtain ⟨hi,e⟩:=List.getElem?_eq_some_iff.1 hu
   simp only [List.length_map,List.length_range] at hi
   obtain ⟨p',c',h5,_⟩:=h4 i hi
   rw [<-e];simp [h5]
theorem below_nwD (w:World) (o:Obj):Below w.heap.size w (w.alloc o):=(Below.refl _ _).alloc (Nat.le_refl _) _
theorem addzD (b j:Nat):(⟨b,0,none⟩:Addr).add j=⟨b,j,none⟩:=by unfold Addr.add;split<;>simp_all
theorem wrap_idD (x:Int) (h0:-9223372036854775808<=x) (h1:x<=9223372036854775807):IntKind.i64.wrap x=x:=by
 simp [IntKind.wrap,IntKind.bits,IntKind.signed]
 omega
theorem lt_cellD {w:World} {g i:Nat} {v:Value} (h:w.cell? ⟨g,i,none⟩=some v):g<w.heap.size:=by
 by_cases hg:g<w.heap.size
 ·exact hg
 ·simp [World.cell?,Array.getElem?_eq_none (by omega:w.heap.size<=g)] at h
theorem owns_baseD {w:World} {base:Nat} {e:TypeId} {size:Nat} {g n cap:Nat} {xs:List Value} (h:w.ownsRow base e size (.slice (some ⟨g,0,none⟩) n cap) n xs):base<=g:=by
 rcases h.2 with h | ⟨g',cap',cur,h1,h2,_⟩
 ·cases h.1
 ·injection h1 with h1
  injection h1 with h1
  injection h1 with h1
  omega
theorem src_pst {P:Program} {w:World} {F:Nat->Prop} {p:Option Addr} {Q:List (List Pr)} (h:PstF w F p Q) (t e:TypeId) (ht:P.underlying t=some (.slice e)) (c:Nat):∃ news,(∀ w',Below w.heap.size w w'->Src P 1 t (.slice p Q.length c) Q.length news w')/\news.length=Q.length/\(∀ i,i<Q.length->∃ p' c',news[i]?=some (.slice p' (Q.getD i []).length c')/\DepF w F (fun W=>Prs W p' (Q.getD i []))):=by
 obtain ⟨news,h1,h2,h3,h4⟩:=pst_cells h
 refine ⟨news,fun w' hb=>?_,h1,h3⟩
 rcases h4 with h4 | ⟨b,o,rfl,hl,h5⟩
 ·subst h4
  have:news=[]:=List.eq_nil_of_length_eq_zero h1
  subst this
  cases p with
  | none=>exact Src.ofNil w' ht c
  | some x=>exact Src.ofSlice w' ht x 0 c [] (by simp) (by simp) (by simp)
 ·refine Src.ofSlice w' ht ⟨b,o,none⟩ Q.length c news (by omega) (fun j u hu=>?_) h2
  have ha:(⟨b,o,none⟩:Addr).add j=⟨b,o+j,none⟩:=by unfold Addr.add;split<;>simp_all
  rw [ha];exact (hb.cell (p:=⟨b,o+j,none⟩) hl).trans (h5 j u hu)
theorem pst_snoc {w:World} {F G:Nat->Prop} {g:Nat} {P:List (List Pr)} {rs:List Pr} {news:List Value} {oa:Option Addr} {oc:Nat} (hl:news.length=P.length) (h:∀ i,i<P.length->∃ p' c',news[i]?=some (.slice p' (P.getD i []).length c')/\DepF w F (fun W=>Prs W p' (P.getD i []))) (hr:Row w g (news++[.slice oa rs.length oc])) (hg:F g) (hd:DepF w F (fun W=>Prs W oa rs)):PstF w F (some ⟨g,0,none⟩) (P++[rs]):=by
 refine .inr ⟨g,0,rfl,hr.lt,hg,fun i hi=>?_⟩
 rw [List.length_append,List.length_singleton] at hi
 by_cases h2:i<P.length
 ·obtain ⟨p',c',h3,h4⟩:=h i h2
  have e:(P++[rs]).getD i []=P.getD i []:=by simp [List.getD,List.getElem?_append_left h2]
  rw [e,Nat.zero_add]
  exact ⟨p',c',hr.cell i _ (by rw [List.getElem?_append_left (by omega)];exact h3),h4⟩
 ·obtain rfl:i=P.length:=by omega
  have e:(P++[rs]).getD P.length []=rs:=by simp [List.getD]
  rw [e,Nat.zero_add]
  exact ⟨oa,oc,hr.cell _ _ (by rw [<-hl];simp),hd⟩
theorem pst_one {w:World} {F:Nat->Prop} {g:Nat} {rs:List Pr} {oa:Option Addr} {oc:Nat} (hr:Row w g [.slice oa rs.length oc]) (hg:F g) (hd:DepF w F (fun W=>Prs W oa rs)):PstF w F (some ⟨g,0,none⟩) [rs] :=
 pst_snoc (G:=F) (P:=[]) (news:=[]) rfl (fun i hi=>absurd hi (by simp)) hr hg hd
theorem copy_run2 {P:Program} {w:World} (t ty e:TypeId) (i:TypeInfo) (z:Value) (size bytes:Nat) (ht:P.underlying t=some (.slice e)) (hi:P.info? e=some i) (hz:i.zero=some z) (hsize:i.size=size) (hby:i.bytes=bytes) (hzs:z.cells.size=size)
  (b B:Nat) (h0:w.ownsRow B e size (.slice (some ⟨b,0,none⟩) 0 0) 0 []) (v:Value) (n:Nat) (news:List Value) (hsrc:Src P size t v n news w) (hn:n<=1048576) (hbn:n*bytes<=281474976710656) (hB:B<=w.heap.size) :
  ∃ g cap wx,(Builtin.append_ #[t,t] ty #[.slice (some ⟨b,0,none⟩) 0 0,v]).run P w=.ok (.slice (some ⟨g,0,none⟩) n cap) wx/\wx.ownsRow B e size (.slice (some ⟨g,0,none⟩) n cap) n news/\(g=b\/g=w.heap.size)/\Below w.heap.size w wx:=by
 subst hsize hby
 by_cases hn0:n=0
 ·subst hn0
  have hnil:news=[]:=List.eq_nil_of_length_eq_zero (by have:=hsrc.newsLen;omega)
  subst hnil
  have hrun:=run_append_room_src (P:=P) w t t ty e i ht hi b 0 0 0 v 0 [] hsrc (by omega) (by simp) (by simp)
  exact ⟨_,_,_,hrun,h0,.inl rfl,Below.refl _ _⟩
 ·have hold:(Builtin.firstCells i.size 0 (.slice (some ⟨b,0,none⟩) 0 0)).run P w.drew=.ok ([]:List Value).toArray w.drew:=run_firstCells_some w.drew i.size 0 _ 0 0 [] (by simp) (by simp)
  have hrun:=run_append_grow_src (P:=P) w t t ty e i z ht hi hz (some ⟨b,0,none⟩) 0 0 [] hold v n news hsrc (by omega) (by omega) (by rw [Nat.zero_add,nscP n (by omega)];exact hbn)
  refine ⟨_,_,_,by rw [hrun,Nat.zero_add],?_,.inr rfl,(Below.refl _ _).drew.alloc (Nat.le_refl _) _⟩
  have hge:=grownCap_ge w (0+n) 0 e
  have hle:=grownCap_le_maxLen w (0+n) 0 e (by unfold maxLen;omega)
  rw [Nat.zero_add] at hge hle
  refine ⟨hsrc.newsLen,.inr ⟨w.heap.size,_,_,rfl,hB,heap_alloc_new w.drew _,hge,hle,?_,?_⟩⟩
  ·simp [size_zeroCells,hsrc.newsLen,hzs]
   rw [<-Nat.add_mul]
   congr 1
   omega
  ·simp [hsrc.newsLen]
theorem wpList_append_copy2 {P:Program} {w:World} {ops:Array Oper} {rest:List Oper} {o:Oper} {a:Act} {Q:Exit->Act->World->Prop} (hgd:o.guard=none) (s x:Operand) (t:TypeId)
  (ho:o.op=.call { callee:=.builtin .append,args:=#[s,x],argTypes:=#[t,t] }) (e:TypeId) (i:TypeInfo) (z:Value) (size bytes:Nat) (ht:P.underlying t=some (.slice e)) (hi:P.info? e=some i) (hz:i.zero=some z) (hsize:i.size=size) (hby:i.bytes=bytes) (hzs:z.cells.size=size)
  (b B:Nat) (hs:a.eval s=.slice (some ⟨b,0,none⟩) 0 0) (h0:w.ownsRow B e size (.slice (some ⟨b,0,none⟩) 0 0) 0 []) (v:Value) (hx:a.eval x=v) (n:Nat) (news:List Value) (hsrc:Src P size t v n news w) (hn:n<=1048576) (hbn:n*bytes<=281474976710656) (hB:B<=w.heap.size)
  (h:∀ g cap wx,wx.ownsRow B e size (.slice (some ⟨g,0,none⟩) n cap) n news->(g=b\/g=w.heap.size)->Below w.heap.size w wx->wpList P ops Q rest (a.put o.dst (.slice (some ⟨g,0,none⟩) n cap)) wx):wpList P ops Q (o::rest) a w:=by
 refine wpList_plain hgd fun K hK=>?_
 obtain ⟨g,cap,wx,hrun,h1,h2,h3⟩:=copy_run2 (P:=P) (w:=w) t o.type e i z size bytes ht hi hz hsize hby hzs b B h0 v n news hsrc hn hbn hB
 unfold Oper.wp
 simp [execOp,ho,resolve,invoke,builtin,hs,hx,hrun,Result.andThen]
 exact hK _ _ (h g cap wx h1 h2 h3)
theorem step_append_copy3 {P:Program} {w:World} {ops:Array Oper} {o:Oper} {a:Act} {K:Act->World->Prop} {Q:Exit->Act->World->Prop} {E:Prop} (hgd:o.guard=none) (s x:Operand) (t:TypeId)
  (ho:o.op=.call { callee:=.builtin .append,args:=#[s,x],argTypes:=#[t,t] }) (e:TypeId) (i:TypeInfo) (z:Value) (size bytes:Nat) (ht:P.underlying t=some (.slice e)) (hi:P.info? e=some i) (hz:i.zero=some z) (hsize:i.size=size) (hby:i.bytes=bytes) (hzs:z.cells.size=size)
  (b B:Nat) (hs:a.eval s=.slice (some ⟨b,0,none⟩) 0 0) (h0:w.ownsRow B e size (.slice (some ⟨b,0,none⟩) 0 0) 0 []) (v:Value) (hx:a.eval x=v) (n:Nat) (news:List Value) (hsrc:Src P size t v n news w) (hn:n<=1048576) (hbn:n*bytes<=281474976710656) (hB:B<=w.heap.size)
  (h:∀ g cap wx,wx.ownsRow B e size (.slice (some ⟨g,0,none⟩) n cap) n news->(g=b\/g=w.heap.size)->Below w.heap.size w wx->K (a.put o.dst (.slice (some ⟨g,0,none⟩) n cap)) wx) :
  if Region.wanted o (yielded ops a.tmps)=true then Oper.wp P o a w K Q else E:=by
 have hw:Region.wanted o (yielded ops a.tmps)=true:=by simp [Region.wanted,hgd]
 rw [if_pos hw]
 obtain ⟨g,cap,wx,hrun,h1,h2,h3⟩:=copy_run2 (P:=P) (w:=w) t o.type e i z size bytes ht hi hz hsize hby hzs b B h0 v n news hsrc hn hbn hB
 unfold Oper.wp
 simp [execOp,ho,resolve,invoke,builtin,hs,hx,hrun,Result.andThen]
 exact h g cap wx h1 h2 h3
end
section
theorem grown_setC (w:World) (X i:Nat) (v:Value):w.grownBy (w.setCell ⟨X,i,none⟩ v) (some X) :=
 ⟨rfl,rfl,rfl,by rw [World.size_setCell];exact Nat.le_refl _,fun j hj hr=>Below.heap_setCell _ _ _ _ (fun e=>hr (congrArg some e))⟩
theorem Dep.setc {w:World} {lo hi:Nat} {F:World->Prop} (h:Dep w lo hi F) (X i:Nat) (v:Value) (hX:X<lo\/hi<=X):Dep (w.setCell ⟨X,i,none⟩ v) lo hi F :=
 h.grown (grown_setC w X i v) (fun g e=>by cases e;exact hX)
theorem dep_ownsRow {w:World} {B:Nat} {e:TypeId} {k:Nat} {a:Option Addr} {m c:Nat} {cs:List Value} (h:w.ownsRow B e k (.slice a m c) m cs):Dep w B w.heap.size (fun W=>W.ownsRow B e k (.slice a m c) m cs):=by
 refine ⟨h,Nat.le_refl _,fun w' h1 h2=>?_⟩
 rcases h.2 with h3 | ⟨g,cap,cur,k1,k2,k3,k4⟩
 ·exact ⟨h.1,.inl h3⟩
 ·have hg:g<w.heap.size:=by
   rcases Nat.lt_or_ge g w.heap.size with hl | hl
   ·exact hl
   ·rw [Array.getElem?_eq_none hl] at k3;cases k3
  exact ⟨h.1,.inr ⟨g,cap,cur,k1,k2,(h1 g k2 hg).trans k3,k4⟩⟩
theorem dep_map {w:World} {lo hi:Nat} {F G:World->Prop} (h:Dep w lo hi F) (f:∀ W,F W->G W):Dep w lo hi G:=⟨f _ h.now,h.top,fun w' h1 h2=>f _ (h.keep w' h1 h2)⟩
theorem chs_ownE {w:World} {B:Nat} {e:TypeId} {a:Option Addr} {m c:Nat} {o:List Ch} (h:w.ownsRow B e 3 (.slice a m c) o.length (chcells o)):Chs w a o:=by
 rcases owns_forms h with ⟨h1,h2⟩ | ⟨g,cap,h1,h2⟩
 ·exact .inl (List.eq_nil_of_length_eq_zero h2)
 ·cases h1
  exact (owns_row h).chs
theorem ints_ownE {w:World} {B:Nat} {e:TypeId} {a:Option Addr} {m c:Nat} {zs:List Int} (h:w.ownsRow B e 1 (.slice a m c) zs.length (zs.map (Value.int .i64))):Ints w a zs:=by
 rcases owns_forms h with ⟨h1,h2⟩ | ⟨g,cap,h1,h2⟩
 ·exact .inl (List.eq_nil_of_length_eq_zero h2)
 ·cases h1
  have hr:=owns_row h
  exact .inr ⟨g,0,rfl,hr.lt,fun i hi=>by rw [Nat.zero_add];exact hr.cell i _ (by simp [List.getD,hi])⟩
structure EvD (w0 w:World) (R:Nat) (a:Option Addr) (n c:Nat) (q:Int) (K:Int) (ba:Option Addr) (bc:Nat) (b:List Ch) (cut:Int) (hi:Nat) (y:Value) (fs:List Int):Prop where
 x:BdX w0 w 3 1 R a n c q y fs.length (fs.map (Value.int .i64)) (w0.heap.size+1) [.int .i64 K,.slice ba b.length bc,.int .i64 cut,y]
 bt:Dep w (w0.heap.size+2) hi (fun W=>Chs W ba b)
 rb:Row w w0.heap.size [.int .i64 0,.slice none 0 0,.int .i64 0,.slice none 0 0]
 yo:∀ g,y.ownBlock=some g->hi<=g
 eh:w0.heap.size+2<=hi
section
variable {w0 w w':World} {R:Nat} {a:Option Addr} {n c:Nat} {q q':Int} {K K':Int} {ba:Option Addr} {bc:Nat} {b:List Ch} {cut:Int} {hi:Nat} {y:Value} {fs:List Int}
theorem EvD.rd (h:EvD w0 w R a n c q K ba bc b cut hi y fs):Rdr w R a n c q:=h.x.s.rd
theorem EvD.pick (h:EvD w0 w R a n c q K ba bc b cut hi y fs) (hr:Rdr w' R a n c q') (hg:w.grownBy w' (some R)):EvD w0 w' R a n c q' K ba bc b cut hi y fs :=
 ⟨h.x.pick hr hg,h.bt.grown hg (fun g e=>by cases e;have:=h.x.s.lR;omega),h.rb.grown hg (fun e=>by have:=h.x.s.lR;injection e with e;omega),h.yo,h.eh⟩
theorem EvD.below (h:EvD w0 w R a n c q K ba bc b cut hi y fs) (hb:Below w.heap.size w w'):EvD w0 w' R a n c q K ba bc b cut hi y fs :=
 ⟨h.x.below hb,h.bt.below hb,h.rb.below hb,h.yo,h.eh⟩
theorem EvD.drew (h:EvD w0 w R a n c q K ba bc b cut hi y fs):EvD w0 w.drew R a n c q K ba bc b cut hi y fs:=h.below (Below.refl _ _).drew
theorem EvD.lt (h:EvD w0 w R a n c q K ba bc b cut hi y fs):w0.heap.size+2<=w.heap.size:=by have:=h.x.row.lt;omega
theorem EvD.kind (h:EvD w0 w R a n c q K ba bc b cut hi y fs) (k:Int):EvD w0 (w.setCell ⟨w0.heap.size+1,0,none⟩ (.int .i64 k)) R a n c q k ba bc b cut hi y fs :=
 ⟨h.x.set 0 (by simp) _,h.bt.setc _ _ _ (.inl (by omega)),h.rb.grown (grown_setC _ _ _ _) (fun e=>by injection e with e;omega),h.yo,h.eh⟩
theorem EvD.cutTo (h:EvD w0 w R a n c q K ba bc b cut hi y fs) (k:Int):EvD w0 (w.setCell ⟨w0.heap.size+1,2,none⟩ (.int .i64 k)) R a n c q K ba bc b k hi y fs :=
 ⟨h.x.set 2 (by simp) _,h.bt.setc _ _ _ (.inl (by omega)),h.rb.grown (grown_setC _ _ _ _) (fun e=>by injection e with e;omega),h.yo,h.eh⟩
theorem EvD.batch {bs:List Ch} {va:Option Addr} {vc:Nat} (h:EvD w0 w R a n c q K none 0 [] cut hi (.slice none 0 0) []) (hr:Rdr w' R a n c q') (hg:w.grownBy w' (some R)) (ho:w'.ownsRow w.heap.size 101 3 (.slice va bs.length vc) bs.length (chcells bs)) :
  EvD w0 (w'.setCell ⟨w0.heap.size+1,1,none⟩ (.slice va bs.length vc)) R a n c q' K va vc bs cut w'.heap.size (.slice none 0 0) []:=by
 have h1:=h.pick hr hg
 have hl:=h.lt
 have hs:=hg.size
 refine ⟨h1.x.set 1 (by simp) _,?_,h1.rb.grown (grown_setC _ _ _ _) (fun e=>by injection e with e;omega),fun g e=>(by cases e),by omega⟩
 exact ((dep_map (dep_ownsRow ho) fun W k=>chs_ownE k).wide (by omega) (Nat.le_refl _) (Nat.le_refl _)).setc _ _ _ (.inl (by omega))
theorem EvD.fate {z:Int} {g cap H:Nat} (h:EvD w0 w R a n c q K ba bc b cut hi y fs) (hown:w'.ownsRow w0.heap.size 3 1 (.slice (some ⟨g,0,none⟩) (fs.length+1) cap) (fs.length+1) (fs.map (Value.int .i64)++[.int .i64 z])) (hg:w.grownBy w' y.ownBlock) (hat:y.ownBlock=some g\/g=H) (hH:w.heap.size<=H) :
  EvD w0 (w'.setCell ⟨w0.heap.size+1,3,none⟩ (.slice (some ⟨g,0,none⟩) (fs.length+1) cap)) R a n c q K ba bc b cut hi (.slice (some ⟨g,0,none⟩) (fs.length+1) cap) (fs++[z]):=by
 have hl:=h.lt
 have ht:=h.bt.top
 have hgl:hi<=g:=by rcases hat with e | e;exact h.yo g e;omega
 have he:=h.eh
 have ob:(Value.slice (some ⟨g,0,none⟩) (fs.length+1) cap).ownBlock=some g:=rfl
 have xo:(Value.slice (some ⟨g,0,none⟩) (fs.length+1) cap).ownBlock≠some (w0.heap.size+1):=fun e=>by rw [ob] at e;injection e with e;omega
 have e1:(fs++[z]).map (Value.int .i64)=fs.map (Value.int .i64)++[.int .i64 z]:=by simp
 have e2:(fs++[z]).length=fs.length+1:=by simp
 have P:=h.x.s.push hown hg
 have R1:=h.x.row.grown hg (fun e=>h.x.xo e.symm)
 have X1:BdX w0 w' 3 1 R a n c q (.slice (some ⟨g,0,none⟩) (fs.length+1) cap) (fs.length+1) (fs.map (Value.int .i64)++[.int .i64 z]) (w0.heap.size+1) [.int .i64 K,.slice ba b.length bc,.int .i64 cut,y]:=⟨P,R1,xo,h.x.xb⟩
 have X2:=X1.set 3 (by simp) (.slice (some ⟨g,0,none⟩) (fs.length+1) cap)
 refine ⟨by rw [e1,e2];exact X2,(h.bt.grown hg (fun k e=>.inr (h.yo k e))).setc _ _ _ (.inl (by omega)),(h.rb.grown hg (fun e=>by have:=h.yo _ e.symm;omega)).grown (grown_setC _ _ _ _) (fun e=>by injection e with e;omega),fun k e=>by rw [ob] at e;injection e with e;omega,he⟩
theorem EvD.fin {ya:Option Addr} {m yc:Nat} (h:EvD w0 w R a n c q K ba bc b cut hi (.slice ya m yc) fs) (hm:m=fs.length) (WF:World) (e:WF=(((w.setCell ⟨w0.heap.size,0,none⟩ (.int .i64 K)).setCell ⟨w0.heap.size,1,none⟩ (.slice ba b.length bc)).setCell ⟨w0.heap.size,2,none⟩ (.int .i64 cut)).setCell ⟨w0.heap.size,3,none⟩ (.slice ya m yc)) :
  Row WF w0.heap.size [.int .i64 K,.slice ba b.length bc,.int .i64 cut,.slice ya m yc]/\Dep WF w0.heap.size WF.heap.size (fun W=>Chs W ba b)/\Dep WF w0.heap.size WF.heap.size (fun W=>Ints W ya fs)/\Rdr WF R a n c q/\w0.grownBy WF (some R):=by
 subst hm
 have hr:=(((h.rb.set 0 (by simp) (.int .i64 K)).set 1 (by simp) (.slice ba b.length bc)).set 2 (by simp) (.int .i64 cut)).set 3 (by simp) (.slice ya fs.length yc)
 have G:=grown_trans (grown_trans (grown_trans (grown_setC w w0.heap.size 0 (.int .i64 K)) (grown_setC _ w0.heap.size 1 (.slice ba b.length bc))) (grown_setC _ w0.heap.size 2 (.int .i64 cut))) (grown_setC _ w0.heap.size 3 (.slice ya fs.length yc))
 rw [<-e] at hr G
 have hl:=h.lt
 have hs:=G.size
 have hb:Below w0.heap.size w WF:=grown_below G (by omega) (fun g e=>by cases e;exact Nat.le_refl _)
 have ho:=h.x.s.own.kept G (.inr (fun e=>by have:=h.yo _ e;have:=h.eh;omega))
 refine ⟨hr,(h.bt.grown G (fun g e=>by cases e;exact .inl (by omega))).wide (by omega) (by have:=h.bt.top;omega) (Nat.le_refl _),dep_map (dep_ownsRow ho) fun W k=>ints_ownE k,h.rd.keep (N:=w0.heap.size) h.x.s.lR h.x.s.ga hb,?_⟩
 have g0:=h.x.s.gr
 exact ⟨hb.os.trans g0.os,hb.tape.trans g0.tape,hb.output.trans g0.output,Nat.le_trans g0.size hb.size,fun i hi hr=>(hb.block i hi).trans (g0.block i hi hr)⟩
end
end
end Go.Proofs.Ythdilmkbnpmdaaa
