import Derived.Test.YtehbpeinnepdcaaGreatDoorPrFnA
import Derived.Test.YtehbpeinnepdcaaGreatDoorPrG50
set_option maxHeartbeats 32000000
set_option maxRecDepth 8000
set_option linter.unusedVariables false
set_option linter.unusedSimpArgs false
namespace Go.Proofs.YtehbpeinnepdcaaGreatDoor
open Go.RowKit
section
abbrev kAT (ss:List ByteArray) (ws:List (Int×ByteArray)) (aA size n:Int):Prop:=vlG ss ws=true/\(1<=n/\n<=8)/\0<=aA/\0<=size/\aA<=(ss.length:Int)/\size<=(ss.length:Int)-aA
def scD (ss:List ByteArray) (ws:List (Int×ByteArray)) (aB size first aA n:Int):Scd :=
 if kAT ss ws aB size n then vb3 (fun k=>(syncs ws ss).getD k ByteArray.empty) aB.toNat first n size.toNat 0 0 aA ByteArray.empty ([],0,aA) else ([],0,0)
def xPk (w w':World) (e:Ending) (x:Scd):Prop:=∃ y,e=.returned (.agg #[y,.int .i64 x.2.1,.int .i64 x.2.2])/\w'.ownsRow w.heap.size 9 1 y x.1.length (x.1.map Value.string)/\Below w.heap.size w w'
structure ScB (w0 w:World) (RB G XB OT WS:Nat) (S:List Value) (cx:Nat) (xp:Value) (y:Value) (ents:List ByteArray) (u l wk wl wm:Int) (wp:ByteArray):Prop where
 rb:Row w RB [.slice none 0 0,.int .i64 0,.int .i64 0]
 sec:Row w G S
 xb:Row w XB [.slice (some ⟨G,0,none⟩) S.length cx,xp]
 ot:Row w OT [y,.int .i64 u,.int .i64 l]
 ws:Row w WS [.int .i64 wk,.int .i64 wl,.int .i64 wm,.string wp]
 own:w.ownsRow w0.heap.size 9 1 y ents.length (ents.map Value.string)
 o1:w0.heap.size<=RB
 o2:RB<G
 o3:G<XB
 o4:XB<OT
 o5:OT<WS
 yo:∀ k,y.ownBlock=some k->WS<k
 be:Below w0.heap.size w0 w
section
variable {w0 w w':World} {RB G XB OT WS:Nat} {S:List Value} {cx:Nat} {xp:Value} {y:Value} {ents:List ByteArray} {u l wk wl wm:Int} {wp:ByteArray}
theorem ScB.below (h:ScB w0 w RB G XB OT WS S cx xp y ents u l wk wl wm wp) (hb:Below w.heap.size w w'):ScB w0 w' RB G XB OT WS S cx xp y ents u l wk wl wm wp :=
 ⟨h.rb.below hb,h.sec.below hb,h.xb.below hb,h.ot.below hb,h.ws.below hb,jcb h.own hb,h.o1,h.o2,h.o3,h.o4,h.o5,h.yo,h.be.trans (hb.mono h.be.size)⟩
theorem ScB.own_ne (h:ScB w0 w RB G XB OT WS S cx xp y ents u l wk wl wm wp) {k:Nat} (hk:k<=WS):y.ownBlock≠some k:=fun e=>by have:=h.yo k e;omega
theorem ScB.setWas (h:ScB w0 w RB G XB OT WS S cx xp y ents u l wk wl wm wp) (k' l' m':Int) (p':ByteArray) :
  ScB w0 ((((w.setCell ⟨WS,0,none⟩ (.int .i64 k')).setCell ⟨WS,1,none⟩ (.int .i64 l')).setCell ⟨WS,2,none⟩ (.int .i64 m')).setCell ⟨WS,3,none⟩ (.string p')) RB G XB OT WS S cx xp y ents u l k' l' m' p':=by
 have o1:=h.o1;have o2:=h.o2;have o3:=h.o3;have o4:=h.o4;have o5:=h.o5
 have aA:∀ {g:Nat} {cs:List Value},g≠WS->Row w g cs->Row ((((w.setCell ⟨WS,0,none⟩ (.int .i64 k')).setCell ⟨WS,1,none⟩ (.int .i64 l')).setCell ⟨WS,2,none⟩ (.int .i64 m')).setCell ⟨WS,3,none⟩ (.string p')) g cs:=fun hg hr =>
  (((hr.other _ (Ne.symm hg) _).other _ (Ne.symm hg) _).other _ (Ne.symm hg) _).other _ (Ne.symm hg) _
 have hy:=h.own_ne (Nat.le_refl WS)
 have bs:∀ {x:World},Below w0.heap.size w0 x->∀ i v,Below w0.heap.size w0 (x.setCell ⟨WS,i,none⟩ v):=fun hx i v=>hx.setCell (by show w0.heap.size<=WS;omega) _
 exact ⟨aA (by omega) h.rb,aA (by omega) h.sec,aA (by omega) h.xb,aA (by omega) h.ot,(((h.ws.set 0 (by simp) _).set 1 (by simp) _).set 2 (by simp) _).set 3 (by simp) _,
  ownsRow_setCell_other (ownsRow_setCell_other (ownsRow_setCell_other (ownsRow_setCell_other h.own hy _) hy _) hy _) hy _,o1,o2,o3,o4,o5,h.yo,bs (bs (bs (bs h.be _ _) _ _) _ _) _ _⟩
theorem ScB.setEnd (h:ScB w0 w RB G XB OT WS S cx xp y ents u l wk wl wm wp) (u' l':Int) :
  ScB w0 ((w.setCell ⟨OT,1,none⟩ (.int .i64 u')).setCell ⟨OT,2,none⟩ (.int .i64 l')) RB G XB OT WS S cx xp y ents u' l' wk wl wm wp:=by
 have o1:=h.o1;have o2:=h.o2;have o3:=h.o3;have o4:=h.o4;have o5:=h.o5
 have aA:∀ {g:Nat} {cs:List Value},g≠OT->Row w g cs->Row ((w.setCell ⟨OT,1,none⟩ (.int .i64 u')).setCell ⟨OT,2,none⟩ (.int .i64 l')) g cs:=fun hg hr=>(hr.other _ (Ne.symm hg) _).other _ (Ne.symm hg) _
 have hy:=h.own_ne (k:=OT) (by omega)
 have bs:∀ {x:World},Below w0.heap.size w0 x->∀ i v,Below w0.heap.size w0 (x.setCell ⟨OT,i,none⟩ v):=fun hx i v=>hx.setCell (by show w0.heap.size<=OT;omega) _
 exact ⟨aA (by omega) h.rb,aA (by omega) h.sec,aA (by omega) h.xb,(h.ot.set 1 (by simp) _).set 2 (by simp) _,aA (by omega) h.ws,
  ownsRow_setCell_other (ownsRow_setCell_other h.own hy _) hy _,o1,o2,o3,o4,o5,h.yo,bs (bs h.be _ _) _ _⟩
theorem ScB.push (h:ScB w0 w RB G XB OT WS S cx xp y ents u l wk wl wm wp) {y':Value} {ents':List ByteArray} {H:Nat} (aB:w'.ownsRow w0.heap.size 9 1 y' ents'.length (ents'.map Value.string)) (hg:w.grownBy w' y.ownBlock) (aE:y.ownBlock=y'.ownBlock\/y'.ownBlock=some H) (hH:w.heap.size<=H) :
  ScB w0 (w'.setCell ⟨OT,0,none⟩ y') RB G XB OT WS S cx xp y' ents' u l wk wl wm wp:=by
 have o1:=h.o1;have o2:=h.o2;have o3:=h.o3;have o4:=h.o4;have o5:=h.o5;have lW:=h.ws.lt
 have aC:∀ k,y'.ownBlock=some k->WS<k:=fun k hk=>by
  rcases aE with e | e
  ·exact h.yo k (e.trans hk)
  ·rw [e] at hk;cases hk;omega
 have gr:∀ {g:Nat} {cs:List Value},g<=WS->Row w g cs->Row w' g cs:=fun aF hr=>hr.grown hg (fun e=>h.own_ne aF e.symm)
 have aA:∀ {g:Nat} {cs:List Value},g≠OT->Row w' g cs->Row (w'.setCell ⟨OT,0,none⟩ y') g cs:=fun hg hr=>hr.other _ (Ne.symm hg) _
 have aG:y'.ownBlock≠some OT:=fun e=>by have:=aC OT e;omega
 have aD:Below w0.heap.size w0 w':=h.be.trans (jJX hg h.be.size (fun g e=>(h.own.lt g e).1))
 exact ⟨aA (by omega) (gr (by omega) h.rb),aA (by omega) (gr (by omega) h.sec),aA (by omega) (gr (by omega) h.xb),(gr (by omega) h.ot).set 0 (by simp) _,aA (by omega) (gr (Nat.le_refl _) h.ws),
  ownsRow_setCell_other aB aG _,o1,o2,o3,o4,o5,aC,aD.setCell (by show w0.heap.size<=OT;omega) _⟩
end
theorem vbI (wk wl wm:Int) (wp:ByteArray) (k l m:Int) (p:ByteArray) (w:World):Calls Tryz.prog 114 #[QAw wk wl wm wp,QAw k l m p] w fun e w'=>e=.returned (.bool (yoh wk wl k l))/\Below w.heap.size w w':=by
 have aB:∀ o1 o2,Below w.heap.size w ((w.alloc o1).alloc o2):=fun o1 o2=>((Below.refl _ _).alloc (Nat.le_refl _) _).alloc (by simp) _
 obtain ⟨B,hB⟩:∃ B,yoh wk wl k l=B:=⟨_,rfl⟩;have HB:=hid hB;rw [hB];clear hB
 by_cases h1:l<wl
 ·have e:B=false:=by rw [<-HB.out];unfold yoh;simp;omega
  subst e;clear HB;go_enter Tryz.func114,Tryz.ntmps114;go_wp2;go_ret;exact ⟨rfl,aB _ _⟩
 ·by_cases h3:k=3
  ·subst h3
   by_cases hw:wk=1
   ·have e:B=false:=by rw [<-HB.out];unfold yoh;simp [hw]
    subst e;clear HB;go_enter Tryz.func114,Tryz.ntmps114;go_wp2;go_ret;exact ⟨rfl,aB _ _⟩
   ·have e:B=true:=by rw [<-HB.out];unfold yoh;simp [hw];omega
    have aE:(wk != 1)=true:=by simp [hw]
    subst e;clear HB;go_enter Tryz.func114,Tryz.ntmps114;go_wp2;go_ret;exact ⟨rfl,aB _ _⟩
  ·by_cases aA:k=1\/k=2
   ·by_cases hw:wk=1
    ·by_cases hl:wl=l
     ·have e:B=true:=by rw [<-HB.out];unfold yoh;rcases aA with rfl | rfl<;>simp [hw,hl]
      subst e;clear HB;rcases aA with rfl | rfl<;>(go_enter Tryz.func114,Tryz.ntmps114;go_wp2;go_ret;exact ⟨rfl,aB _ _⟩)
     ·have e:B=false:=by rw [<-HB.out];unfold yoh;rcases aA with rfl | rfl<;>simp [hw,hl]
      have aF:(wl == l)=false:=by simp [hl]
      subst e;clear HB;rcases aA with rfl | rfl<;>(go_enter Tryz.func114,Tryz.ntmps114;go_wp2;go_ret;exact ⟨rfl,aB _ _⟩)
    ·have e:B=true:=by rw [<-HB.out];unfold yoh;rcases aA with rfl | rfl<;>simp [hw]<;>omega
     have aE:(wk != 1)=true:=by simp [hw]
     subst e;clear HB;rcases aA with rfl | rfl<;>(go_enter Tryz.func114,Tryz.ntmps114;go_wp2;go_ret;exact ⟨rfl,aB _ _⟩)
   ·have aC:¬ k=1:=fun e=>aA (.inl e)
    have aD:¬ k=2:=fun e=>aA (.inr e)
    have e:B=false:=by rw [<-HB.out];unfold yoh;simp [h3,aC,aD]
    subst e;clear HB aA;go_enter Tryz.func114,Tryz.ntmps114;go_wp2;go_ret;exact ⟨rfl,aB _ _⟩
end
section
def qAf:List ByteArray->List Pr->Option (List Pr)
 | [],rs=>some rs
 | e::es,rs=>match yjX e with
  | none=>none
  | some b=>if apC rs b=0 then qAf es (apU rs b) else none
theorem kVn:∀ (es:List ByteArray) (rs:List Pr),z0q rs=true->∀ r,qAf es rs=some r->z0q r=true
 | [],rs,h,r,hr=>by cases hr;exact h
 | e::es,rs,h,r,hr=>by
  rw [qAf] at hr
  split at hr
  ·cases hr
  ·split at hr
   ·rename_i hc
    exact kVn es _ (jZe hc) r hr
   ·cases hr
theorem kIa {e:ByteArray} {es:List ByteArray} {rs:List Pr} (h:yjX e=none):qAf (e::es) rs=none:=by rw [qAf,h]
theorem qep {e:ByteArray} {es:List ByteArray} {rs:List Pr} {b:List Ch} (h:yjX e=some b) (hc:apC rs b≠0):qAf (e::es) rs=none:=by rw [qAf,h];simp only;rw [if_neg hc]
theorem QhE {e:ByteArray} {es:List ByteArray} {rs:List Pr} {b:List Ch} (h:yjX e=some b) (hc:apC rs b=0):qAf (e::es) rs=qAf es (apU rs b):=by rw [qAf,h];simp only;rw [if_pos hc]
theorem vv3:z0q []=true:=by decide
theorem ytq {rs:List Pr} (h:z0q rs=true):rs.length<=100/\∀ x∈rs,x.1.size<=1048576/\x.2.size<=1048576:=by
 obtain ⟨h1,h2,h3⟩:=(ZaP rs).1 h;refine ⟨h1,fun x hx=>?_⟩;obtain ⟨k1,k2⟩:=h2 x hx;unfold kOk at k1;unfold vOk at k2;simp at k1 k2;omega
theorem JQk {b:List Ch} (h:kpJ b=true):b.length<=20/\∀ x∈b,x.1.size<=1048576/\x.2.1.size<=1048576:=by
 obtain ⟨h1,h2⟩:=q4Z h;refine ⟨by omega,fun x hx=>?_⟩;obtain ⟨k1,k2⟩:=vBC (h2 x hx);unfold kOk at k1;unfold vOk at k2;simp at k1 k2;omega
def k6M (x:RtT):Prop:=(0<=x.1/\x.1<=1000000000)/\(0<=x.2.1/\x.2.1<=1)/\(1<=x.2.2.1/\x.2.2.1<=999999000)/\(0<=x.2.2.2/\x.2.2.2<=60000)
theorem v47 {s:ByteArray} {a n:Int} {x:RtT} (h:yVH s a n=some x):k6M x:=by
 unfold yVH at h
 split at h
 ·cases h
 ·rename_i k l m p hp
  have hr:=v5k hp
  split at h
  ·rename_i hh
   cases h
   obtain ⟨h1,h2,h3⟩:=hh
   have hf:jJV (ptH p) (ptF p):=by
    by_cases e:jJV (ptH p) (ptF p)
    ·exact e
    ·exfalso
     unfold QCt at h2;rw [if_neg e] at h2;have aA:=hr.1;rw [<-h2] at aA;exact absurd aA (by decide)
   unfold jJV at hf;unfold k6M;simp only;omega
  ·cases h
theorem Z3f {b:RtT} {o:Option RtT} (hb:k6M b) (ho:∀ x,o=some x->k6M x):k6M (xBi b o):=by
 unfold xBi
 split
 ·exact hb
 ·rename_i r
  split
  ·exact ho _ rfl
  ·exact hb
theorem x4o (s0 s1:ByteArray) (n:Int):k6M (jkc s0 s1 n):=by
 unfold jkc;exact Z3f (Z3f (by unfold k6M;simp) (fun x hx=>v47 hx)) (fun x hx=>v47 hx)
theorem zNB {ss:List ByteArray} {ws:List (Int×ByteArray)} {n:Int} (h:vlG ss ws=true/\1<=n/\n<=8):k6M (frD ss ws n):=by
 unfold frD;rw [if_pos h];exact x4o _ _ _
def opX (ss:List ByteArray) (ws:List (Int×ByteArray)) (n:Int):Scd:=scD ss ws (2+(frD ss ws n).2.1*hv ss.length) (hv ss.length) (frD ss ws n).2.2.1 (frD ss ws n).2.2.2 n
theorem ZuJ {S:Int} (h:8<=S/\S<=200):2+2*hv S<=S:=by unfold hv;rw [if_pos h];omega
theorem xYL {H q:Int} (h:0<=H/\H<=1) (hq:0<=q):0<=H*q/\H*q<=q:=by
 have:H=0\/H=1:=by omega
 rcases this with rfl | rfl<;>omega
theorem qIh {ss:List ByteArray} {ws:List (Int×ByteArray)} {n:Int} (h:vlG ss ws=true/\1<=n/\n<=8):kAT ss ws (2+(frD ss ws n).2.1*hv ss.length) (hv ss.length) n:=by
 have hg:=zNB h;obtain ⟨⟨aB,aC,aD⟩,aA,hw⟩:=q67 h.1;have h1:=QU8 (S:=(ss.length:Int)) (by omega);have h2:=ZuJ (S:=(ss.length:Int)) (by omega);have h3:=xYL hg.2.1 (q:=hv ss.length) (by omega);exact ⟨h.1,h.2,by omega,by omega,by omega,by omega⟩
theorem qTB {ss:List ByteArray} {ws:List (Int×ByteArray)} {n:Int} (h:vlG ss ws=true/\1<=n/\n<=8):(0<=(opX ss ws n).2.1/\(opX ss ws n).2.1<=hv ss.length)/\(0<=(opX ss ws n).2.2/\(opX ss ws n).2.2<=60000)/\(opX ss ws n).1.length<=99/\∀ e∈(opX ss ws n).1,e.size<=6336:=by
 have hg:=zNB h;have aA:=qIh h;obtain ⟨⟨aC,aD,aE⟩,aB,hw⟩:=q67 h.1;have h1:=QU8 (S:=(ss.length:Int)) (by omega);unfold opX scD;rw [if_pos aA];obtain ⟨q,hq⟩:∃ q:Nat,hv ss.length=(q:Int):=⟨(hv ss.length).toNat,by omega⟩;rw [hq] at h1 ⊢;simp only [Int.toNat_natCast];have u1:=qNA (fun k=>(syncs ws ss).getD k ByteArray.empty) (2+(frD ss ws n).2.1*(q:Int)).toNat (frD ss ws n).2.2.1 n q 0 0 (frD ss ws n).2.2.2 ByteArray.empty ([],0,(frD ss ws n).2.2.2) (by simp);have u2:=vp8 (fun k=>(syncs ws ss).getD k ByteArray.empty) (2+(frD ss ws n).2.1*(q:Int)).toNat (frD ss ws n).2.2.1 n q 0 0 (frD ss ws n).2.2.2 ByteArray.empty ([],0,(frD ss ws n).2.2.2);have u3:=zjC (fun k=>(syncs ws ss).getD k ByteArray.empty) (2+(frD ss ws n).2.1*(q:Int)).toNat (frD ss ws n).2.2.1 n q 0 0 (frD ss ws n).2.2.2 ByteArray.empty ([],0,(frD ss ws n).2.2.2) 6336 (by show 0+64*q<=6336;omega) (by intro e he;cases he);simp only [List.length_nil] at u3
 refine ⟨by omega,?_,by omega,u3.1⟩;have:=hg.2.2.2;rcases u2 with u2 | u2
 ·rw [u2];exact this
 ·omega
def Zfa (ss:List ByteArray) (ws:List (Int×ByteArray)) (n:Int):Dd :=
 if vlG ss ws=true/\1<=n/\n<=8 then
  match qAf (opX ss ws n).1 [] with
  | none=>noD 2
  | some rs =>
   if 60000<(opX ss ws n).2.2+1 then noD 3
   else if hv ss.length-1<xee (ZZG rs) n then noD 4
   else if hv ss.length<=(opX ss ws n).2.1 then kGX n ss.length ((opX ss ws n).2.2+1) (frD ss ws n).1 (frD ss ws n).2.1 (frD ss ws n).2.2.1 rs
   else ⟨0,n,ss.length,(opX ss ws n).2.2+1,(frD ss ws n).1,(frD ss ws n).2.1,(frD ss ws n).2.2.1,(frD ss ws n).2.2.2,(opX ss ws n).2.1+1,0,rs,
    [(false,2+(frD ss ws n).2.1*hv ss.length+(opX ss ws n).2.1,ZQp 3 ((opX ss ws n).2.2+1) ((frD ss ws n).2.2.1+(opX ss ws n).2.1) ByteArray.empty n),(true,0,ByteArray.empty)]⟩
 else noD 1
section
variable {ss:List ByteArray} {ws:List (Int×ByteArray)} {n T H F R U L:Int} {es:List ByteArray} {rs:List Pr}
theorem ZJP (h:¬ (vlG ss ws=true/\1<=n/\n<=8)):Zfa ss ws n=noD 1:=by unfold Zfa;rw [if_neg h]
theorem vuT (h:vlG ss ws=true/\1<=n/\n<=8) (h2:opX ss ws n=(es,U,L)) (h3:qAf es []=none):Zfa ss ws n=noD 2:=by
 unfold Zfa;rw [if_pos h,h2];simp only;rw [h3]
theorem yfb (h:vlG ss ws=true/\1<=n/\n<=8) (h2:opX ss ws n=(es,U,L)) (h3:qAf es []=some rs) (h4:60000<L+1):Zfa ss ws n=noD 3:=by
 unfold Zfa;rw [if_pos h,h2];simp only;rw [h3];simp only;rw [if_pos h4]
theorem jzU (h:vlG ss ws=true/\1<=n/\n<=8) (h2:opX ss ws n=(es,U,L)) (h3:qAf es []=some rs) (h4:¬ 60000<L+1) (h5:hv ss.length-1<xee (ZZG rs) n):Zfa ss ws n=noD 4:=by
 unfold Zfa;rw [if_pos h,h2];simp only;rw [h3];simp only;rw [if_neg h4,if_pos h5]
theorem QeI (h:vlG ss ws=true/\1<=n/\n<=8) (h1:frD ss ws n=(T,H,F,R)) (h2:opX ss ws n=(es,U,L)) (h3:qAf es []=some rs) (h4:¬ 60000<L+1) (h5:¬ hv ss.length-1<xee (ZZG rs) n) (h6:hv ss.length<=U):Zfa ss ws n=kGX n ss.length (L+1) T H F rs:=by
 unfold Zfa;rw [if_pos h,h2,h1];simp only;rw [h3];simp only;rw [if_neg h4,if_neg h5,if_pos h6]
theorem XMy (h:vlG ss ws=true/\1<=n/\n<=8) (h1:frD ss ws n=(T,H,F,R)) (h2:opX ss ws n=(es,U,L)) (h3:qAf es []=some rs) (h4:¬ 60000<L+1) (h5:¬ hv ss.length-1<xee (ZZG rs) n) (h6:¬ hv ss.length<=U) :
  Zfa ss ws n=⟨0,n,ss.length,L+1,T,H,F,R,U+1,0,rs,[(false,2+H*hv ss.length+U,ZQp 3 (L+1) (F+U) ByteArray.empty n),(true,0,ByteArray.empty)]⟩:=by
 unfold Zfa;rw [if_pos h,h2,h1];simp only;rw [h3];simp only;rw [if_neg h4,if_neg h5,if_neg h6]
end
theorem xA5 {W S L T H F:Int} {rs:List Pr} (hl:rs.length<=1048576) (aA:z5m W S L T H F rs):(kGX W S L T H F rs).rs.length<=1048576/\(kGX W S L T H F rs).ops.length<=1000:=by
 unfold kGX
 cases h2:j5U S T F with
 | false=>simp [noD]
 | true =>
  obtain ⟨⟨h1,aB⟩,h3,h4,h5,h6,h7,h8⟩:=aA;have hq:=QU8 h3;have hm:=XPX L (F+hv S) W.toNat (56-W.toNat) (by omega) (by omega) (by omega) (ZZG rs);rw [show ((W.toNat:Nat):Int)=W by omega] at hm;simp only [if_true,mvD,List.length_append,xp9];refine ⟨hl,?_⟩;simp;omega
theorem z2d (ss:List ByteArray) (ws:List (Int×ByteArray)) (n:Int):(Zfa ss ws n).rs.length<=1048576/\(Zfa ss ws n).ops.length<=1000:=by
 by_cases h:vlG ss ws=true/\1<=n/\n<=8
 ·obtain ⟨T,H,F,R,aA⟩:∃ T H F R,frD ss ws n=(T,H,F,R):=⟨_,_,_,_,rfl⟩
  obtain ⟨es,U,L,hX⟩:∃ es U L,opX ss ws n=(es,U,L):=⟨_,_,_,rfl⟩;have hg:=zNB h;have hx:=qTB h;rw [aA] at hg;rw [hX] at hx;unfold k6M at hg;simp only at hg hx;obtain ⟨⟨aB,aC,aD⟩,_,_⟩:=q67 h.1
  cases hf:qAf es [] with
  | none=>rw [vuT h hX hf];simp [noD]
  | some rs =>
   have aE:=(ytq (kVn es [] vv3 rs hf)).1
   by_cases h4:60000<L+1
   ·rw [yfb h hX hf h4];simp [noD]
   ·by_cases h5:hv ss.length-1<xee (ZZG rs) n
    ·rw [jzU h hX hf h4 h5];simp [noD]
    ·by_cases h6:hv ss.length<=U
     ·rw [QeI h aA hX hf h4 h5 h6]
      exact xA5 (by omega) ⟨h.2,by omega,by omega,hg.1,hg.2.1,hg.2.2.1,by omega⟩
     ·rw [XMy h aA hX hf h4 h5 h6]
      simp;omega
 ·rw [ZJP h];simp [noD]
end
def z0i (w w':World) (e:Ending) (aA:Option (List Pr)):Prop:=∃ a c,e=.returned (.tuple #[stV a (aA.getD []).length c,.bool aA.isSome])/\(aA.getD []).length<=c/\OwnS w' a (qJS (aA.getD []))/\(∀ g,blk a (aA.getD []).length=some g->w.heap.size<=g)/\Below w.heap.size w w'
theorem kHP {s:ByteArray} {o:List Ch} (h:yjX s=some o):kpJ o=true:=by
 rw [<-jLn] at h;unfold ZnV at h
 split at h
 ·cases h
 ·split at h
  ·rename_i hh;cases h;exact hh
  ·cases h
theorem zJy {w:World} {a:Option Addr} {rs:List Ch} (h:OwnS w a (jlM rs)):Chs w a rs:=by
 rcases h with h | ⟨g,rfl,h⟩
 ·refine .inl ?_
  cases rs with
  | nil=>rfl
  | cons x r=>obtain ⟨x0,x1,x2⟩:=x;exact absurd h (by simp [jlM])
 ·exact h.chs
theorem jME {l:List Pr} (h:qJS l≠[]):l.length≠0:=fun e=>h (by rw [List.eq_nil_of_length_eq_zero e];rfl)
theorem OwnS.setF {w:World} {a:Option Addr} {cs:List Value} (h:OwnS w a cs) (p:Addr) (hp:∀ g,a=some ⟨g,0,none⟩->cs≠[]->p.block≠g) (v:Value):OwnS (w.setCell p v) a cs:=by
 by_cases h0:cs=[]
 ·exact .inl h0
 ·rcases h with h | ⟨g,rfl,hr⟩
  ·exact absurd h h0
  ·exact .inr ⟨g,rfl,hr.other p (hp g rfl h0) v⟩
structure FdB (w W:World) (rs:List Pr) (sa:Option Addr) (sc:Nat):Prop where
 rb:Row W w.heap.size [.slice none 0 0]
 st:Row W (w.heap.size+1) [.slice sa rs.length sc]
 own:OwnS W sa (qJS rs)
 lo:∀ g,blk sa rs.length=some g->w.heap.size+2<=g
 cap:rs.length<=sc
 be:Below w.heap.size w W
theorem FdB.new (w:World):FdB w ((w.alloc (.cells #[.slice none 0 0] 31)).alloc (.cells #[.slice none 0 0] 31)) [] none 0 :=
 ⟨(kR4 w #[.slice none 0 0] 31 w.heap.size rfl).alloc _,kR4 _ #[.slice none 0 0] 31 _ (by simp),.inl rfl,fun g hg=>(by cases hg),Nat.le_refl _,((Below.refl _ _).alloc (Nat.le_refl _) _).alloc (by simp) _⟩
theorem FdB.below {w W W':World} {rs:List Pr} {sa:Option Addr} {sc:Nat} (h:FdB w W rs sa sc) (hb:Below W.heap.size W W'):FdB w W' rs sa sc:=⟨h.rb.below hb,h.st.below hb,h.own.below hb,h.lo,h.cap,h.be.trans (hb.mono h.be.size)⟩
theorem FdB.set {w X:World} {W':Obj} {rs aA:List Pr} {sa aB:Option Addr} {sc aC:Nat} (h:FdB w (X.alloc W') rs sa sc) (ho:OwnS X aB (qJS aA)) (hc:aA.length<=aC) (aD:∀ g,blk aB aA.length=some g->w.heap.size+2<=g) :
  FdB w ((X.alloc W').setCell ⟨w.heap.size+1,0,none⟩ (.slice aB aA.length aC)) aA aB aC:=by
 refine ⟨h.rb.other _ (by show w.heap.size+1≠w.heap.size;omega) _,h.st.set 0 (by simp) _,OwnS.setF (ho.below ((Below.refl _ _).alloc (Nat.le_refl _) _)) _ (fun g hg hn=>?_) _,aD,hc,h.be.setCell (by show w.heap.size<=w.heap.size+1;omega) _⟩;have:=aD g (by subst hg;exact qdd _ _ _ (jME hn));show w.heap.size+1≠g;omega
theorem qZW (a:Option Addr) (es:List ByteArray) (c:Nat) (w:World) (h:Strs w a es) (hl:es.length<=1000) (hs:∀ e∈es,e.size<=1048576) :
  Calls Tryz.prog 108 #[.slice a es.length c] w fun e w'=>z0i w w' e (qAf es []):=by
 obtain ⟨aC,aJ⟩:∃ aC,Hid (aC=qAf es []):=⟨_,hid rfl⟩;rw [<-aJ.out];have HH:=hid h;have HS:=hid hs;clear h hs;go_enter Tryz.func108,Tryz.ntmps108;go_wp2;go_loopw [5] (fun iv wr=>∃ (i:Nat) (rs:List Pr) (sa:Option Addr) (sc:Nat) (W:World),W=wr/\iv=.int .i64 (i:Int)/\i<=es.length/\z0q rs=true/\Hid (qAf (es.drop i) rs=aC)/\FdB w W rs sa sc) (fun iv _=>((es.length:Int)-intOf iv).toNat)
 case atStart=>exact ⟨0,[],none,0,_,rfl,rfl,Nat.zero_le _,vv3,by show _=_;rw [aJ.out];rfl,FdB.new w⟩
 case round =>
  obtain ⟨i,rs,sa,sc,wr,rfl,rfl,hi,aV,HF,D⟩:=hrel;have HD:=hid D;have d1:=D.st.cell 0 _ rfl;have aQ:=D.st.lt;have d0:=D.rb.cell 0 _ rfl;have aP:=D.rb.lt;have aO:=D.rb.froz 0 (by simp);have aE:=ytq aV;have b8:=aE.1;have bV:=hid aV;have aY:=hid aE.2;clear aV aE D
  by_cases aT:i<es.length
  ·have aU:(i:Int)<(es.length:Int):=by omega
   have bZ:(0:Int)<=(i:Int):=by omega
   have cC:IntKind.i64.wrap ((i:Int)+1)=(i:Int)+1:=by simp [IntKind.wrap,IntKind.bits,IntKind.signed];omega
   obtain ⟨b,o,s,rfl,hc,HE⟩:=(HH.out.below HD.out.be).at aT;have bI:s.size<=1048576:=HS.out s (by rw [HE.out];simp [List.getD,aT]);have aS:es.drop i=s::es.drop (i+1):=by rw [HE.out];simp [List.getD,aT]
   have bW:b<wr.heap.size:=by have:=World.block_lt_of_cell? wr _ hc;simpa using this
   have aI:=hid (fun wx=>Qnj s wx bI)
   skip
   rw [aS] at HF;have bU:=hid aS;clear aS
   cases hR:yjX s with
   | none =>
    rw [hR] at aI;have HN:Hid (aC=none):=by show _=_;rw [<-HF.out];exact kIa hR
    clear hR;go_wp2_with fail;refine (aI.out _).mono ?_;rintro e w5 ⟨ab,cb,rfl,_,_,aB⟩;simp only [Option.getD_none,Option.isSome_none,List.length_nil];have D5:=HD.out.below aB;have aF:=hid D5;have r0:=D5.rb.cell 0 _ rfl;have bQ:=D5.rb.lt;have bJ:=D5.rb.froz 0 (by simp);clear d1 aQ d0 aP aO D5 aB hc;go_wp2;refine bodyPost_ret (v:=.tuple #[stV none 0 0,.bool false]) (by simp [results,Tryz.results108,go_sem,r0,stV]) rfl ?_;rw [HN.out];exact ⟨none,0,rfl,Nat.le_refl _,.inl rfl,fun g hg=>(by cases hg),aF.out.be.setCell (by show w.heap.size<=w.heap.size;omega) _⟩
   | some bb =>
    rw [hR] at aI;have aR:=JQk (kHP hR);have aX:=hid aR.2;have bG:=aR.1;clear aR
    by_cases aA:apC rs bb=0
    ·have HN:Hid (qAf (es.drop (i+1)) (apU rs bb)=aC):=by show _=_;rw [<-HF.out];exact (QhE hR aA).symm
     have hU:apR rs bb=apU rs bb:=by unfold apR;rw [if_pos aA]
     have bC:=hid (jZe aA);clear hR;go_wp2_with fail;refine (aI.out _).mono ?_;rintro e w5 ⟨ab,cb,rfl,aD,aK,aB⟩;simp only [Option.getD_some,Option.isSome_some] at aD aK ⊢;have D5:=HD.out.below aB;have aF:=hid D5;have r1:=D5.st.cell 0 _ rfl;have aW:=D5.st.lt;have aH:=hid (zg0 sa rs sc ab bb cb w5 D5.own.prs (by omega) aY.out (zJy aD) (by omega) aX.out);rw [hU,aA] at aH;clear d1 aQ d0 aP aO D5 aB hc aD aK;go_wp2_with fail;refine aH.out.mono ?_;rintro e w6 ⟨a6,c6,rfl,aZ,aM,aL,aG⟩;have D6:=(aF.out.below aG).below (zE5 w6 (.cells #[.slice a6 (apU rs bb).length c6] 31));have aN:=hid (D6.set aM aZ (fun g hg=>by have:=aL g hg;omega));have x1:=D6.st.cell 0 _ rfl;have cE:=D6.st.froz 0 (by simp);have cF:=D6.st.lt;have x6:w6.heap.size≠w.heap.size+1:=by have:=(aF.out.below aG).st.lt;omega
     clear r1 aW D6 aG aM aL aA hU;go_wp2;exact ⟨⟨i+1,_,a6,c6,_,rfl,by simp,by omega,bC.out,HN,aN.out⟩,by simp [intOf];omega⟩
    ·have HN:Hid (aC=none):=by show _=_;rw [<-HF.out];exact qep hR aA
     have hU:apR rs bb=[]:=by unfold apR;rw [if_neg aA]
     have bY:(apC rs bb == 0)=false:=by simp [aA]
     have bH:(apC rs bb != 0)=true:=by simp [aA]
     clear hR;go_wp2_with fail;refine (aI.out _).mono ?_;rintro e w5 ⟨ab,cb,rfl,aD,aK,aB⟩;simp only [Option.getD_some,Option.isSome_some] at aD aK ⊢;have D5:=HD.out.below aB;have aF:=hid D5;have r1:=D5.st.cell 0 _ rfl;have aW:=D5.st.lt;have aH:=hid (zg0 sa rs sc ab bb cb w5 D5.own.prs (by omega) aY.out (zJy aD) (by omega) aX.out);rw [hU] at aH;clear d1 aQ d0 aP aO D5 aB hc aD aK hU;go_wp2_with fail;refine aH.out.mono ?_;rintro e w6 ⟨a6,c6,rfl,aZ,aM,aL,aG⟩;have D6:=(aF.out.below aG).below (zE5 w6 (.cells #[.slice a6 0 c6] 31));have aN:=hid D6;have r0:=D6.rb.cell 0 _ rfl;have bQ:=D6.rb.lt;have bJ:=D6.rb.froz 0 (by simp);clear r1 aW D6 aG aM aL;go_wp2;refine bodyPost_ret (v:=.tuple #[stV none 0 0,.bool false]) (by simp [results,Tryz.results108,go_sem,r0,stV]) rfl ?_;rw [HN.out];exact ⟨none,0,rfl,Nat.le_refl _,.inl rfl,fun g hg=>(by cases hg),aN.out.be.setCell (by show w.heap.size<=w.heap.size;omega) _⟩
  ·have HN:Hid (aC=some rs):=by show _=_;rw [<-HF.out,List.drop_of_length_le (by omega)];rfl
   have aU:¬ ((i:Int)<(es.length:Int)):=by omega
   have b7:¬ (w.heap.size=w.heap.size+1):=by omega
   go_wp2;refine bodyPost_ret (v:=.tuple #[stV sa rs.length sc,.bool true]) (by simp [results,Tryz.results108,go_sem,d0,stV]) rfl ?_;rw [HN.out];refine ⟨sa,sc,rfl,HD.out.cap,OwnS.setF HD.out.own ⟨w.heap.size,0,none⟩ (fun g hg hn=>?_) _,fun g hg=>by have:=HD.out.lo g hg;omega,HD.out.be.setCell (by show w.heap.size<=w.heap.size;omega) _⟩;have:=HD.out.lo g (by subst hg;exact qdd _ _ _ (jME hn));show w.heap.size≠g;omega
theorem zy4 (x:Int) (h0:-9223372036854775808<=x) (h1:x<=9223372036854775807):IntKind.i64.wrap x=x:=by
 simp [IntKind.wrap,IntKind.bits,IntKind.signed];omega
theorem vB4:(Tryz.prog.info? 9).map (fun i=>(i.zero,i.size,i.bytes))=some (some (.string ByteArray.empty),1,16):=by kernel_rfl
theorem XJQ {P:Program} {e:TypeId} {z:Value} {size aA:Nat} (h:(P.info? e).map (fun i=>(i.zero,i.size,i.bytes))=some (some z,size,aA)):∃ i,P.info? e=some i/\i.zero=some z/\i.size=size/\i.bytes=aA:=by
 obtain ⟨i,hi,hh⟩:=Option.map_eq_some_iff.1 h;simp only [Prod.mk.injEq] at hh;exact ⟨i,hi,hh⟩
theorem vtr (w:World) (cs:Array Value) (t:TypeId):∀ j u,cs.toList[j]?=some u->(w.alloc (.cells cs t)).cell? ((⟨w.heap.size,0,none⟩:Addr).add j)=some u:=World.news_of_block (heap_alloc_new w (.cells cs t))
theorem Z75 (k:ByteArray):∀ u∈[Value.string k],u.oneCell'=true:=by
 intro u hu;simp only [List.mem_cons,List.not_mem_nil,or_false] at hu;subst hu;rfl
theorem zd8 (ss:List ByteArray) (ws:List (Int×ByteArray)) (aB size first aA n:Int) (h:¬ kAT ss ws aB size n):scD ss ws aB size first aA n=([],0,0):=by unfold scD;rw [if_neg h]
theorem xjg (a:Option Addr) (ss:List ByteArray) (c:Nat) (a':Option Addr) (ws:List (Int×ByteArray)) (c':Nat) (aE size first aJ n:Int) (w:World) (h:Strs w a ss) (h':Wrs w a' ws) (hl:ss.length<=1048576) (aK:ws.length<=1048576) (hs:∀ s∈ss,s.size<=1048576) (aL:∀ x∈ws,x.2.size<=1048576) (aF:¬ kAT ss ws aE size n) :
  Calls Tryz.prog 107 #[Zoj a ss.length c a' ws.length c',.int .i64 aE,.int .i64 size,.int .i64 first,.int .i64 aJ,.int .i64 n] w fun e w'=>xPk w w' e ([],0,0):=by
 have aD:∀ o1 o2,Below w.heap.size w ((w.alloc o1).alloc o2):=fun o1 o2=>((Below.refl _ _).alloc (Nat.le_refl _) _).alloc (by simp) _
 have HV:=hid (fun (wx:World) (hb:Below w.heap.size w wx)=>xpE a ss c a' ws c' wx (h.below hb) (h'.below hb) hl aK hs aL)
 cases hok:vlG ss ws with
 | false =>
  have hd:decide (1<=n/\n<=8)=decide (1<=n/\n<=8):=rfl;go_enter Tryz.func107,Tryz.ntmps107
  go_wp2_with (first | (go_at_call 16;refine (HV.out _ (aD _ _)).mono ?_;rw [hok];rintro e w1 ⟨rfl,aB⟩;have r6:=((kR4 w #[.slice a ss.length c,.slice a' ws.length c'] 26 w.heap.size rfl).alloc (.cells #[.slice none 0 0,.int .i64 0,.int .i64 0] 169)).below aB;have aA:=(kR4 (w.alloc (.cells #[.slice a ss.length c,.slice a' ws.length c'] 26)) #[.slice none 0 0,.int .i64 0,.int .i64 0] 169 (w.heap.size+1) (by simp)).below aB;have HB:=hid ((aD (.cells #[.slice a ss.length c,.slice a' ws.length c'] 26) (.cells #[.slice none 0 0,.int .i64 0,.int .i64 0] 169)).trans (aB.mono (by simp<;>omega)));have q0:=r6.cell 0 _ rfl;have ql:=r6.lt;have b0:=aA.cell 0 _ rfl;have b1:=aA.cell 1 _ rfl;have b2:=aA.cell 2 _ rfl;have aG:=aA.froz 0 (by simp);have aH:=aA.froz 1 (by simp);have aI:=aA.froz 2 (by simp);have bl:=aA.lt;clear aB r6 aA) | (go_at_call 15;refine (X3C _ _).mono ?_;rw [hd];rintro e wz ⟨rfl,aC⟩;rw [aC];clear aC wz))
  refine bodyPost_ret (v:=.agg #[.slice none 0 0,.int .i64 0,.int .i64 0]) (by simp [results,Tryz.results107,go_sem,b0,b1,b2]) rfl ?_;exact ⟨.slice none 0 0,rfl,World.ownsRow_nil _ _ _ _,((HB.out.setCell (by show w.heap.size<=w.heap.size+1;omega) _).setCell (by show w.heap.size<=w.heap.size+1;omega) _).setCell (by show w.heap.size<=w.heap.size+1;omega) _⟩
 | true =>
  obtain ⟨⟨aN,aO,aP⟩,aM,hw⟩:=q67 hok
  by_cases hn:1<=n/\n<=8
  ·have hd:decide (1<=n/\n<=8)=true:=decide_eq_true hn
   by_cases f0:aE<0
   ·clear aF
    go_enter Tryz.func107,Tryz.ntmps107
    go_wp2_with (first | (go_at_call 16;refine (HV.out _ (aD _ _)).mono ?_;rw [hok];rintro e w1 ⟨rfl,aB⟩;have r6:=((kR4 w #[.slice a ss.length c,.slice a' ws.length c'] 26 w.heap.size rfl).alloc (.cells #[.slice none 0 0,.int .i64 0,.int .i64 0] 169)).below aB;have aA:=(kR4 (w.alloc (.cells #[.slice a ss.length c,.slice a' ws.length c'] 26)) #[.slice none 0 0,.int .i64 0,.int .i64 0] 169 (w.heap.size+1) (by simp)).below aB;have HB:=hid ((aD (.cells #[.slice a ss.length c,.slice a' ws.length c'] 26) (.cells #[.slice none 0 0,.int .i64 0,.int .i64 0] 169)).trans (aB.mono (by simp<;>omega)));have q0:=r6.cell 0 _ rfl;have ql:=r6.lt;have b0:=aA.cell 0 _ rfl;have b1:=aA.cell 1 _ rfl;have b2:=aA.cell 2 _ rfl;have aG:=aA.froz 0 (by simp);have aH:=aA.froz 1 (by simp);have aI:=aA.froz 2 (by simp);have bl:=aA.lt;clear aB r6 aA) | (go_at_call 15;refine (X3C _ _).mono ?_;rw [hd];rintro e wz ⟨rfl,aC⟩;rw [aC];clear aC wz))
    refine bodyPost_ret (v:=.agg #[.slice none 0 0,.int .i64 0,.int .i64 0]) (by simp [results,Tryz.results107,go_sem,b0,b1,b2]) rfl ?_;exact ⟨.slice none 0 0,rfl,World.ownsRow_nil _ _ _ _,((HB.out.setCell (by show w.heap.size<=w.heap.size+1;omega) _).setCell (by show w.heap.size<=w.heap.size+1;omega) _).setCell (by show w.heap.size<=w.heap.size+1;omega) _⟩
   ·by_cases s0:size<0
    ·clear aF
     go_enter Tryz.func107,Tryz.ntmps107
     go_wp2_with (first | (go_at_call 16;refine (HV.out _ (aD _ _)).mono ?_;rw [hok];rintro e w1 ⟨rfl,aB⟩;have r6:=((kR4 w #[.slice a ss.length c,.slice a' ws.length c'] 26 w.heap.size rfl).alloc (.cells #[.slice none 0 0,.int .i64 0,.int .i64 0] 169)).below aB;have aA:=(kR4 (w.alloc (.cells #[.slice a ss.length c,.slice a' ws.length c'] 26)) #[.slice none 0 0,.int .i64 0,.int .i64 0] 169 (w.heap.size+1) (by simp)).below aB;have HB:=hid ((aD (.cells #[.slice a ss.length c,.slice a' ws.length c'] 26) (.cells #[.slice none 0 0,.int .i64 0,.int .i64 0] 169)).trans (aB.mono (by simp<;>omega)));have q0:=r6.cell 0 _ rfl;have ql:=r6.lt;have b0:=aA.cell 0 _ rfl;have b1:=aA.cell 1 _ rfl;have b2:=aA.cell 2 _ rfl;have aG:=aA.froz 0 (by simp);have aH:=aA.froz 1 (by simp);have aI:=aA.froz 2 (by simp);have bl:=aA.lt;clear aB r6 aA) | (go_at_call 15;refine (X3C _ _).mono ?_;rw [hd];rintro e wz ⟨rfl,aC⟩;rw [aC];clear aC wz))
     refine bodyPost_ret (v:=.agg #[.slice none 0 0,.int .i64 0,.int .i64 0]) (by simp [results,Tryz.results107,go_sem,b0,b1,b2]) rfl ?_;exact ⟨.slice none 0 0,rfl,World.ownsRow_nil _ _ _ _,((HB.out.setCell (by show w.heap.size<=w.heap.size+1;omega) _).setCell (by show w.heap.size<=w.heap.size+1;omega) _).setCell (by show w.heap.size<=w.heap.size+1;omega) _⟩
    ·by_cases f1:(ss.length:Int)<aE
     ·clear aF
      go_enter Tryz.func107,Tryz.ntmps107
      go_wp2_with (first | (go_at_call 16;refine (HV.out _ (aD _ _)).mono ?_;rw [hok];rintro e w1 ⟨rfl,aB⟩;have r6:=((kR4 w #[.slice a ss.length c,.slice a' ws.length c'] 26 w.heap.size rfl).alloc (.cells #[.slice none 0 0,.int .i64 0,.int .i64 0] 169)).below aB;have aA:=(kR4 (w.alloc (.cells #[.slice a ss.length c,.slice a' ws.length c'] 26)) #[.slice none 0 0,.int .i64 0,.int .i64 0] 169 (w.heap.size+1) (by simp)).below aB;have HB:=hid ((aD (.cells #[.slice a ss.length c,.slice a' ws.length c'] 26) (.cells #[.slice none 0 0,.int .i64 0,.int .i64 0] 169)).trans (aB.mono (by simp<;>omega)));have q0:=r6.cell 0 _ rfl;have ql:=r6.lt;have b0:=aA.cell 0 _ rfl;have b1:=aA.cell 1 _ rfl;have b2:=aA.cell 2 _ rfl;have aG:=aA.froz 0 (by simp);have aH:=aA.froz 1 (by simp);have aI:=aA.froz 2 (by simp);have bl:=aA.lt;clear aB r6 aA) | (go_at_call 15;refine (X3C _ _).mono ?_;rw [hd];rintro e wz ⟨rfl,aC⟩;rw [aC];clear aC wz))
      refine bodyPost_ret (v:=.agg #[.slice none 0 0,.int .i64 0,.int .i64 0]) (by simp [results,Tryz.results107,go_sem,b0,b1,b2]) rfl ?_;exact ⟨.slice none 0 0,rfl,World.ownsRow_nil _ _ _ _,((HB.out.setCell (by show w.heap.size<=w.heap.size+1;omega) _).setCell (by show w.heap.size<=w.heap.size+1;omega) _).setCell (by show w.heap.size<=w.heap.size+1;omega) _⟩
     ·have g3:IntKind.i64.wrap ((ss.length:Int)-aE)=(ss.length:Int)-aE:=zy4 _ (by omega) (by omega)
      by_cases s1:(ss.length:Int)-aE<size
      ·clear aF
       go_enter Tryz.func107,Tryz.ntmps107
       go_wp2_with (first | (go_at_call 16;refine (HV.out _ (aD _ _)).mono ?_;rw [hok];rintro e w1 ⟨rfl,aB⟩;have r6:=((kR4 w #[.slice a ss.length c,.slice a' ws.length c'] 26 w.heap.size rfl).alloc (.cells #[.slice none 0 0,.int .i64 0,.int .i64 0] 169)).below aB;have aA:=(kR4 (w.alloc (.cells #[.slice a ss.length c,.slice a' ws.length c'] 26)) #[.slice none 0 0,.int .i64 0,.int .i64 0] 169 (w.heap.size+1) (by simp)).below aB;have HB:=hid ((aD (.cells #[.slice a ss.length c,.slice a' ws.length c'] 26) (.cells #[.slice none 0 0,.int .i64 0,.int .i64 0] 169)).trans (aB.mono (by simp<;>omega)));have q0:=r6.cell 0 _ rfl;have ql:=r6.lt;have b0:=aA.cell 0 _ rfl;have b1:=aA.cell 1 _ rfl;have b2:=aA.cell 2 _ rfl;have aG:=aA.froz 0 (by simp);have aH:=aA.froz 1 (by simp);have aI:=aA.froz 2 (by simp);have bl:=aA.lt;clear aB r6 aA) | (go_at_call 15;refine (X3C _ _).mono ?_;rw [hd];rintro e wz ⟨rfl,aC⟩;rw [aC];clear aC wz))
       refine bodyPost_ret (v:=.agg #[.slice none 0 0,.int .i64 0,.int .i64 0]) (by simp [results,Tryz.results107,go_sem,b0,b1,b2]) rfl ?_;exact ⟨.slice none 0 0,rfl,World.ownsRow_nil _ _ _ _,((HB.out.setCell (by show w.heap.size<=w.heap.size+1;omega) _).setCell (by show w.heap.size<=w.heap.size+1;omega) _).setCell (by show w.heap.size<=w.heap.size+1;omega) _⟩
      ·exact absurd ⟨hok,hn,by omega,by omega,by omega,by omega⟩ aF
  ·have hd:decide (1<=n/\n<=8)=false:=decide_eq_false hn
   clear aF;go_enter Tryz.func107,Tryz.ntmps107
   go_wp2_with (first | (go_at_call 16;refine (HV.out _ (aD _ _)).mono ?_;rw [hok];rintro e w1 ⟨rfl,aB⟩;have r6:=((kR4 w #[.slice a ss.length c,.slice a' ws.length c'] 26 w.heap.size rfl).alloc (.cells #[.slice none 0 0,.int .i64 0,.int .i64 0] 169)).below aB;have aA:=(kR4 (w.alloc (.cells #[.slice a ss.length c,.slice a' ws.length c'] 26)) #[.slice none 0 0,.int .i64 0,.int .i64 0] 169 (w.heap.size+1) (by simp)).below aB;have HB:=hid ((aD (.cells #[.slice a ss.length c,.slice a' ws.length c'] 26) (.cells #[.slice none 0 0,.int .i64 0,.int .i64 0] 169)).trans (aB.mono (by simp<;>omega)));have q0:=r6.cell 0 _ rfl;have ql:=r6.lt;have b0:=aA.cell 0 _ rfl;have b1:=aA.cell 1 _ rfl;have b2:=aA.cell 2 _ rfl;have aG:=aA.froz 0 (by simp);have aH:=aA.froz 1 (by simp);have aI:=aA.froz 2 (by simp);have bl:=aA.lt;clear aB r6 aA) | (go_at_call 15;refine (X3C _ _).mono ?_;rw [hd];rintro e wz ⟨rfl,aC⟩;rw [aC];clear aC wz))
   refine bodyPost_ret (v:=.agg #[.slice none 0 0,.int .i64 0,.int .i64 0]) (by simp [results,Tryz.results107,go_sem,b0,b1,b2]) rfl ?_;exact ⟨.slice none 0 0,rfl,World.ownsRow_nil _ _ _ _,((HB.out.setCell (by show w.heap.size<=w.heap.size+1;omega) _).setCell (by show w.heap.size<=w.heap.size+1;omega) _).setCell (by show w.heap.size<=w.heap.size+1;omega) _⟩
theorem kzz (a:Option Addr) (ss:List ByteArray) (c:Nat) (a':Option Addr) (ws:List (Int×ByteArray)) (c':Nat) (aR size first aB n:Int) (w:World) (h:Strs w a ss) (h':Wrs w a' ws) (hl:ss.length<=1048576) (eP:ws.length<=1048576) (hs:∀ s∈ss,s.size<=1048576) (cU:∀ x∈ws,x.2.size<=1048576) (bJ:kAT ss ws aR size n) :
  Calls Tryz.prog 107 #[Zoj a ss.length c a' ws.length c',.int .i64 aR,.int .i64 size,.int .i64 first,.int .i64 aB,.int .i64 n] w fun e w'=>xPk w w' e (scD ss ws aR size first aB n):=by
 have cK:∀ o1 o2,Below w.heap.size w ((w.alloc o1).alloc o2):=fun o1 o2=>((Below.refl _ _).alloc (Nat.le_refl _) _).alloc (by simp) _
 have bI:scD ss ws aR size first aB n=vb3 (fun k=>(syncs ws ss).getD k ByteArray.empty) aR.toNat first n size.toNat 0 0 aB ByteArray.empty ([],0,aB):=by unfold scD;rw [if_pos bJ]
 rw [bI];clear bI;obtain ⟨dM,hn,f0,s0,f1,s1⟩:=bJ;obtain ⟨fm,rfl⟩:∃ k:Nat,aR=(k:Int):=⟨aR.toNat,by omega⟩;obtain ⟨N,rfl⟩:∃ k:Nat,size=(k:Int):=⟨size.toNat,by omega⟩;simp only [Int.toNat_natCast];have hd:decide (1<=n/\n<=8)=true:=decide_eq_true hn;obtain ⟨⟨fC,dJ,dK⟩,eI,hw⟩:=q67 dM;obtain ⟨i0,dH,dQ,dR,dU⟩:=XJQ vB4;have HI:=hid (And.intro dH (And.intro dQ (And.intro dR dU)));clear dH dQ dR dU;have g0:¬ ((fm:Int)<0):=by omega
 have g1:¬ ((N:Int)<0):=by omega
 have g2:¬ ((ss.length:Int)<(fm:Int)):=by omega
 have g3:IntKind.i64.wrap ((ss.length:Int)-(fm:Int))=(ss.length:Int)-(fm:Int):=zy4 _ (by omega) (by omega);have g4:¬ ((ss.length:Int)-(fm:Int)<(N:Int)):=by omega
 obtain ⟨SF,aH⟩:∃ SF:Nat->ByteArray,SF=fun k=>(syncs ws ss).getD k ByteArray.empty:=⟨_,rfl⟩
 have eC:Hid (∀ k,(SF k).size<=1048576):=fun k=>by rw [aH];exact jRu ws ss hs cU k
 rw [<-aH]
 obtain ⟨aG,aZ⟩:∃ aG,Hid (aG=vb3 SF fm first n N 0 0 aB ByteArray.empty ([],0,aB)):=⟨_,hid rfl⟩
 rw [<-aZ.out];go_enter Tryz.func107,Tryz.ntmps107;go_wp2_with fail;refine (xpE a ss c a' ws c' _ (h.below (cK _ _)) (h'.below (cK _ _)) hl eP hs cU).mono ?_;rw [dM];rintro e w1 ⟨rfl,bV⟩;have r6:=(kR4 w #[.slice a ss.length c,.slice a' ws.length c'] 26 w.heap.size rfl).alloc (.cells #[.slice none 0 0,.int .i64 0,.int .i64 0] 169);have aK:=kR4 (w.alloc (.cells #[.slice a ss.length c,.slice a' ws.length c'] 26)) #[.slice none 0 0,.int .i64 0,.int .i64 0] 169 (w.heap.size+1) (by simp);have r6:=r6.below bV;have aK:=aK.below bV;have aY:=(cK (.cells #[.slice a ss.length c,.slice a' ws.length c'] 26) (.cells #[.slice none 0 0,.int .i64 0,.int .i64 0] 169)).trans (bV.mono (by simp<;>omega));have q0:=r6.cell 0 _ rfl;have q1:=r6.cell 1 _ rfl;have fT:=aK.lt;clear bV
 go_wp2_with (first | (go_at_call 15;refine (X3C _ _).mono ?_;rw [hd];rintro e wz ⟨rfl,dO⟩;rw [dO];clear dO wz))
 refine (copy_s a ss c a' ws c' _ (h.below aY) (h'.below aY) dJ dK).mono ?_;rintro e w2 ⟨g,c1,g',eD,rfl,b7,hg,eK,bW⟩;have aU:ss.length≠0:=by omega
 have eX:w1.heap.size<=g:=hg g (by unfold blk;rw [if_neg aU];rfl)
 have dN:Row w2 g (ss.map Value.string):=by
  rcases b7.s with e | ⟨b,e,hr⟩
  ·exact absurd (congrArg List.length e) (by rw [List.length_map,List.length_nil];omega)
  ·cases e;exact hr
 have dL:yaV ws≠[]->g'≠g:=fun hc=>by
  have hl:ws.length≠0:=fun e=>hc (by rw [List.eq_nil_of_length_eq_zero e];rfl)
  rcases b7.ne with e | e | e
  ·unfold blk at e;rw [if_neg aU] at e;exact absurd e (by simp)
  ·unfold blk at e;rw [if_neg hl] at e;exact absurd e (by simp)
  ·unfold blk at e;rw [if_neg aU,if_neg hl] at e;exact fun e2=>e (by rw [e2])
 have HY:=hid (sync_s g g' ss c1 ws eD w2 dN b7.p dL dJ dK (fun x hx=>by have:=of_decide_eq_true (hw x hx);omega));have cE:=aY.trans (bW.mono aY.size);have aK:=aK.below bW;have fS:=bW.size;clear q0 q1 b7 hg eK bW dN dL r6;go_wp2_with fail;refine HY.out.mono ?_;rintro e w3 ⟨x,rfl,fJ,fO,b8,cM⟩;have cF:=cE.trans (jJX cM cE.size (fun k hk=>by cases hk;have:=aY.size;omega));have aK:=aK.grown cM (fun e=>by injection e with e;omega);have eL:g<w3.heap.size:=b8.lt;have cT:((syncs ws ss).map Value.string).length=ss.length:=by rw [List.length_map,syncs_length]
 have cW:Hid (∀ k,k<ss.length->((syncs ws ss).map Value.string)[k]?=some (.string (SF k))):=fun k hk=>by
  rw [aH];simp [List.getD,syncs_length,hk]
 obtain ⟨SV,bG⟩:∃ SV,SV=(syncs ws ss).map Value.string:=⟨_,rfl⟩;rw [<-bG] at b8 cT cW;clear bG HY aH cM h h' hs cU eI hw
 have D0:ScB w (((w3.alloc (.cells #[.slice (some ⟨g,0,none⟩) ss.length c1,.slice (some ⟨x,0,none⟩) 0 0] 26)).alloc (.cells #[.slice none 0 0,.int .i64 0,.int .i64 aB] 169)).alloc (.cells #[.int .i64 0,.int .i64 aB,.int .i64 0,.string ⟨#[]⟩] 41)) (w.heap.size+1) g w3.heap.size (w3.heap.size+1) (w3.heap.size+1+1) SV c1 (.slice (some ⟨x,0,none⟩) 0 0) (.slice none 0 0) [] 0 aB 0 aB 0 ⟨#[]⟩:=by
  refine ⟨((aK.alloc _).alloc _).alloc _,((b8.alloc _).alloc _).alloc _,?_,?_,?_,World.ownsRow_nil _ _ _ _,by omega,by omega,by omega,by omega,by omega,fun k hk=>(by cases hk),?_⟩
  ·rw [cT]
   exact ((xER _ _ _).alloc _).alloc _
  ·exact (kR4 _ _ _ _ (by simp)).alloc _
  ·exact kR4 _ _ _ _ (by simp)
  ·have b1:=cF.alloc cF.size (.cells #[.slice (some ⟨g,0,none⟩) ss.length c1,.slice (some ⟨x,0,none⟩) 0 0] 26)
   have b2:=b1.alloc b1.size (.cells #[.slice none 0 0,.int .i64 0,.int .i64 aB] 169);exact b2.alloc b2.size _
 clear aK b8 cF cE aY;go_wp2
 go_loopw [16,17] (fun ov iv wr=>∃ (i:Nat) (op:ByteArray) (wk wl wm:Int) (wp:ByteArray) (out:Scd) (Y:Value) (W:World),W=wr/\ov=.string op/\iv=.int .i64 (i:Int)/\i<=N/\op.size<=64*i/\out.1.length<=i/\Hid (vb3 SF fm first n (N-i) i wk wl op out=aG)/\ScB w W (w.heap.size+1) g w3.heap.size (w3.heap.size+1) (w3.heap.size+1+1) SV c1 (.slice (some ⟨x,0,none⟩) 0 0) Y out.1 out.2.1 out.2.2 wk wl wm wp) (fun _ iv _=>((N:Int)-intOf iv).toNat)
 case atStart=>exact ⟨0,⟨#[]⟩,0,aB,0,⟨#[]⟩,([],0,aB),_,_,rfl,rfl,rfl,Nat.zero_le _,by decide,Nat.le_refl _,by show _=_;rw [aZ.out];rfl,D0⟩
 case round =>
  obtain ⟨i,op,wk,wl,wm,wp,out,y,wr,rfl,rfl,rfl,eY,fG,fF,aQ,D⟩:=hrel;clear D0
  obtain ⟨ya,yc,rfl⟩:∃ ya yc,y=.slice ya out.1.length yc:=by
   rcases yUO D.own with ⟨h1,h2⟩ | ⟨gg,cap,h1,_⟩
   ·exact ⟨none,0,by rw [h1,h2]⟩
   ·exact ⟨_,cap,h1⟩
  by_cases fA:i<N
  ·have cQ:(i:Int)<(N:Int):=by omega
   have eJ:IntKind.i64.wrap ((fm:Int)+(i:Int))=((fm+i:Nat):Int):=by rw [zy4 _ (by omega) (by omega)];omega
   have eM:fm+i<ss.length:=by omega
   have eN:((fm+i:Nat):Int)<(ss.length:Int):=by omega
   have eF:=D.xb.cell 0 _ rfl;rw [cT] at eF;have cs:=D.sec.cell (fm+i) _ (cW.out (fm+i) eM);have lx:=D.xb.lt;have ls:=D.sec.lt;have fI:IntKind.i64.wrap ((i:Int)+1)=(i:Int)+1:=zy4 _ (by omega) (by omega);have aM:=hid (fun wx=>kfv (SF (fm+i)) n wx (eC.out _))
   cases hR:Jvc (SF (fm+i)) n with
   | none =>
    rw [hR] at aM;simp only [rpV] at aM;have HF:Hid (aG=out):=by show _=_;rw [<-aQ.out];exact kWh hR
    go_wp2_with fail;refine (aM.out _).mono ?_;rintro e w5 ⟨rfl,aS⟩;have D5:=D.below aS;have D6:=D5.below (zE5 w5 (.cells #[.int .i64 0,.int .i64 0,.int .i64 0,.string ⟨#[]⟩] 41));obtain ⟨o0,o1,o2⟩:=D6.ot.k3;obtain ⟨b0,b1,b2⟩:=D6.rb.k3;obtain ⟨cH,cI,cJ⟩:=D6.rb.z3;have ol:=D6.ot.lt;have bl:=D6.rb.lt;have aC:=hid D6;have aV:¬ (w.heap.size+1=w3.heap.size+1):=by have:=D6.o2;have:=D6.o3;omega
    go_wp2;refine bodyPost_ret (v:=.agg #[.slice ya out.1.length yc,.int .i64 out.2.1,.int .i64 out.2.2]) (by simp [results,Tryz.results107,go_sem,b0,b1,b2]) rfl ?_;rw [HF.out];have aD:=aC.out.own_ne (k:=w.heap.size+1) (by have:=aC.out.o2;have:=aC.out.o3;omega);exact ⟨_,rfl,ownsRow_setCell_other (ownsRow_setCell_other (ownsRow_setCell_other aC.out.own aD _) aD _) aD _,((aC.out.be.setCell (by show w.heap.size<=w.heap.size+1;omega) _).setCell (by show w.heap.size<=w.heap.size+1;omega) _).setCell (by show w.heap.size<=w.heap.size+1;omega) _⟩
   | some xr =>
    obtain ⟨k,l,m,p⟩:=xr;obtain ⟨_,_,m0,m1,l0,l1,fH⟩:=v5k hR;rw [hR] at aM;simp only [rpV] at aM;have cS:IntKind.i64.wrap (m-(i:Int))=m-(i:Int):=zy4 _ (by omega) (by omega);have bU:=hid (fun wx=>vbI wk wl wm wp k l m p wx)
    by_cases aI:m-(i:Int)=first
    ·cases hgo:yoh wk wl k l with
     | false =>
      rw [hgo] at bU;have HF:Hid (aG=out):=by show _=_;rw [<-aQ.out];exact ZgQ hR (by rw [hgo];simp)
      go_wp2_with fail;refine (aM.out _).mono ?_;rintro e w5 ⟨rfl,aS⟩;have D5:=D.below aS;have D6:=D5.below (zE5 w5 (.cells #[.int .i64 k,.int .i64 l,.int .i64 m,.string p] 41));have rP:=kR4 w5 #[.int .i64 k,.int .i64 l,.int .i64 m,.string p] 41 w5.heap.size rfl;obtain ⟨x0,x1,x2,x3⟩:=rP.k4;have xl:=rP.lt;obtain ⟨v0,v1,v2,v3⟩:=D6.ws.k4;have vl:=D6.ws.lt
      go_wp2_with (first | (go_at_call 114;refine (bU.out _).mono ?_;rintro e w7 ⟨rfl,aT⟩;have D7:=D6.below aT;have aP:=rP.below aT;clear aT x0 x1 x2 x3 xl v0 v1 v2 v3 vl D6 rP;have o0:=D7.ot.cell 0 _ rfl;have b0:=D7.rb.cell 0 _ rfl;have cH:=D7.rb.froz 0 (by simp);have o1:=D7.ot.cell 1 _ rfl;have b1:=D7.rb.cell 1 _ rfl;have cI:=D7.rb.froz 1 (by simp);have o2:=D7.ot.cell 2 _ rfl;have b2:=D7.rb.cell 2 _ rfl;have cJ:=D7.rb.froz 2 (by simp);have ol:=D7.ot.lt;have bl:=D7.rb.lt;have aC:=hid D7;have aV:¬ (w.heap.size+1=w3.heap.size+1):=(by have:=D7.o2;have:=D7.o3;omega);clear D7))
      refine bodyPost_ret (v:=.agg #[.slice ya out.1.length yc,.int .i64 out.2.1,.int .i64 out.2.2]) (by simp [results,Tryz.results107,go_sem,b0,b1,b2]) rfl ?_;rw [HF.out];have aD:=aC.out.own_ne (k:=w.heap.size+1) (by have:=aC.out.o2;have:=aC.out.o3;omega);exact ⟨_,rfl,ownsRow_setCell_other (ownsRow_setCell_other (ownsRow_setCell_other aC.out.own aD _) aD _) aD _,((aC.out.be.setCell (by show w.heap.size<=w.heap.size+1;omega) _).setCell (by show w.heap.size<=w.heap.size+1;omega) _).setCell (by show w.heap.size<=w.heap.size+1;omega) _⟩
     | true =>
      rw [hgo] at bU;go_wp2_with fail;refine (aM.out _).mono ?_;rintro e w5 ⟨rfl,aS⟩;have D5:=D.below aS;have D6:=D5.below (zE5 w5 (.cells #[.int .i64 k,.int .i64 l,.int .i64 m,.string p] 41));have rP:=kR4 w5 #[.int .i64 k,.int .i64 l,.int .i64 m,.string p] 41 w5.heap.size rfl;obtain ⟨x0,x1,x2,x3⟩:=rP.k4;have xl:=rP.lt;obtain ⟨v0,v1,v2,v3⟩:=D6.ws.k4;have vl:=D6.ws.lt
      go_upto_region 14 with (first | (go_at_call 114;refine (bU.out _).mono ?_;rintro e w7 ⟨rfl,aT⟩;have D7:=D6.below aT;have aP:=rP.below aT;clear aT x0 x1 x2 x3 xl v0 v1 v2 v3 vl D6 rP;have bZ:¬ (w3.heap.size+1+1=w5.heap.size):=(by have:=D5.ws.lt;omega);have p0:=aP.cell 0 _ rfl;have p1:=aP.cell 1 _ rfl;have p2:=aP.cell 2 _ rfl;have p3:=aP.cell 3 _ rfl;have pl:=aP.lt;have s0:=D7.ws.cell 0 _ rfl;have s1:=D7.ws.cell 1 _ rfl;have s2:=D7.ws.cell 2 _ rfl;have s3:=D7.ws.cell 3 _ rfl;have eT:=D7.ws.froz 0 (by simp);have eU:=D7.ws.froz 1 (by simp);have eV:=D7.ws.froz 2 (by simp);have eW:=D7.ws.froz 3 (by simp);have sl:=D7.ws.lt))
      have D8:=D7.setWas k l m p;have aW:=(((aP.other ⟨w3.heap.size+1+1,0,none⟩ bZ (.int .i64 k)).other ⟨w3.heap.size+1+1,1,none⟩ bZ (.int .i64 l)).other ⟨w3.heap.size+1+1,2,none⟩ bZ (.int .i64 m)).other ⟨w3.heap.size+1+1,3,none⟩ bZ (.string p);obtain ⟨w8,bH⟩:∃ z,z=((((w7.setCell ⟨w3.heap.size+1+1,0,none⟩ (.int .i64 k)).setCell ⟨w3.heap.size+1+1,1,none⟩ (.int .i64 l)).setCell ⟨w3.heap.size+1+1,2,none⟩ (.int .i64 m)).setCell ⟨w3.heap.size+1+1,3,none⟩ (.string p)):=⟨_,rfl⟩;rw [<-bH] at D8 aW ⊢;clear bH D7 aP p0 p1 p2 p3 pl s0 s1 s2 s3 eT eU eV eW sl;have p0:=aW.cell 0 _ rfl;have p1:=aW.cell 1 _ rfl;have p3:=aW.cell 3 _ rfl;have pl:=aW.lt;have z1:¬ (9223372036854775807<op.size+p.size):=by omega
      by_cases cN:k=1
      ·subst cN
       have bC:Hid (vb3 SF fm first n (N-(i+1)) (i+1) 1 l (op++p) out=aG):=by
        show _=_;rw [<-aQ.out];have e1:N-i=(N-(i+1))+1:=by omega
        rw [e1];exact (ZDW hR (by rw [cS];exact aI) hgo).symm
       go_wp2;exact ⟨⟨i+1,op++p,1,l,m,p,out,_,_,rfl,rfl,by simp,by omega,(by rw [ByteArray.size_append];omega),by omega,bC.out,D8⟩,by simp [intOf];omega⟩
      ·have eZ:(k == 1)=false:=by simp [cN]
       have dE:=hid (fun e1=>JRt (first:=first) (f:=N-(i+1)) (op:=op) (out:=out) hR (by rw [cS];exact aI) hgo e1);have e1:N-i=(N-(i+1))+1:=by omega
       have o1:=D8.ot.cell 1 _ rfl;have o2:=D8.ot.cell 2 _ rfl;have dV:=D8.ot.froz 1 (by simp);have dY:=D8.ot.froz 2 (by simp);have ol:=D8.ot.lt;have eQ:¬ (w3.heap.size+1=w5.heap.size):=by have:=D5.ot.lt;omega
       have eR:¬ (w5.heap.size=w3.heap.size+1):=by have:=D5.ot.lt;omega
       by_cases cO:k=2
       ·subst cO
        have bC:Hid (vb3 SF fm first n (N-(i+1)) (i+1) 2 l ByteArray.empty (out.1++[op++p],(i:Int)+1,l)=aG):=by
         show _=_;rw [<-aQ.out,e1];exact (dE.out (by omega)).symm
        have o0:=D8.ot.cell 0 _ rfl;have eS:=D8.ot.froz 0 (by simp);have D9:=D8.below (zE5 w8 (.cells #[.string (op++p)] 9));have dZ:=aW.alloc (.cells #[.string (op++p)] 9);have cY:=hid D9.own;have fQ:=D8.be.size;have fB:(out.1.map Value.string).length=out.1.length:=List.length_map _;have aX:=hid D9;have cZ:=hid dZ;clear D9 dZ
        go_upto_region 18 with (first | (at_builtin;refine WAL _ rfl _ _ 23 rfl w.heap.size Tryz.underlying23 HI.out rfl (by omega) _ out.1.length _ rfl cY.out ⟨w8.heap.size,0,none⟩ 1 1 [.string (op++p)] rfl rfl (vtr _ _ _) (Z75 _) (by simp;omega) (w8.heap.size+1) (by simp) ?_;intro gn cap eB aE aA aO dI;have aF:eB.ownsRow w.heap.size 9 1 (.slice (some ⟨gn,0,none⟩) (out.1.length+1) cap) (out.1++[op++p]).length ((out.1++[op++p]).map Value.string):=(by rw [List.length_append,List.map_append];exact aE);have cV:=hid (aX.out.push (ents':=out.1++[op++p]) aF aA (aO.elim (fun e=>.inl e) (fun e=>.inr (congrArg some e))) (by simp));have c10:=aX.out.own_ne (k:=w3.heap.size+1) (by omega);have eG:=fun i=>(World.cell?_of_block (a:=⟨w3.heap.size+1,i,none⟩) (aA.block (w3.heap.size+1) (by simp;omega) (fun e=>c10 e.symm)));have bQ:=hid (cZ.out.grown aA (fun e=>by have:=(D5.own.lt _ e.symm).2;omega));have bY:=aX.out.ot.grown aA (fun e=>c10 e.symm);have eH:=bY.cell 0 _ rfl;have cL:=bY.froz 0 (by simp);have cP:=bY.lt;clear aE aA aO aF))
        have aL:=cV.out;have aJ:=bQ.out.other ⟨w3.heap.size+1,0,none⟩ eQ (.slice (some ⟨gn,0,none⟩) (out.1.length+1) cap);obtain ⟨fU,aN⟩:∃ z,z=eB.setCell ⟨w3.heap.size+1,0,none⟩ (.slice (some ⟨gn,0,none⟩) (out.1.length+1) cap):=⟨_,rfl⟩;rw [<-aN] at aL aJ ⊢;clear aN cV bQ aX cZ cY eH cL cP bY eG c10 o0 eS o1 o2 dV dY ol p0 p1 p3 pl D8 aW;have o1:=aL.ot.cell 1 _ rfl;have o2:=aL.ot.cell 2 _ rfl;have dV:=aL.ot.froz 1 (by simp);have dY:=aL.ot.froz 2 (by simp);have ol:=aL.ot.lt;have p1:=aJ.cell 1 _ rfl;have pl:=aJ.lt;have cC:=hid (aL.setEnd ((i:Int)+1) l);clear aL aJ;go_wp2;exact ⟨⟨i+1,⟨#[]⟩,2,l,m,p,(out.1++[op++p],(i:Int)+1,l),_,_,rfl,rfl,by simp,by omega,by show 0<=_;omega,by show (out.1++[op++p]).length<=_;simp;omega,bC.out,cC.out⟩,by simp [intOf];omega⟩
       ·have eO:(k == 2)=false:=by simp [cO]
        have bC:Hid (vb3 SF fm first n (N-(i+1)) (i+1) k l ByteArray.empty (out.1,(i:Int)+1,l)=aG):=by
         show _=_;rw [<-aQ.out,e1];have:=(dE.out cN).symm;rw [if_neg cO] at this;exact this
        have D9:=D8.setEnd ((i:Int)+1) l;have aX:=hid D9;clear D9;go_wp2;exact ⟨⟨i+1,⟨#[]⟩,k,l,m,p,(out.1,(i:Int)+1,l),_,_,rfl,rfl,by simp,by omega,by show 0<=_;omega,by show out.1.length<=_;omega,bC.out,aX.out⟩,by simp [intOf];omega⟩
    ·have HF:Hid (aG=out):=by show _=_;rw [<-aQ.out];exact ZgQ hR (by rw [cS];exact fun h=>aI h.1)
     have fE:(m-(i:Int) == first)=false:=by simp [aI]
     go_wp2_with fail;refine (aM.out _).mono ?_;rintro e w5 ⟨rfl,aS⟩;have D5:=D.below aS;have D6:=D5.below (zE5 w5 (.cells #[.int .i64 k,.int .i64 l,.int .i64 m,.string p] 41));have rP:=kR4 w5 #[.int .i64 k,.int .i64 l,.int .i64 m,.string p] 41 w5.heap.size rfl;have x2:=rP.cell 2 _ rfl;have xl:=rP.lt;obtain ⟨o0,o1,o2⟩:=D6.ot.k3;obtain ⟨b0,b1,b2⟩:=D6.rb.k3;obtain ⟨cH,cI,cJ⟩:=D6.rb.z3;have ol:=D6.ot.lt;have bl:=D6.rb.lt;have aC:=hid D6;have aV:¬ (w.heap.size+1=w3.heap.size+1):=by have:=D6.o2;have:=D6.o3;omega
     go_wp2;refine bodyPost_ret (v:=.agg #[.slice ya out.1.length yc,.int .i64 out.2.1,.int .i64 out.2.2]) (by simp [results,Tryz.results107,go_sem,b0,b1,b2]) rfl ?_;rw [HF.out];have aD:=aC.out.own_ne (k:=w.heap.size+1) (by have:=aC.out.o2;have:=aC.out.o3;omega);exact ⟨_,rfl,ownsRow_setCell_other (ownsRow_setCell_other (ownsRow_setCell_other aC.out.own aD _) aD _) aD _,((aC.out.be.setCell (by show w.heap.size<=w.heap.size+1;omega) _).setCell (by show w.heap.size<=w.heap.size+1;omega) _).setCell (by show w.heap.size<=w.heap.size+1;omega) _⟩
  ·have HF:Hid (aG=out):=by
    show _=_;rw [<-aQ.out];have:N-i=0:=by omega
    rw [this];rfl
   have cQ:¬ ((i:Int)<(N:Int)):=by omega
   obtain ⟨o0,o1,o2⟩:=D.ot.k3;obtain ⟨b0,b1,b2⟩:=D.rb.k3;obtain ⟨cH,cI,cJ⟩:=D.rb.z3;have ol:=D.ot.lt;have bl:=D.rb.lt;have aC:=hid D;have aV:¬ (w.heap.size+1=w3.heap.size+1):=by have:=D.o2;have:=D.o3;omega
   go_wp2;refine bodyPost_ret (v:=.agg #[.slice ya out.1.length yc,.int .i64 out.2.1,.int .i64 out.2.2]) (by simp [results,Tryz.results107,go_sem,b0,b1,b2]) rfl ?_;rw [HF.out];have aD:=aC.out.own_ne (k:=w.heap.size+1) (by have:=aC.out.o2;have:=aC.out.o3;omega);exact ⟨_,rfl,ownsRow_setCell_other (ownsRow_setCell_other (ownsRow_setCell_other aC.out.own aD _) aD _) aD _,((aC.out.be.setCell (by show w.heap.size<=w.heap.size+1;omega) _).setCell (by show w.heap.size<=w.heap.size+1;omega) _).setCell (by show w.heap.size<=w.heap.size+1;omega) _⟩
theorem zlM (a:Option Addr) (ss:List ByteArray) (c:Nat) (a':Option Addr) (ws:List (Int×ByteArray)) (c':Nat) (aC size first aA n:Int) (w:World) (h:Strs w a ss) (h':Wrs w a' ws) (hl:ss.length<=1048576) (aD:ws.length<=1048576) (hs:∀ s∈ss,s.size<=1048576) (aE:∀ x∈ws,x.2.size<=1048576) :
  Calls Tryz.prog 107 #[Zoj a ss.length c a' ws.length c',.int .i64 aC,.int .i64 size,.int .i64 first,.int .i64 aA,.int .i64 n] w fun e w'=>xPk w w' e (scD ss ws aC size first aA n):=by
 by_cases aB:kAT ss ws aC size n
 ·exact kzz a ss c a' ws c' aC size first aA n w h h' hl aD hs aE aB
 ·rw [zd8 ss ws aC size first aA n aB]
  exact xjg a ss c a' ws c' aC size first aA n w h h' hl aD hs aE aB
@[reducible] def scV (a:Option Addr) (n c:Nat) (u l:Int):Value:=.agg #[.slice a n c,.int .i64 u,.int .i64 l]
theorem kFv {w w':World} {e:Ending} {x:Scd} (h:xPk w w' e x):∃ a c,e=.returned (scV a x.1.length c x.2.1 x.2.2)/\OwnS w' a (x.1.map Value.string)/\(∀ g,blk a x.1.length=some g->w.heap.size<=g)/\Below w.heap.size w w':=by
 obtain ⟨y,rfl,ho,hb⟩:=h;rcases yUO ho with ⟨e1,e2⟩ | ⟨g,cap,e1,h1,h2,hr⟩
 ·subst e1
  have:x.1=[]:=List.eq_nil_of_length_eq_zero e2;exact ⟨none,0,by rw [e2],.inl (by rw [this];rfl),fun g hg=>(by rw [e2] at hg;cases hg),hb⟩
 ·subst e1
  refine ⟨_,cap,rfl,.inr ⟨g,rfl,hr⟩,fun g' hg=>?_,hb⟩;have:=k8j hg;omega
end Go.Proofs.YtehbpeinnepdcaaGreatDoor
