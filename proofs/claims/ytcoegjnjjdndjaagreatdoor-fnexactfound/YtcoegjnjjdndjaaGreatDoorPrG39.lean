import Derived.Shelf.Small.Strs
import Derived.Test.YtcoegjnjjdndjaaGreatDoorProg
import Derived.Sort.Walk0
import Derived.WalkKit
import Derived.WalkSpells
import Derived.WalkLawsBesides
import Derived.Outline
import Derived.Test.YtcoegjnjjdndjaaGreatDoorPrG44
import Derived.Test.YtcoegjnjjdndjaaGreatDoorPrVS
import Derived.Test.YtcoegjnjjdndjaaGreatDoorPrG32
import Derived.ChangeKeysEq
import Derived.Laws.BytesArg
import Derived.Laws.IdiomStrings
import Derived.Test.YtcoegjnjjdndjaaGreatDoorPrG49
import Derived.SliceStrings
import Derived.Deep.SlicePairs
import Derived.ProofKit
import Derived.ChangeOld
import Derived.Deep.Slices
import Derived.Lib.SmallJoins
set_option maxHeartbeats 16000000
set_option maxRecDepth 8000
set_option linter.unusedVariables false
set_option linter.unusedSimpArgs false
namespace Go.Proofs.YtcoegjnjjdndjaaGreatDoor
open Go.Shelf
def cRen:Go.Shelf.Ren:=⟨fun | 106=>206 | 213=>208 | 265=>209 | n=>n,fun | 9=>9 | 3=>3 | n=>n,fun | n=>n⟩
theorem cLays106:Go.Proofs.Lays.n106 Tryz.prog cRen:={
 mixed:=by kernel_rfl
 f106:=Tryz.func206.trans (congrArg some (by kernel_rfl))
 f213:=Tryz.func208.trans (congrArg some (by kernel_rfl))
 f265:=Tryz.func209.trans (congrArg some (by kernel_rfl))
 t3:=Tryz.underlying3
 a3:=Tryz.isAgg3
 z3:=Tryz.sizeOf3
 v3:=Tryz.zeroValue3
 t9:=Tryz.underlying9
 a9:=Tryz.isAgg9
 z9:=Tryz.sizeOf9
 v9:=Tryz.zeroValue9 }
def cmpB (a b:ByteArray):Int:=Lib.compareBytes a.data.toList b.data.toList
open Go.RowKit in
theorem compare_i (a b:ByteArray) (w:World):Calls Tryz.prog 206 #[.string a,.string b] w fun e w'=>e=.returned (.int .i64 (cmpB a b))/\w'=w:=Any.strings_Compare cLays106 a b w
end Go.Proofs.YtcoegjnjjdndjaaGreatDoor
namespace Go.Proofs.YtcoegjnjjdndjaaGreatDoor
open Go.RowKit Go.Sort
theorem u8_tri (a b:UInt8) (h1:¬ a<b) (h2:¬ b<a):a=b:=by
 apply UInt8.toNat_inj.1
 rw [UInt8.lt_iff_toNat_lt] at h1 h2
 omega
theorem cb_lt:∀ (x y:List UInt8),Lib.compareBytes x y<0<->x<y
 | [],[]=>by simp [Lib.compareBytes]
 | [],b::l2=>by simp [Lib.compareBytes]
 | a::l,[]=>by simp [Lib.compareBytes]
 | a::l,b::l2=>by
  rw [List.cons_lt_cons_iff]
  unfold Lib.compareBytes
  split
  ·rename_i h;simp [h]
  ·rename_i h
   split
   ·rename_i h2
    have hne:¬ a=b:=fun e=>by subst e;exact h h2
    simp [h,hne]
   ·rename_i h2
    have e:=u8_tri a b h h2
    subst e
    rw [cb_lt l l2]
    simp [h]
theorem cb_zero:∀ (x y:List UInt8),Lib.compareBytes x y=0<->x=y
 | [],[]=>by simp [Lib.compareBytes]
 | [],b::l2=>by simp [Lib.compareBytes]
 | a::l,[]=>by simp [Lib.compareBytes]
 | a::l,b::l2=>by
  unfold Lib.compareBytes
  split
  ·rename_i h
   have hne:¬ a=b:=fun e=>by subst e;rw [UInt8.lt_iff_toNat_lt] at h;omega
   simp [hne]
  ·rename_i h
   split
   ·rename_i h2
    have hne:¬ a=b:=fun e=>by subst e;exact h h2
    simp [hne]
   ·rename_i h2
    have e:=u8_tri a b h h2
    subst e
    rw [cb_zero l l2]
    simp
theorem cmpB_lt (a b:ByteArray):cmpB a b<0<->Op.bytesLess a.toList b.toList=true:=by
 unfold cmpB
 rw [cb_lt,bytesLess_eq,decide_eq_true_eq,ByteArray.toList_eq,ByteArray.toList_eq]
theorem cmpB_zero (a b:ByteArray):cmpB a b=0<->a=b:=by
 unfold cmpB
 rw [cb_zero]
 constructor
 ·intro h;exact ByteArray.ext (Array.ext' h)
 ·intro h;rw [h]
theorem cmp_i (k v key:ByteArray) (w:World):Calls Tryz.prog 205 #[.agg #[.string k,.string v],.string key] w fun e w'=>e=.returned (.int .i64 (cmpB k key))/\Below w.heap.size w w':=by
 go_enter Tryz.func205,Tryz.ntmps205
 go_wp2_with (go_at_call 206;refine (compare_i k key _).mono ?_;rintro e w2 ⟨rfl,rfl⟩)
 go_ret
 exact ⟨rfl,(Below.refl _ _).alloc (Nat.le_refl _) _⟩
def kAt (rs:List (ByteArray×ByteArray)) (t:Nat):ByteArray:=(rs.getD t (ByteArray.empty,ByteArray.empty)).1
set_option maxHeartbeats 16000000 in
theorem bs_i (a:Option Addr) (rs:List (ByteArray×ByteArray)) (c:Nat) (key:ByteArray) (w:World) (h:Prs w a rs) (hl:rs.length<=1048576) (hmono:Hid (∀ t m,t<=m->m<rs.length->cmpB (kAt rs m) key<0->cmpB (kAt rs t) key<0)) :
  Calls Tryz.prog 204 #[.slice a rs.length c,.string key,.func (.func 205) #[] #[]] w fun e w' =>
   ∃ p:Nat,p<=rs.length/\(∀ t,t<p->cmpB (kAt rs t) key<0)/\(∀ t,p<=t->t<rs.length->0<=cmpB (kAt rs t) key)/\e=.returned (.tuple #[.int .i64 (p:Int),.bool (decide (p<rs.length/\cmpB (kAt rs p) key=0))])/\Below w.heap.size w w':=by
 go_enter Tryz.func204,Tryz.ntmps204
 go_wp2_with fail
 go_loopw [9,10,11] (fun i j _ wr=>∃ p q:Nat,p<=q/\q<=rs.length/\i=.int .i64 (p:Int)/\j=.int .i64 (q:Int)/\Hid (∀ t,t<p->cmpB (kAt rs t) key<0)/\Hid (∀ t,q<=t->t<rs.length->0<=cmpB (kAt rs t) key)/\Below w.heap.size w wr) (fun i j _ _=>(intOf j).toNat-(intOf i).toNat)
 case atStart=>exact ⟨0,rs.length,Nat.zero_le _,Nat.le_refl _,rfl,rfl,fun t ht=>by omega,fun t h1 h2=>by omega,Below.refl _ _⟩
 case round =>
  obtain ⟨p,q,hpq,hq,rfl,rfl,HA,HZ,hbel⟩:=hrel
  by_cases hlt:p<q
  ·obtain ⟨m,hm⟩:∃ m:Nat,m=(p+q) / 2:=⟨_,rfl⟩
   have hm1:p<=m:=by omega
   have hm2:m<q:=by omega
   have hmi:((p:Int)+(q:Int)) / 2=(m:Int):=by omega
   obtain ⟨b,o,s0,s1,rfl,hc0,hc1,HS⟩:=(h.below hbel).at (show m<rs.length by omega)
   have HK:Hid (s0=kAt rs m):=by show _=_;unfold kAt;rw [<-HS.out]
   have hlt':(p:Int)<(q:Int):=by omega
   obtain ⟨C,HC⟩:∃ C,Hid (C=cmpB s0 key):=⟨_,hid rfl⟩
   clear hm
   have HZZ:=HZ
   have HAA:=HA
   clear HZ HA
   by_cases hC:C<0
   ·go_wp2_with (go_at_call 205;refine (cmp_i s0 s1 key _).mono ?_;rw [<-HC.out];rintro e w2 ⟨rfl,hb2⟩)
    refine ⟨⟨m+1,q,by omega,hq,by go_num,rfl,fun t ht=>?_,HZZ.out,hbel.trans (hb2.mono hbel.size)⟩,by simp [intOf];omega⟩
    exact hmono.out t m (by omega) (by omega) (by rw [<-HK.out,<-HC.out];exact hC)
   ·go_wp2_with (go_at_call 205;refine (cmp_i s0 s1 key _).mono ?_;rw [<-HC.out];rintro e w2 ⟨rfl,hb2⟩)
    refine ⟨⟨p,m,by omega,by omega,rfl,rfl,HAA.out,fun t h1 h2=>Int.not_lt.1 (fun h3=>?_),hbel.trans (hb2.mono hbel.size)⟩,by simp [intOf];omega⟩
    have:=hmono.out m t h1 h2 h3
    rw [<-HK.out,<-HC.out] at this
    omega
  ·have hpq':p=q:=by omega
   subst hpq'
   have HZZ:=HZ
   have HAA:=HA
   clear HZ HA
   by_cases hpn:p<rs.length
   ·have hpn':(p:Int)<(rs.length:Int):=by omega
    obtain ⟨b,o,s0,s1,rfl,hc0,hc1,HS⟩:=(h.below hbel).at hpn
    have HK:Hid (s0=kAt rs p):=by show _=_;unfold kAt;rw [<-HS.out]
    obtain ⟨C,HC⟩:∃ C,Hid (C=cmpB s0 key):=⟨_,hid rfl⟩
    go_wp2_with (go_at_call 205;refine (cmp_i s0 s1 key _).mono ?_;rw [<-HC.out];rintro e w2 ⟨rfl,hb2⟩)
    go_ret2
    refine ⟨p,hq,HAA.out,HZZ.out,?_,hbel.trans (hb2.mono hbel.size)⟩
    rw [<-HK.out,<-HC.out]
    simp [hpn]
    rw [Bool.eq_iff_iff];simp
   ·have hpn':(rs.length:Int)<=(p:Int):=by omega
    go_wp2
    go_ret2
    refine ⟨p,hq,HAA.out,HZZ.out,?_,hbel⟩
    simp [hpn]
end Go.Proofs.YtcoegjnjjdndjaaGreatDoor
namespace Go.Proofs.YtcoegjnjjdndjaaGreatDoor
open Go.RowKit Go.Sort
theorem cmpB_trans (a b c:ByteArray) (h1:cmpB a b<0) (h2:cmpB b c<0):cmpB a c<0:=by
 unfold cmpB at *
 rw [cb_lt] at *
 exact List.lt_trans h1 h2
theorem asc_step {rs:List (ByteArray×ByteArray)} (h:stateOk rs=true) (i:Nat) (hi:i+1<rs.length):cmpB (kAt rs i) (kAt rs (i+1))<0:=by
 have:=(stateOk_of h).2 (i+1) hi
 unfold prOk klt at this
 simp only [Nat.add_sub_cancel,Bool.and_eq_true,Bool.or_eq_true,decide_eq_true_eq] at this
 rw [cmpB_lt]
 rcases this.2 with h | h
 ·omega
 ·exact h
theorem asc {rs:List (ByteArray×ByteArray)} (h:stateOk rs=true) (t:Nat):∀ d,t+d+1<rs.length->cmpB (kAt rs t) (kAt rs (t+d+1))<0
 | 0,hd=>asc_step h t hd
 | d+1,hd=>cmpB_trans _ _ _ (asc h t d (by omega)) (asc_step h (t+d+1) hd)
theorem asc' {rs:List (ByteArray×ByteArray)} (h:stateOk rs=true) {t u:Nat} (htu:t<u) (hu:u<rs.length):cmpB (kAt rs t) (kAt rs u)<0:=by
 obtain ⟨d,rfl⟩:∃ d,u=t+d+1:=⟨u-t-1,by omega⟩
 exact asc h t d hu
theorem find_i (a:Option Addr) (rs:List (ByteArray×ByteArray)) (c:Nat) (key:ByteArray) (w:World) (h:Prs w a rs) (hl:rs.length<=1048576) (hmono:Hid (∀ t m,t<=m->m<rs.length->cmpB (kAt rs m) key<0->cmpB (kAt rs t) key<0)) :
  Calls Tryz.prog 200 #[.agg #[.string key],.slice a rs.length c] w fun e w' =>
   ∃ p:Nat,p<=rs.length/\(∀ t,t<p->cmpB (kAt rs t) key<0)/\(∀ t,p<=t->t<rs.length->0<=cmpB (kAt rs t) key)/\e=.returned (.tuple #[.int .i64 (p:Int),.bool (decide (p<rs.length/\cmpB (kAt rs p) key=0))])/\Below w.heap.size w w':=by
 have hb0:∀ o,Below w.heap.size w (w.alloc o):=fun o=>(Below.refl _ _).alloc (Nat.le_refl _) _
 go_enter Tryz.func200,Tryz.ntmps200
 go_wp2_with fail
 refine (bs_i a rs c key _ (h.below (hb0 _)) hl hmono).mono ?_
 rintro e w2 ⟨p,h1,h2,h3,rfl,hb2⟩
 obtain ⟨B,HB⟩:∃ B,Hid (B=decide (p<rs.length/\cmpB (kAt rs p) key=0)):=⟨_,hid rfl⟩
 rw [<-HB.out]
 have H2:=hid h2
 have H3:=hid h3
 clear h2 h3
 go_wp2
 go_ret2
 refine ⟨p,h1,H2.out,H3.out,by rw [<-HB.out];rfl,(hb0 _).trans (hb2.mono (by simp))⟩
end Go.Proofs.YtcoegjnjjdndjaaGreatDoor
namespace Go.Proofs.YtcoegjnjjdndjaaGreatDoor
open Go.RowKit Go.Sort
theorem cb_anti:∀ (x y:List UInt8),0<Lib.compareBytes x y->Lib.compareBytes y x<0
 | [],[]=>by simp [Lib.compareBytes]
 | [],b::l2=>by simp [Lib.compareBytes]
 | a::l,[]=>by simp [Lib.compareBytes]
 | a::l,b::l2=>by
  unfold Lib.compareBytes
  intro h
  by_cases h1:a<b
  ·simp [h1] at h
  ·by_cases h2:b<a
   ·simp [h2]
   ·simp only [h1,h2,if_false] at h ⊢
    exact cb_anti l l2 h
theorem cmpB_anti {a b:ByteArray} (h:0<cmpB a b):klt b a=true:=by
 have:=cb_anti _ _ h
 exact (cmpB_lt b a).1 this
theorem cmpB_self (a:ByteArray):cmpB a a=0:=(cmpB_zero a a).2 rfl
theorem klt_no {a b:ByteArray} (h:cmpB a b<0):klt b a=false:=by
 cases hk:klt b a with
 | false=>rfl
 | true =>
  have h2:cmpB b a<0:=(cmpB_lt b a).2 hk
  have h3:=cmpB_trans a b a h h2
  rw [cmpB_self] at h3
  omega
theorem klt_self (a:ByteArray):klt a a=false:=by
 cases hk:klt a a with
 | false=>rfl
 | true =>
  have h2:cmpB a a<0:=(cmpB_lt a a).2 hk
  rw [cmpB_self] at h2
  omega
def stepC (key val:ByteArray) (st:Bool×List Pr) (p:Pr):Bool×List Pr :=
 if p.1=key then (if (!st.1 && klt key p.1)=true then (true,st.2++[(key,val)]) else st)
 else (if (!st.1 && klt key p.1)=true then (true,st.2++[(key,val)]++[p]) else (st.1,st.2++[p]))
def chW (c:Ch) (rs:List Pr):Bool×List Pr:=rs.foldl (stepC c.1 c.2.1) (c.2.2,[])
def chF (c:Ch) (rs:List Pr):List Pr:=if (chW c rs).1=true then (chW c rs).2 else (chW c rs).2++[(c.1,c.2.1)]
theorem chW_snoc (c:Ch) (rs:List Pr) (p:Pr):chW c (rs++[p])=stepC c.1 c.2.1 (chW c rs) p:=by unfold chW;rw [List.foldl_append];rfl
def ascP (rs:List Pr):Prop:=rs.Pairwise fun x y=>cmpB x.1 y.1<0
theorem stepA (key val:ByteArray):∀ (l:List Pr) (g:Bool) (out:List Pr),(∀ x∈l,cmpB x.1 key<0)->l.foldl (stepC key val) (g,out)=(g,out++l)
 | [],g,out,_=>by simp
 | x::l,g,out,h=>by
  have hx:=h x List.mem_cons_self
  have hne:¬ x.1=key:=fun e=>by rw [e,cmpB_self] at hx;omega
  rw [List.foldl_cons,stepC,if_neg hne,klt_no hx,Bool.and_false,if_neg (by simp)]
  rw [stepA key val l g (out++[x]) (fun y hy=>h y (List.mem_cons_of_mem _ hy)),List.append_assoc]
  rfl
theorem stepB (key val:ByteArray):∀ (l:List Pr) (out:List Pr),(∀ x∈l,0<cmpB x.1 key)->l.foldl (stepC key val) (true,out)=(true,out++l)
 | [],out,_=>by simp
 | x::l,out,h=>by
  have hx:=h x List.mem_cons_self
  have hne:¬ x.1=key:=fun e=>by rw [e,cmpB_self] at hx;omega
  rw [List.foldl_cons,stepC,if_neg hne,if_neg (by simp)]
  rw [stepB key val l (out++[x]) (fun y hy=>h y (List.mem_cons_of_mem _ hy)),List.append_assoc]
  rfl
def chAt (c:Ch) (a r:List Pr):List Pr:=a++(if c.2.2=true then [] else [(c.1,c.2.1)])++r
theorem chF_at (c:Ch) (a m r:List Pr) (ha:∀ x∈a,cmpB x.1 c.1<0) (hm:m=[]\/∃ v,m=[(c.1,v)]) (hr:∀ x∈r,0<cmpB x.1 c.1):chF c (a++m++r)=chAt c a r:=by
 obtain ⟨key,val,g⟩:=c
 have e1:chW (key,val,g) (a++m++r)=r.foldl (stepC key val) (g,a):=by
  unfold chW
  rw [List.append_assoc,List.foldl_append,stepA key val a g [] ha,List.nil_append,List.foldl_append]
  rcases hm with rfl | ⟨v,rfl⟩
  ·rfl
  ·rw [List.foldl_cons,List.foldl_nil,stepC,if_pos rfl,klt_self,Bool.and_false,if_neg (by simp)]
 unfold chF chAt
 rw [e1]
 cases g with
 | true=>rw [stepB key val r a hr];simp
 | false =>
  cases r with
  | nil=>simp
  | cons x l =>
   have hx:=hr x List.mem_cons_self
   have hne:¬ x.1=key:=fun e=>by rw [e,cmpB_self] at hx;omega
   rw [List.foldl_cons,stepC,if_neg hne]
   simp only [Bool.not_false,Bool.true_and]
   rw [cmpB_anti hx,if_pos rfl,stepB key val l _ (fun y hy=>hr y (List.mem_cons_of_mem _ hy))]
   simp
theorem chAt_asc (c:Ch) (a m r:List Pr) (h:ascP (a++m++r)) (ha:∀ x∈a,cmpB x.1 c.1<0) (hr:∀ x∈r,0<cmpB x.1 c.1):ascP (chAt c a r):=by
 unfold ascP chAt at *
 rw [List.pairwise_append,List.pairwise_append] at h
 obtain ⟨⟨h1,h2,h3⟩,h4,h5⟩:=h
 have har:∀ x∈a,∀ y∈r,cmpB x.1 y.1<0:=fun x hx y hy=>h5 x (List.mem_append_left _ hx) y hy
 have hkr:∀ y∈r,cmpB c.1 y.1<0:=fun y hy=>(cmpB_lt _ _).2 (cmpB_anti (hr y hy))
 by_cases hg:c.2.2=true
 ·rw [if_pos hg,List.append_nil,List.pairwise_append]
  exact ⟨h1,h4,har⟩
 ·rw [if_neg hg,List.pairwise_append,List.pairwise_append]
  refine ⟨⟨h1,by simp,fun x hx y hy=>?_⟩,h4,fun x hx y hy=>?_⟩
  ·simp at hy;subst hy;exact ha x hx
  ·rw [List.mem_append] at hx
   rcases hx with hx | hx
   ·exact har x hx y hy
   ·simp at hx;subst hx;exact hkr y hy
theorem getD_at {α:Type} (rs:List α) (i:Nat) (h:i<rs.length) {d:α}:rs.getD i d=rs[i]:=by simp [List.getD,h]
theorem asc_of {rs:List Pr} (h:stateOk rs=true):ascP rs:=by
 unfold ascP
 rw [List.pairwise_iff_getElem]
 intro i j hi hj hij
 have:=asc' h hij hj
 unfold kAt at this
 rwa [getD_at _ _ hi,getD_at _ _ hj] at this
theorem asc_mono {rs:List Pr} (h:ascP rs) (key:ByteArray):∀ t m,t<=m->m<rs.length->cmpB (kAt rs m) key<0->cmpB (kAt rs t) key<0:=fun t m ht hm hk=>by
 rcases Nat.eq_or_lt_of_le ht with e | e
 ·subst e;exact hk
 ·unfold ascP at h
  rw [List.pairwise_iff_getElem] at h
  have:=h t m (by omega) hm e
  unfold kAt at *
  rw [getD_at _ _ hm] at hk
  rw [getD_at _ _ (by omega)]
  exact cmpB_trans _ _ _ this hk
theorem part_at {rs:List Pr} (h:ascP rs) (key:ByteArray) (p:Nat) (hp:p<=rs.length) (h1:∀ t,t<p->cmpB (kAt rs t) key<0) (h2:∀ t,p<=t->t<rs.length->0<=cmpB (kAt rs t) key) (d:Nat) (hd:d=if p<rs.length/\cmpB (kAt rs p) key=0 then 1 else 0) :
  rs=rs.take p++(rs.drop p).take d++rs.drop (p+d)/\(∀ x∈rs.take p,cmpB x.1 key<0)/\((rs.drop p).take d=[]\/∃ v,(rs.drop p).take d=[(key,v)])/\(∀ x∈rs.drop (p+d),0<cmpB x.1 key):=by
 have hasc:=h
 unfold ascP at h
 rw [List.pairwise_iff_getElem] at h
 refine ⟨?_,?_,?_,?_⟩
 ·rw [List.append_assoc,<-List.drop_drop,List.take_append_drop,List.take_append_drop]
 ·intro x hx
  obtain ⟨i,hi,rfl⟩:=List.getElem_of_mem hx
  rw [List.length_take] at hi
  have:=h1 i (by omega)
  unfold kAt at this
  rw [getD_at _ _ (by omega)] at this
  rw [List.getElem_take]
  exact this
 ·by_cases hc:p<rs.length/\cmpB (kAt rs p) key=0
  ·rw [if_pos hc] at hd
   subst hd
   right
   have e:=(cmpB_zero _ _).1 hc.2
   unfold kAt at e
   rw [getD_at _ _ hc.1] at e
   refine ⟨(rs[p]'hc.1).2,?_⟩
   rw [List.drop_eq_getElem_cons hc.1,List.take_succ_cons,List.take_zero]
   exact congrArg (fun k=>[k]) (Prod.ext e rfl)
  ·rw [if_neg hc] at hd
   subst hd
   exact .inl (by simp)
 ·intro x hx
  obtain ⟨i,hi,rfl⟩:=List.getElem_of_mem hx
  rw [List.length_drop] at hi
  rw [List.getElem_drop]
  have hq:=h2 (p+d+i) (by omega) (by omega)
  unfold kAt at hq
  rw [getD_at _ _ (by omega)] at hq
  rcases Int.lt_or_eq_of_le hq with h3 | h3
  ·exact h3
  ·exfalso
   have e:=(cmpB_zero _ _).1 h3.symm
   by_cases hi0:d+i=0
   ·have hd0:d=0:=by omega
    have hi0:i=0:=by omega
    subst hi0
    rw [hd0] at hd
    by_cases hc:p<rs.length/\cmpB (kAt rs p) key=0
    ·rw [if_pos hc] at hd;cases hd
    ·refine hc ⟨by omega,?_⟩
     unfold kAt
     rw [getD_at _ _ (by omega)]
     subst hd0
     exact h3.symm
   ·have h4:=h p (p+d+i) (by omega) (by omega) (by omega)
    rw [e] at h4
    have h5:=h2 p (Nat.le_refl _) (by omega)
    unfold kAt at h5
    rw [getD_at _ _ (by omega)] at h5
    omega
def apU (rs:List Pr) (b:List Ch):List Pr:=b.foldl (fun s c=>chF c s) rs
theorem apU_snoc (rs:List Pr) (b:List Ch) (c:Ch):apU rs (b++[c])=chF c (apU rs b):=by unfold apU;rw [List.foldl_append];rfl
def apC (rs:List Pr) (b:List Ch):Int:=if (stateOk rs && batchOk b)=true then (if (apU rs b).length<=100 then 0 else 2) else 1
def apR (rs:List Pr) (b:List Ch):List Pr:=if apC rs b=0 then apU rs b else []
theorem chW_len (c:Ch):∀ (rs:List Pr) (k:Nat),k=rs.length->(chW c rs).2.length<=rs.length+(if (chW c rs).1=true/\c.2.2=false then 1 else 0)/\(c.2.2=true->(chW c rs).1=true)
 | rs,0,hk=>by rw [List.eq_nil_of_length_eq_zero hk.symm];simp [chW]
 | rs,k+1,hk=>by
  obtain ⟨b,bs,rfl⟩:∃ b bs,rs=bs++[b]:=by
   rcases List.eq_nil_or_concat rs with h | ⟨l,a,h⟩
   ·subst h;simp at hk
   ·exact ⟨a,l,by simpa using h⟩
  have ih:=chW_len c bs k (by simp at hk;omega)
  rw [chW_snoc]
  obtain ⟨key,val,g⟩:=c
  generalize chW (key,val,g) bs=st at ih ⊢
  obtain ⟨d,out⟩:=st
  unfold stepC
  rw [List.length_append,List.length_singleton]
  have hk3:=klt_self key
  cases d<;>cases hk2:klt key b.1<;>by_cases he:b.1=key<;>cases g<;>simp [he,hk2,hk3] at ih hk2 ⊢<;>omega
theorem chF_len (c:Ch) (rs:List Pr):(chF c rs).length<=rs.length+1:=by
 have:=(chW_len c rs _ rfl).1
 unfold chF
 split
 ·split at this<;>omega
 ·rename_i h
  rw [if_neg (fun e=>h e.1)] at this
  rw [List.length_append]
  simp
  omega
theorem apU_len (rs:List Pr) (b:List Ch):∀ k,(apU rs (b.take k)).length<=rs.length+k
 | 0=>by simp [apU]
 | k+1=>by
  have ih:=apU_len rs b k
  by_cases h:k<b.length
  ·rw [List.take_succ_eq_append_getElem h,apU_snoc]
   have:=chF_len b[k] (apU rs (b.take k))
   omega
  ·rw [List.take_of_length_le (by omega)] at ih ⊢
   omega
end Go.Proofs.YtcoegjnjjdndjaaGreatDoor
namespace Go.Proofs.YtcoegjnjjdndjaaGreatDoor
open Go.RowKit Go.Sort
theorem cmpB_rev {a b:ByteArray} (h:cmpB a b<0):0<cmpB b a:=by
 rcases Int.lt_trichotomy (cmpB b a) 0 with h1 | h1 | h1
 ·have:=cmpB_trans a b a h h1
  rw [cmpB_self] at this
  omega
 ·have:=(cmpB_zero _ _).1 h1
  subst this
  rw [cmpB_self] at h
  omega
 ·exact h1
theorem stateOk_iff (rs:List Pr):stateOk rs=true<->rs.length<=100/\(∀ x∈rs,kOk x.1=true/\vOk x.2=true)/\ascP rs:=by
 constructor
 ·intro h
  obtain ⟨h1,h2⟩:=stateOk_of h
  refine ⟨h1,fun x hx=>?_,asc_of h⟩
  obtain ⟨i,hi,rfl⟩:=List.getElem_of_mem hx
  have:=h2 i hi
  unfold prOk at this
  rw [getD_at _ _ hi] at this
  simp only [Bool.and_eq_true] at this
  exact this.1
 ·rintro ⟨h1,h2,h3⟩
  refine stateOk_yes h1 (fun k hk=>?_)
  unfold prOk
  have hm:=h2 _ (List.getElem_mem hk)
  rw [getD_at _ _ hk,hm.1,hm.2]
  by_cases h0:k=0
  ·simp [h0]
  ·have hk1:k-1<rs.length:=by omega
   rw [getD_at _ _ hk1]
   unfold ascP at h3
   rw [List.pairwise_iff_getElem] at h3
   have:=h3 (k-1) k hk1 hk (by omega)
   have h4:klt rs[k-1].1 rs[k].1=true:=(cmpB_lt _ _).1 this
   simp [h4]
theorem split_at (key:ByteArray):∀ (rs:List Pr),ascP rs->∃ a m r,rs=a++m++r/\(∀ x∈a,cmpB x.1 key<0)/\(m=[]\/∃ v,m=[(key,v)])/\(∀ x∈r,0<cmpB x.1 key)
 | [],_=>⟨[],[],[],rfl,by simp,.inl rfl,by simp⟩
 | x::l,h=>by
  unfold ascP at h
  rw [List.pairwise_cons] at h
  rcases Int.lt_trichotomy (cmpB x.1 key) 0 with h1 | h1 | h1
  ·obtain ⟨a,m,r,e,ha,hm,hr⟩:=split_at key l h.2
   refine ⟨x::a,m,r,by rw [e];rfl,fun y hy=>?_,hm,hr⟩
   rcases List.mem_cons.1 hy with rfl | hy
   ·exact h1
   ·exact ha y hy
  ·have e:=(cmpB_zero _ _).1 h1
   refine ⟨[],[x],l,rfl,by simp,.inr ⟨x.2,by rw [<-e]⟩,fun y hy=>?_⟩
   rw [<-e]
   exact cmpB_rev (h.1 y hy)
  ·refine ⟨[],[],x::l,rfl,by simp,.inl rfl,fun y hy=>?_⟩
   rcases List.mem_cons.1 hy with rfl | hy
   ·exact h1
   ·have h2:cmpB key x.1<0:=(cmpB_lt _ _).2 (cmpB_anti h1)
    exact cmpB_rev (cmpB_trans _ _ _ h2 (h.1 y hy))
theorem chF_split (c:Ch) (rs:List Pr) (h:ascP rs):∃ a m r,rs=a++m++r/\(∀ x∈a,cmpB x.1 c.1<0)/\(m=[]\/∃ v,m=[(c.1,v)])/\(∀ x∈r,0<cmpB x.1 c.1)/\chF c rs=chAt c a r:=by
 obtain ⟨a,m,r,e,ha,hm,hr⟩:=split_at c.1 rs h
 exact ⟨a,m,r,e,ha,hm,hr,by rw [e];exact chF_at c a m r ha hm hr⟩
theorem chF_asc (c:Ch) (rs:List Pr) (h:ascP rs):ascP (chF c rs):=by
 obtain ⟨a,m,r,e,ha,hm,hr,hc⟩:=chF_split c rs h
 rw [hc]
 rw [e] at h
 exact chAt_asc c a m r h ha hr
theorem chF_mem (c:Ch) (rs:List Pr) (h:ascP rs):∀ x∈chF c rs,x∈rs\/(x=(c.1,c.2.1)/\c.2.2=false):=by
 obtain ⟨a,m,r,e,ha,hm,hr,hc⟩:=chF_split c rs h
 rw [hc]
 intro x hx
 unfold chAt at hx
 rw [List.mem_append,List.mem_append] at hx
 rcases hx with (hx | hx) | hx
 ·exact .inl (by rw [e];simp [hx])
 ·split at hx
  ·simp at hx
  ·rename_i hg
   simp at hx
   exact .inr ⟨hx,by simpa using hg⟩
 ·exact .inl (by rw [e];simp [hx])
theorem apU_asc (rs:List Pr) (h:ascP rs):∀ (b:List Ch),ascP (apU rs b):=by
 intro b
 unfold apU
 induction b generalizing rs with
 | nil=>exact h
 | cons c l ih=>exact ih _ (chF_asc c rs h)
theorem apU_mem (rs:List Pr) (h:ascP rs):∀ (b:List Ch),∀ x∈apU rs b,x∈rs\/∃ c∈b,x=(c.1,c.2.1):=by
 intro b
 unfold apU
 induction b generalizing rs with
 | nil=>exact fun x hx=>.inl hx
 | cons c l ih =>
  intro x hx
  rcases ih _ (chF_asc c rs h) x hx with h1 | ⟨c',h1,h2⟩
  ·rcases chF_mem c rs h x h1 with h3 | h3
   ·exact .inl h3
   ·exact .inr ⟨c,List.mem_cons_self,h3.1⟩
  ·exact .inr ⟨c',List.mem_cons_of_mem _ h1,h2⟩
theorem chOk_parts {c:Ch} (h:chOk c=true):kOk c.1=true/\vOk c.2.1=true:=by
 unfold chOk at h
 simp only [Bool.and_eq_true] at h
 exact h.1
theorem apC_zero {rs:List Pr} {b:List Ch} (h:apC rs b=0):stateOk rs=true/\batchOk b=true/\(apU rs b).length<=100:=by
 unfold apC at h
 split at h
 ·rename_i h1
  simp only [Bool.and_eq_true] at h1
  split at h
  ·rename_i h2;exact ⟨h1.1,h1.2,h2⟩
  ·cases h
 ·cases h
theorem apU_ok {rs:List Pr} {b:List Ch} (h:apC rs b=0):stateOk (apU rs b)=true:=by
 obtain ⟨h1,h2,h3⟩:=apC_zero h
 obtain ⟨_,k2,k3⟩:=(stateOk_iff rs).1 h1
 refine (stateOk_iff _).2 ⟨h3,fun x hx=>?_,apU_asc rs k3 b⟩
 rcases apU_mem rs k3 b x hx with h4 | ⟨c,h4,rfl⟩
 ·exact k2 x h4
 ·exact chOk_parts ((batchOk_of h2).2 c h4)
end Go.Proofs.YtcoegjnjjdndjaaGreatDoor
namespace Go.Proofs.YtcoegjnjjdndjaaGreatDoor
structure Wr (p:Prop):Prop where
 out:p
end Go.Proofs.YtcoegjnjjdndjaaGreatDoor
namespace Go.Proofs.YtcoegjnjjdndjaaGreatDoor
open Go.RowKit
structure Grow (wS wr:World) (g0:Option Nat) (base:Nat) (e:TypeId) (size:Nat) (v:Value) (n:Nat) (xs:List Value):Prop where
 own:wr.ownsRow base e size v n xs
 gb:wS.grownBy wr g0
 at_:∀ k,v.ownBlock=some k->g0=some k\/wS.heap.size<=k
theorem Grow.start {w:World} {base:Nat} {e:TypeId} {size:Nat} {v:Value} {n:Nat} {xs:List Value} (h:w.ownsRow base e size v n xs):Grow w w v.ownBlock base e size v n xs:=⟨h,World.grownBy.refl _ _,fun k hk=>.inl hk⟩
theorem Grow.below {wS wr w':World} {g0:Option Nat} {base:Nat} {e:TypeId} {size:Nat} {v:Value} {n:Nat} {xs:List Value} (h:Grow wS wr g0 base e size v n xs) (hb:Below wr.heap.size wr w'):Grow wS w' g0 base e size v n xs :=
 ⟨owns_below h.own hb,⟨hb.os.trans h.gb.os,hb.tape.trans h.gb.tape,hb.output.trans h.gb.output,Nat.le_trans h.gb.size hb.size,fun k hk hne=>(hb.block k (Nat.lt_of_lt_of_le hk h.gb.size)).trans (h.gb.block k hk hne)⟩,h.at_⟩
theorem grown_mono {wS wr w9:World} {g0 r:Option Nat} (h:wS.grownBy wr g0) (hg:wr.grownBy w9 r) (hr:∀ k,r=some k->g0=some k\/wS.heap.size<=k):wS.grownBy w9 g0 :=
 ⟨hg.os.trans h.os,hg.tape.trans h.tape,hg.output.trans h.output,Nat.le_trans h.size hg.size,fun k hk hne=>(hg.block k (Nat.lt_of_lt_of_le hk h.size) (fun e=>by
  rcases hr k e.symm with h1 | h1
  ·exact hne h1.symm
  ·omega)).trans (h.block k hk hne)⟩
theorem Grow.push {wS wr w9:World} {g0:Option Nat} {base:Nat} {e:TypeId} {size:Nat} {v v9:Value} {n n9 H:Nat} {xs xs9:List Value} (h:Grow wS wr g0 base e size v n xs) (hown:w9.ownsRow base e size v9 n9 xs9) (hg:wr.grownBy w9 v.ownBlock) (hat:v.ownBlock=v9.ownBlock\/v9.ownBlock=some H) (hH:wr.heap.size<=H):Grow wS w9 g0 base e size v9 n9 xs9 :=
 ⟨hown,grown_mono h.gb hg h.at_,fun k hk=>by
  rcases hat with h1 | h1
  ·exact h.at_ k (h1.trans hk)
  ·rw [h1] at hk;cases hk;exact .inr (Nat.le_trans h.gb.size hH)⟩
theorem Grow.trans {wS w4 wr:World} {g0:Option Nat} {base:Nat} {e:TypeId} {size:Nat} {v v':Value} {n n':Nat} {xs xs':List Value} (h:Grow wS w4 g0 base e size v n xs) (k:Grow w4 wr v.ownBlock base e size v' n' xs'):Grow wS wr g0 base e size v' n' xs' :=
 ⟨k.own,grown_mono h.gb k.gb h.at_,fun j hj=>by
  rcases k.at_ j hj with h1 | h1
  ·exact h.at_ j h1
  ·exact .inr (Nat.le_trans h.gb.size h1)⟩
theorem below_of_grown {n:Nat} {w w':World} {r:Option Nat} (hg:w.grownBy w' r) (hn:n<=w.heap.size) (hr:∀ k,r=some k->n<=k):Below n w w' :=
 ⟨hg.os,hg.tape,hg.output,hg.size,fun k hk=>hg.block k (by omega) (fun e=>by have:=hr k e.symm;omega)⟩
theorem undrewG {w w':World} {r:Option Nat} (h:w.drew.grownBy w' r):w.grownBy w' r:=⟨h.os,h.tape,h.output,h.size,h.block⟩
def pcV (r:ByteArray):Value:=match pc r with | none=>.tuple #[.string ⟨#[]⟩,.string ⟨#[]⟩,.bool false] | some (k,m)=>.tuple #[.string k,.string m,.bool true]
theorem get0 (r:ByteArray) (h:0<r.size):(r[0]'h).toNat=b0 r:=by
 unfold b0
 have hl:0<r.data.toList.length:=h
 rw [List.getD_eq_getElem?_getD,List.getElem?_eq_getElem hl]
 rfl
theorem piece_s (r:ByteArray) (w:World) (hs:r.size<=1048576):Calls Tryz.prog 126 #[.string r] w fun e w'=>e=.returned (pcV r)/\Below w.heap.size w w':=by
 by_cases h0:0<r.size
 ·have hg:=get0 r h0
  obtain ⟨b,hb⟩:∃ b,b=b0 r:=⟨_,rfl⟩
  obtain ⟨e,he⟩:∃ e,e=1+b:=⟨_,rfl⟩
  have hbl:b<=255:=by rw [hb];exact b0_lt r
  rw [<-hb] at hg
  have h1:(1:Int)<=(r.size:Int):=by omega
  have hze:r.toList.isEmpty=false:=by rw [isEmpty_size];exact decide_eq_false (by omega)
  have hE:(1:Int)+(b:Int)=(e:Int):=by omega
  have hE0:(0:Int)<=(e:Int):=by omega
  have hE1:(1:Int)<=(e:Int):=by omega
  have hEw:IntKind.i64.wrap (e:Int)=(e:Int):=by simp [IntKind.wrap,IntKind.bits,IntKind.signed];omega
  by_cases h2:1+b<=r.size
  ·have HV:Hid (pcV r=.tuple #[.string (r.extract 1 e),.string (r.extract e r.size),.bool true]):=by
    show _=_
    unfold pcV pc
    rw [<-hb,if_pos ⟨by omega,h2⟩,<-he]
   have h2':(e:Int)<=(r.size:Int):=by omega
   clear hb h2 he
   go_enter Tryz.func126,Tryz.ntmps126
   go_wp2
   go_quiet (fail)
   go_wp2
   go_ret3
   exact ⟨by rw [HV.out];rfl,below_drewN (Below.refl _ _) _⟩
  ·have HV:Hid (pcV r=.tuple #[.string ⟨#[]⟩,.string ⟨#[]⟩,.bool false]):=by
    show _=_
    unfold pcV pc
    rw [<-hb,if_neg (by omega)]
   have h2':(r.size:Int)<(e:Int):=by omega
   clear hb h2 he
   go_enter Tryz.func126,Tryz.ntmps126
   go_wp2
   go_ret3
   exact ⟨by rw [HV.out];rfl,Below.refl _ _⟩
 ·have HV:Hid (pcV r=.tuple #[.string ⟨#[]⟩,.string ⟨#[]⟩,.bool false]):=by
   show _=_
   unfold pcV pc
   rw [if_neg (by omega)]
  have hz:(r.size:Int)<1:=by omega
  have hze:r.toList.isEmpty=true:=by rw [isEmpty_size];exact decide_eq_true (by omega)
  go_enter Tryz.func126,Tryz.ntmps126
  go_wp2
  go_ret3
  exact ⟨by rw [HV.out];rfl,Below.refl _ _⟩
theorem sized_take_i (r:ByteArray) (w:World) (hs:r.size<=1048576):Calls Tryz.prog 155 #[.string r] w fun e w'=>e=.returned (pcV r)/\Below w.heap.size w w':=by
 by_cases h0:0<r.size
 ·have hg:=get0 r h0
  obtain ⟨b,hb⟩:∃ b,b=b0 r:=⟨_,rfl⟩
  obtain ⟨e,he⟩:∃ e,e=1+b:=⟨_,rfl⟩
  have hbl:b<=255:=by rw [hb];exact b0_lt r
  rw [<-hb] at hg
  have h1:(1:Int)<=(r.size:Int):=by omega
  have hze:r.toList.isEmpty=false:=by rw [isEmpty_size];exact decide_eq_false (by omega)
  have hE:(1:Int)+(b:Int)=(e:Int):=by omega
  have hE0:(0:Int)<=(e:Int):=by omega
  have hE1:(1:Int)<=(e:Int):=by omega
  have hEw:IntKind.i64.wrap (e:Int)=(e:Int):=by simp [IntKind.wrap,IntKind.bits,IntKind.signed];omega
  by_cases h2:1+b<=r.size
  ·have HV:Hid (pcV r=.tuple #[.string (r.extract 1 e),.string (r.extract e r.size),.bool true]):=by
    show _=_
    unfold pcV pc
    rw [<-hb,if_pos ⟨by omega,h2⟩,<-he]
   have h2':(e:Int)<=(r.size:Int):=by omega
   clear hb h2 he
   go_enter Tryz.func155,Tryz.ntmps155
   go_wp2
   go_quiet (fail)
   go_wp2
   go_ret3
   exact ⟨by rw [HV.out];rfl,below_drewN (Below.refl _ _) _⟩
  ·have HV:Hid (pcV r=.tuple #[.string ⟨#[]⟩,.string ⟨#[]⟩,.bool false]):=by
    show _=_
    unfold pcV pc
    rw [<-hb,if_neg (by omega)]
   have h2':(r.size:Int)<(e:Int):=by omega
   clear hb h2 he
   go_enter Tryz.func155,Tryz.ntmps155
   go_wp2
   go_ret3
   exact ⟨by rw [HV.out];rfl,Below.refl _ _⟩
 ·have HV:Hid (pcV r=.tuple #[.string ⟨#[]⟩,.string ⟨#[]⟩,.bool false]):=by
   show _=_
   unfold pcV pc
   rw [if_neg (by omega)]
  have hz:(r.size:Int)<1:=by omega
  have hze:r.toList.isEmpty=true:=by rw [isEmpty_size];exact decide_eq_true (by omega)
  go_enter Tryz.func155,Tryz.ntmps155
  go_wp2
  go_ret3
  exact ⟨by rw [HV.out];rfl,Below.refl _ _⟩
theorem bs0 {w w':World} {o:Obj} (h:Below (w.alloc o).heap.size (w.alloc o) w'):Below w.heap.size w w':=((Below.refl _ _).alloc (Nat.le_refl _) _).trans (h.mono (by simp))
def stpV (r:ByteArray):Option (Ch×ByteArray):=if 1<b0 r then none else stp r
def chgPost (o:Option (Ch×ByteArray)) (e:Ending):Prop:=match o with
 | none=>∃ k v g b,e=.returned (.tuple #[.agg #[.string k,.string v,.bool g],.string b,.bool false])
 | some (c,r')=>e=.returned (.tuple #[.agg #[.string c.1,.string c.2.1,.bool c.2.2],.string r',.bool true])
theorem pcV_none {r:ByteArray} (h:pc r=none):pcV r=.tuple #[.string ⟨#[]⟩,.string ⟨#[]⟩,.bool false]:=by unfold pcV;rw [h]
theorem pcV_some {r k m:ByteArray} (h:pc r=some (k,m)):pcV r=.tuple #[.string k,.string m,.bool true]:=by unfold pcV;rw [h]
end Go.Proofs.YtcoegjnjjdndjaaGreatDoor
namespace Go.Proofs.YtcoegjnjjdndjaaGreatDoor
open Go.RowKit
section
variable {P:Program} {e t:TypeId} {i:TypeInfo} {n:Nat}
theorem part_u8 (he:∀ w,(isAgg e).run P w=.ok false w) (xs:List Int) (j:Nat) (hj:j<xs.length) (w:World):(part e (xs.map (Value.int .u8)).toArray j).run P w=.ok (.int .u8 (xs.getD j 0)) w:=by
 unfold part
 simp [he,Result.andThen,hj,List.getD]
theorem eq_u8 (hu:P.underlying e=some (.int .u8)) (d:Nat) (a b:Int) (w:World):(Op.equalIn (d+1) e (.int .u8 a) (.int .u8 b)).run P w=.ok (a == b) w:=by
 simp [Op.equalIn,run_underlying hu,Result.andThen]
theorem eqItems_u8 (he:∀ w,(isAgg e).run P w=.ok false w) (hu:P.underlying e=some (.int .u8)) (d:Nat) (xs ys:List Int) (w:World):∀ (js:List Nat),(∀ j∈js,j<xs.length/\j<ys.length)->(Op.eqItems (d+1) e 1 (xs.map (Value.int .u8)).toArray (ys.map (Value.int .u8)).toArray js).run P w=.ok (js.all fun j=>xs.getD j 0 == ys.getD j 0) w
 | [],_=>by simp [Op.eqItems]
 | j::js,h=>by
  have hj:=h j (List.mem_cons_self)
  have ih:=eqItems_u8 he hu d xs ys w js (fun q hq=>h q (List.mem_cons_of_mem _ hq))
  simp only [Op.eqItems,Sem.run_bind,Nat.mul_one,part_u8 he xs j hj.1,part_u8 he ys j hj.2,eq_u8 hu,Result.andThen_ok]
  cases hc:(xs.getD j 0 == ys.getD j 0) with
  | false=>simp only [Bool.not_false,if_true,Sem.run_pure,List.all_cons,hc,Bool.false_and]
  | true=>simp only [Bool.not_true,Bool.false_eq_true,if_false,ih,List.all_cons,hc,Bool.true_and]
theorem all_eq (xs ys:List Int) (hl:xs.length=ys.length):((List.range xs.length).all fun j=>xs.getD j 0 == ys.getD j 0)=decide (xs=ys):=by
 rw [Bool.eq_iff_iff]
 simp only [List.all_eq_true,List.mem_range,beq_iff_eq,decide_eq_true_eq]
 constructor
 ·intro h
  apply List.ext_getElem hl
  intro j h1 h2
  have:=h j h1
  simpa [List.getD,h1,h2] using this
 ·intro h j hj;rw [h]
theorem run_neq_arr (hu:P.underlying t=some (.array n e)) (hi:P.info? e=some i) (hc:P.cellsOf e=1) (he:∀ w,(isAgg e).run P w=.ok false w) (hb:P.underlying e=some (.int .u8)) (xs ys:List Int) (hx:xs.length=n) (hy:ys.length=n) (w:World) :
  (binOp .neq t (.agg (xs.map (Value.int .u8)).toArray) (.agg (ys.map (Value.int .u8)).toArray)).run P w=.ok (.bool (!decide (xs=ys))) w:=by
 have h:=run_equalIn_array (w:=w) 9999 (xs.map (Value.int .u8)).toArray (ys.map (Value.int .u8)).toArray hu hi
 rw [hc,<-hx,eqItems_u8 he hb 9998 xs ys w (List.range xs.length) (fun j hj=>by have:=List.mem_range.1 hj;omega),all_eq xs ys (by omega)] at h
 simp only [binOp]
 simp [Op.equal,Op.maxDepth,h,Result.andThen]
end
end Go.Proofs.YtcoegjnjjdndjaaGreatDoor
namespace Go.Proofs.YtcoegjnjjdndjaaGreatDoor
open Go.RowKit
theorem heap_new (w:World) (o:Obj):(w.alloc o).heap[w.heap.size]?=some o:=by
 show (w.heap.push o)[w.heap.size]?=some o
 simp
theorem frozen_new (w:World) (C:Array Value) (e:TypeId) (n i:Nat) (h:i<n):(w.alloc (.cells C e (n,n+1))).frozen? ⟨w.heap.size,i,none⟩=false:=by
 simp only [World.frozen?,heap_new]
 simp
 omega
theorem cell_newf (w:World) (C:Array Value) (e:TypeId) (fr:Nat×Nat) (i:Nat):(w.alloc (.cells C e fr)).cell? ⟨w.heap.size,i,none⟩=C[i]?:=by
 simp only [World.cell?,heap_new]
 simp
theorem conv_bytes (w:World) (p:ByteArray):∃ cap wB,(convert 9 158 (.string p)).run Tryz.prog w=.ok (.slice (some ⟨w.heap.size,0,none⟩) p.size cap) wB/\Below w.heap.size w wB/\wB.heap.size=w.heap.size+1/\Fm wB w.heap.size (nums p)/\p.size<=cap:=by
 refine ⟨_,_,run_bytes_of_string w _ _ 5 p Tryz.underlying9 Tryz.underlying158 Tryz.underlying5,((Below.refl _ _).drew).alloc (Nat.le_refl _) _,by simp,⟨fun i hi=>?_,fun i hi=>?_⟩,grownCap_ge _ _ _ _⟩
 ·rw [nums_length] at hi
  refine (cell_newf w.drew _ _ _ i).trans ?_
  rw [bytesRow_at p _ i hi]
  have hl:i<p.data.toList.length:=hi
  simp only [List.getD_eq_getElem?_getD,nums,List.getElem?_map,List.getElem?_eq_getElem hl]
  rfl
 ·rw [nums_length] at hi
  exact frozen_new w.drew _ _ _ i (by unfold bytesRow;simp;omega)
end Go.Proofs.YtcoegjnjjdndjaaGreatDoor
namespace Go.Proofs.YtcoegjnjjdndjaaGreatDoor
open Go.RowKit Go.ChangeShapes Go.WideShapes Go.Deep
section
variable {H:Type} {enc:TypeId×Value->H} {P:Program} {w:World} {base:Nat} {spare:Nat->Bool} {held:Bool}
theorem add_none {a:Addr} {i:Nat} {v:Value} (h:w.cell? (a.add i)=some v) (h0:∃ u,w.cell? (a.add 0)=some u):∃ b o,a=⟨b,o,none⟩:=by
 obtain ⟨b,o,s⟩:=a
 obtain ⟨u,hu⟩:=h0
 have hs:s=none:=by simpa [Addr.add] using World.cell?_spot hu
 exact ⟨b,o,by rw [hs]⟩
theorem add_mk (b o i:Nat):(⟨b,o,none⟩:Addr).add i=⟨b,o+i,none⟩:=by unfold Addr.add;split<;>simp_all
theorem strs_of_trod {t e:TypeId} {fuel:Nat} {v:Value} {x:DataW H×List MemPlace} (ht:P.underlying t=some (.slice e)) (he:P.underlying e=some .string) (hc:P.cellsOf e=1)
  (h:DataW.trod enc P w base spare held fuel t [v]=some x):∃ a ss c,v=.slice a ss.length c/\Strs w a ss/\ss.length<=maxLen/\∀ s∈ss,s.size<=maxLen:=by
 rcases open_strings ht he hc h with ⟨hcs,_⟩ | ⟨a,len,cap,ss,hcs,_,hl,hm,hz,_,hcell,hw⟩
 ·simp at hcs
  exact ⟨none,[],0,by simpa using hcs,.inl rfl,by simp,by simp⟩
 ·simp at hcs
  have hlen:len<=ss.length:=by rw [hz];split<;>omega
  have e1:(ss.take len).length=len:=by simp;omega
  refine ⟨some a,ss.take len,cap,by rw [e1];exact hcs,?_,by omega,fun s hs=>hw s (List.mem_of_mem_take hs)⟩
  by_cases h0:len=0
  ·exact .inl (by subst h0;simp)
  ·obtain ⟨b,o,rfl⟩:=add_none (hcell 0 (by omega)) ⟨_,hcell 0 (by omega)⟩
   have hb:=World.block_lt_of_cell? w _ (hcell 0 (by omega))
   rw [add_mk] at hb
   refine .inr ⟨b,o,rfl,hb,fun i hi=>?_⟩
   have:=hcell i (by omega)
   rw [add_mk] at this
   rw [this]
   have hi':i<len:=by omega
   simp [List.getD,List.getElem?_take_of_lt hi']
theorem wrs_of_trod {t e:TypeId} {f0 f1:Field} {fuel:Nat} {v:Value} {x:DataW H×List MemPlace} (ht:P.underlying t=some (.slice e)) (he:P.underlying e=some (.struct #[f0,f1]))
  (ce:P.cellsOf e=2) (o0:f0.offset=0) (o1:f1.offset=1) (c0:P.cellsOf f0.type=1) (c1:P.cellsOf f1.type=1) (t0:P.underlying f0.type=some (.int .i64)) (t1:P.underlying f1.type=some .string)
  (h:DataW.trod enc P w base spare held fuel t [v]=some x):∃ a ws c,v=.slice a ws.length c/\Wrs w a ws/\ws.length<=maxLen/\(∀ s∈ws,s.2.size<=maxLen)/\∀ s∈ws,(Lit.int .i64 s.1).wf=true:=by
 rcases open_slice_pairs ht he ce o0 o1 c0 c1 h with ⟨hcs,_⟩ | ⟨a,len,cap,m,n,V0,V1,D0,D1,P0,P1,hcs,_,hl,hm,hz,_,hcell⟩
 ·simp at hcs
  exact ⟨none,[],0,by simpa using hcs,.inl rfl,by simp,by simp,by simp⟩
 ·simp at hcs
  have hlm:len<=m:=by rw [hz];split<;>omega
  have each:∀ i,i<len->∃ q:Int×ByteArray,w.cell? (a.add (i*2))=some (.int .i64 q.1)/\w.cell? (a.add (i*2+1))=some (.string q.2)/\q.2.size<=maxLen/\(Lit.int .i64 q.1).wf=true:=by
   intro i hi
   obtain ⟨h1,h2,h3,h4⟩:=hcell i (by omega)
   obtain ⟨y,ey,_,wy⟩:=DataW.trod_int t0 h3
   obtain ⟨s,es,_,ws⟩:=DataW.trod_string t1 h4
   simp at ey es
   rw [ey] at h1
   rw [es] at h2
   exact ⟨(y,s),h1,h2,ws,wy⟩
  obtain ⟨q,hq⟩:=choose_lt each
  have e1:((List.range len).map q).length=len:=by simp
  refine ⟨some a,(List.range len).map q,cap,by rw [e1];exact hcs,?_,by omega,fun s hs=>?_,fun s hs=>?_⟩
  ·by_cases h0:len=0
   ·exact .inl (by subst h0;simp)
   ·have hq0:=(hq 0 (by omega)).1
    obtain ⟨b,o,rfl⟩:=add_none hq0 ⟨_,hq0⟩
    have hb:=World.block_lt_of_cell? w _ hq0
    rw [add_mk] at hb
    refine .inr ⟨b,o,rfl,hb,fun i hi=>?_⟩
    rw [e1] at hi
    obtain ⟨h1,h2,_⟩:=hq i hi
    rw [add_mk] at h1 h2
    simp [List.getD,hi,h1,<-Nat.add_assoc] at h2 ⊢
    exact h2
  ·obtain ⟨i,hi,rfl⟩:=List.mem_map.1 hs
   exact (hq i (by simpa using hi)).2.2.1
  ·obtain ⟨i,hi,rfl⟩:=List.mem_map.1 hs
   exact (hq i (by simpa using hi)).2.2.2
end
end Go.Proofs.YtcoegjnjjdndjaaGreatDoor
namespace Go.Proofs.YtcoegjnjjdndjaaGreatDoor
open Go.RowKit Go.ChangeShapes Go.WideShapes Go.Deep
section
variable {H:Type} {enc:TypeId×Value->H} {P:Program} {w:World} {base:Nat} {spare:Nat->Bool} {held:Bool}
theorem prs_of_trod {t e:TypeId} {f0 f1:Field} {fuel:Nat} {v:Value} {x:DataW H×List MemPlace} (ht:P.underlying t=some (.slice e)) (he:P.underlying e=some (.struct #[f0,f1]))
  (ce:P.cellsOf e=2) (o0:f0.offset=0) (o1:f1.offset=1) (c0:P.cellsOf f0.type=1) (c1:P.cellsOf f1.type=1) (t0:P.underlying f0.type=some .string) (t1:P.underlying f1.type=some .string)
  (h:DataW.trod enc P w base spare held fuel t [v]=some x):∃ a rs c,v=.slice a rs.length c/\Prs w a rs/\rs.length<=maxLen/\(∀ s∈rs,s.1.size<=maxLen/\s.2.size<=maxLen):=by
 rcases open_slice ht h with ⟨hcs,_⟩ | ⟨a,len,cap,m,n,D,Pl,hcs,hb,hl,hm,hmm,_,hx⟩
 ·simp at hcs
  exact ⟨none,[],0,by simpa using hcs,.inl rfl,by simp,by simp⟩
 ·simp at hcs
  have hlm:len<=m:=by rw [hmm];split<;>omega
  have each:∀ i,i<len->∃ q:ByteArray×ByteArray,w.cell? (a.add (i*2))=some (.string q.1)/\w.cell? (a.add (i*2+1))=some (.string q.2)/\q.1.size<=maxLen/\q.2.size<=maxLen:=by
   intro i hi
   obtain ⟨cs',h1,h2⟩:=hx i (by omega)
   rw [ce] at h1
   obtain ⟨_,hlen,hcell⟩:=World.cells?_some h1
   obtain ⟨xs,k,hk,hxy,_,hxl,hf⟩:=DataW.trod_struct he h2
   match xs,hxl,cs',hlen with
   | [y0,y1],_,[v0,v1],_ =>
    have g0:=hf 0 f0 rfl
    have g1:=hf 1 f1 rfl
    simp [o0,o1,c0,c1] at g0 g1
    have e0:=hcell 0 (by omega)
    have e1:=hcell 1 (by omega)
    rw [add_add] at e0 e1
    obtain ⟨z0,ez0,_,wz0⟩:=DataW.trod_string t0 g0
    simp at ez0
    subst ez0
    obtain ⟨z1,ez1,_,wz1⟩:=DataW.trod_string t1 g1
    simp at ez1
    subst ez1
    exact ⟨(z0,z1),by simpa using e0,by simpa using e1,wz0,wz1⟩
  obtain ⟨q,hq⟩:=choose_lt each
  have e1:((List.range len).map q).length=len:=by simp
  refine ⟨some a,(List.range len).map q,cap,by rw [e1];exact hcs,?_,by omega,fun s hs=>?_⟩
  ·by_cases h0:len=0
   ·exact .inl (by subst h0;simp)
   ·have hq0:=(hq 0 (by omega)).1
    obtain ⟨b,o,rfl⟩:=add_none hq0 ⟨_,hq0⟩
    have hb:=World.block_lt_of_cell? w _ hq0
    rw [add_mk] at hb
    refine .inr ⟨b,o,rfl,hb,fun i hi=>?_⟩
    rw [e1] at hi
    obtain ⟨h0,h1,_⟩:=hq i hi
    rw [add_mk] at h0 h1
    have eg:((List.range len).map q).getD i (ByteArray.empty,ByteArray.empty)=q i:=by simp [List.getD,hi]
    rw [eg]
    exact ⟨h0,by rw [Nat.add_assoc];exact h1⟩
  ·obtain ⟨i,hi,rfl⟩:=List.mem_map.1 hs
   exact (hq i (by simpa using hi)).2.2
end
end Go.Proofs.YtcoegjnjjdndjaaGreatDoor
namespace Go.Proofs.YtcoegjnjjdndjaaGreatDoor
open Go.RowKit Go.ChangeShapes Go.WideShapes Go.Deep Go.Joins
section
variable {H:Type} {enc:TypeId×Value->H} {w:World} {base:Nat} {spare:Nat->Bool} {held:Bool}
theorem openS {P:Program} {t:TypeId} {f0:Field} {n:Nat} {cs:List Value} {x:DataW H×List MemPlace} (hs:P.underlying t=some (.struct #[f0])) (o0:f0.offset=0) (k0:P.cellsOf f0.type=1) (hC:P.cellsOf t=1) (h:DataW.trod enc P w base spare held n t cs=some x) :
  ∃ (c0:Value) (y0:DataW H×List MemPlace) (m:Nat),cs=[c0]/\DataW.trod enc P w base spare held m f0.type [c0]=some y0:=by
 obtain ⟨xs,m,_,_,hl,hxl,hf⟩:=DataW.trod_struct hs h
 rw [hC] at hl
 match cs,hl,xs,hxl with
 | [c0],_,[y0],_ =>
  have g0:=hf 0 f0 rfl
  rw [o0,k0] at g0
  exact ⟨c0,y0,m,rfl,g0⟩
theorem cells2':Tryz.prog.cellsOf 181=2:=by kernel_rfl
theorem state_of_trod {n:Nat} {cs:List Value} {x:DataW H×List MemPlace} (h:DataW.trod enc Tryz.prog w base spare held n 30 cs=some x):∃ a rs c,cs=[.slice a rs.length c]/\Prs w a rs/\rs.length<=maxLen/\(∀ s∈rs,s.1.size<=maxLen/\s.2.size<=maxLen):=by
 obtain ⟨c0,y0,m,rfl,g0⟩:=openS Tryz.underlying30 rfl (by kernel_rfl) (by kernel_rfl) h
 obtain ⟨a,rs,c,rfl,h1,h2,h3⟩:=prs_of_trod Tryz.underlying28 Tryz.underlying181 cells2' rfl rfl (by kernel_rfl) (by kernel_rfl) Tryz.underlying9 Tryz.underlying9 g0
 exact ⟨a,rs,c,rfl,h1,h2,h3⟩
theorem int_of_trod {n:Nat} {v:Value} {x:DataW H×List MemPlace} (h:DataW.trod enc Tryz.prog w base spare held n 3 [v]=some x):∃ a,v=.int .i64 a:=by
 obtain ⟨a,e,_,_⟩:=DataW.trod_int Tryz.underlying3 h
 simp at e
 exact ⟨a,e⟩
end
end Go.Proofs.YtcoegjnjjdndjaaGreatDoor
namespace Go.Proofs.YtcoegjnjjdndjaaGreatDoor
open Go.RowKit Go.ChangeShapes Go.WideShapes Go.Deep Go.Joins
section
variable {H:Type} {enc:TypeId×Value->H} {w:World} {base:Nat} {spare:Nat->Bool} {held:Bool}
theorem openR {P:Program} {t:TypeId} {f0 f1 f2 f3:Field} {n:Nat} {cs:List Value} {x:DataW H×List MemPlace} (hs:P.underlying t=some (.struct #[f0,f1,f2,f3])) (o0:f0.offset=0) (o1:f1.offset=1) (o2:f2.offset=2) (o3:f3.offset=3) (k0:P.cellsOf f0.type=1) (k1:P.cellsOf f1.type=1) (k2:P.cellsOf f2.type=1) (k3:P.cellsOf f3.type=1) (hC:P.cellsOf t=4) (h:DataW.trod enc P w base spare held n t cs=some x) :
  ∃ (c0 c1 c2 c3:Value) (y0 y1 y2 y3:DataW H×List MemPlace) (m:Nat),cs=[c0,c1,c2,c3]/\DataW.trod enc P w base spare held m f0.type [c0]=some y0/\DataW.trod enc P w base spare held m f1.type [c1]=some y1/\DataW.trod enc P w base spare held m f2.type [c2]=some y2/\DataW.trod enc P w base spare held m f3.type [c3]=some y3:=by
 obtain ⟨xs,m,_,_,hl,hxl,hf⟩:=DataW.trod_struct hs h
 rw [hC] at hl
 match cs,hl,xs,hxl with
 | [c0,c1,c2,c3],_,[y0,y1,y2,y3],_ =>
  have g0:=hf 0 f0 rfl
  rw [o0,k0] at g0
  have g1:=hf 1 f1 rfl
  rw [o1,k1] at g1
  have g2:=hf 2 f2 rfl
  rw [o2,k2] at g2
  have g3:=hf 3 f3 rfl
  rw [o3,k3] at g3
  exact ⟨c0,c1,c2,c3,y0,y1,y2,y3,m,rfl,g0,g1,g2,g3⟩
theorem openT {P:Program} {t:TypeId} {f0 f1 f2 f3 f4 f5 f6:Field} {n:Nat} {cs:List Value} {x:DataW H×List MemPlace} (hs:P.underlying t=some (.struct #[f0,f1,f2,f3,f4,f5,f6])) (o0:f0.offset=0) (o1:f1.offset=1) (o2:f2.offset=2) (o3:f3.offset=3) (o4:f4.offset=7) (o5:f5.offset=8) (o6:f6.offset=9) (k0:P.cellsOf f0.type=1) (k1:P.cellsOf f1.type=1) (k2:P.cellsOf f2.type=1) (k3:P.cellsOf f3.type=4) (k4:P.cellsOf f4.type=1) (k5:P.cellsOf f5.type=1) (k6:P.cellsOf f6.type=1) (hC:P.cellsOf t=10) (h:DataW.trod enc P w base spare held n t cs=some x) :
  ∃ (c0 c1 c2 c3 c4 c5 c6 c7 c8 c9:Value) (y0 y1 y2 y3 y4 y5 y6:DataW H×List MemPlace) (m:Nat),cs=[c0,c1,c2,c3,c4,c5,c6,c7,c8,c9]/\DataW.trod enc P w base spare held m f0.type [c0]=some y0/\DataW.trod enc P w base spare held m f1.type [c1]=some y1/\DataW.trod enc P w base spare held m f2.type [c2]=some y2/\DataW.trod enc P w base spare held m f3.type [c3,c4,c5,c6]=some y3/\DataW.trod enc P w base spare held m f4.type [c7]=some y4/\DataW.trod enc P w base spare held m f5.type [c8]=some y5/\DataW.trod enc P w base spare held m f6.type [c9]=some y6:=by
 obtain ⟨xs,m,_,_,hl,hxl,hf⟩:=DataW.trod_struct hs h
 rw [hC] at hl
 match cs,hl,xs,hxl with
 | [c0,c1,c2,c3,c4,c5,c6,c7,c8,c9],_,[y0,y1,y2,y3,y4,y5,y6],_ =>
  have g0:=hf 0 f0 rfl
  rw [o0,k0] at g0
  have g1:=hf 1 f1 rfl
  rw [o1,k1] at g1
  have g2:=hf 2 f2 rfl
  rw [o2,k2] at g2
  have g3:=hf 3 f3 rfl
  rw [o3,k3] at g3
  have g4:=hf 4 f4 rfl
  rw [o4,k4] at g4
  have g5:=hf 5 f5 rfl
  rw [o5,k5] at g5
  have g6:=hf 6 f6 rfl
  rw [o6,k6] at g6
  exact ⟨c0,c1,c2,c3,c4,c5,c6,c7,c8,c9,y0,y1,y2,y3,y4,y5,y6,m,rfl,g0,g1,g2,g3,g4,g5,g6⟩
theorem root_of_trod {n:Nat} {cs:List Value} {x:DataW H×List MemPlace} (h:DataW.trod enc Tryz.prog w base spare held n 27 cs=some x):∃ T Hh F R,cs=[.int .i64 T,.int .i64 Hh,.int .i64 F,.int .i64 R]:=by
 obtain ⟨c0,c1,c2,c3,y0,y1,y2,y3,m,rfl,g0,g1,g2,g3⟩:=openR Tryz.underlying27 rfl rfl rfl rfl (by kernel_rfl) (by kernel_rfl) (by kernel_rfl) (by kernel_rfl) (by kernel_rfl) h
 obtain ⟨a0,rfl⟩:=int_of_trod g0
 obtain ⟨a1,rfl⟩:=int_of_trod g1
 obtain ⟨a2,rfl⟩:=int_of_trod g2
 obtain ⟨a3,rfl⟩:=int_of_trod g3
 exact ⟨a0,a1,a2,a3,rfl⟩
theorem store_of_trod {n:Nat} {cs:List Value} {x:DataW H×List MemPlace} (h:DataW.trod enc Tryz.prog w base spare held n 32 cs=some x):∃ W S L T Hh F R U O a rs c,cs=[.int .i64 W,.int .i64 S,.int .i64 L,.int .i64 T,.int .i64 Hh,.int .i64 F,.int .i64 R,.int .i64 U,.int .i64 O,.slice a rs.length c]/\Prs w a rs/\rs.length<=maxLen/\(∀ s∈rs,s.1.size<=maxLen/\s.2.size<=maxLen):=by
 obtain ⟨c0,c1,c2,c3,c4,c5,c6,c7,c8,c9,y0,y1,y2,y3,y4,y5,y6,m,rfl,g0,g1,g2,g3,g4,g5,g6⟩:=openT Tryz.underlying32 rfl rfl rfl rfl rfl rfl rfl (by kernel_rfl) (by kernel_rfl) (by kernel_rfl) (by kernel_rfl) (by kernel_rfl) (by kernel_rfl) (by kernel_rfl) (by kernel_rfl) h
 obtain ⟨a0,rfl⟩:=int_of_trod g0
 obtain ⟨a1,rfl⟩:=int_of_trod g1
 obtain ⟨a2,rfl⟩:=int_of_trod g2
 obtain ⟨T,Hh,F,R,e3⟩:=root_of_trod g3
 obtain ⟨a4,rfl⟩:=int_of_trod g4
 obtain ⟨a5,rfl⟩:=int_of_trod g5
 obtain ⟨a,rs,c,e6,h1,h2,h3⟩:=state_of_trod g6
 simp only [List.cons.injEq,and_true] at e3 e6
 obtain ⟨rfl,rfl,rfl,rfl⟩:=e3
 subst e6
 exact ⟨a0,a1,a2,T,Hh,F,R,a4,a5,a,rs,c,rfl,h1,h2,h3⟩
end
end Go.Proofs.YtcoegjnjjdndjaaGreatDoor
