import Derived.Test.YtcoegjnjjdndjaaGreatDoorPrWoB
import Derived.Test.YtcoegjnjjdndjaaGreatDoorPrVStS
import Derived.Test.YtcoegjnjjdndjaaGreatDoorPrVStI
import Derived.Test.YtcoegjnjjdndjaaGreatDoorPrG37
import Derived.Test.YtcoegjnjjdndjaaGreatDoorPrG48
import Derived.Test.YtcoegjnjjdndjaaGreatDoorPrVS
import Derived.Test.YtcoegjnjjdndjaaGreatDoorPrG36
import Derived.Test.YtcoegjnjjdndjaaGreatDoorPrG38
import Derived.Deep.Slices
import Derived.ProofKit
import Derived.ChangeOld
import Derived.Test.YtcoegjnjjdndjaaGreatDoorPrG39
set_option maxHeartbeats 16000000
set_option maxRecDepth 8000
set_option linter.unusedVariables false
set_option linter.unusedSimpArgs false
namespace Go.Proofs.YtcoegjnjjdndjaaGreatDoor
open Go.RowKit
def noStore (x:Wo):Bool:=decide (x.W=0/\x.S=0/\x.L=0/\(x.T=0/\x.H=0/\x.F=0/\x.R=0)/\x.U=0/\x.O=0/\x.rs.length=0)
def itsStore (x:Wo):Bool:=if x.up=true then storeOk x.W x.S x.L x.T x.H x.F x.R x.U x.O x.rs && decide (x.W=x.w/\x.S=(x.ss.length:Int)) else noStore x
def pastOk (P:List (List (ByteArray×ByteArray))):Bool:=decide (1<=P.length/\P.length<=200) && P.all stateOk
def wrtOk (ts:List ByteArray):Bool:=decide (ts.length<=2000) && ts.all fun s=>decide (s.size=64)
def worldOk (x:Wo):Bool:=decide (1<=x.w/\x.w<=8) && (diskOk x.ss x.ws && (itsStore x && (pastOk x.P && wrtOk x.ts)))
set_option maxHeartbeats 16000000 in
theorem past_i (a:Option Addr) (P:List (List (ByteArray×ByteArray))) (c:Nat) (w:World) (h:Pst w a P) (hl:P.length<=1048576) (hs:∀ rs∈P,rs.length<=1048576/\∀ s∈rs,s.1.size<=1048576/\s.2.size<=1048576) :
  Calls Tryz.prog 60 #[.slice a P.length c] w fun e w'=>e=.returned (.bool (pastOk P))/\Below w.heap.size w w':=by
 by_cases h1:P.length<1
 ·have e:pastOk P=false:=by unfold pastOk;rw [decide_eq_false (by omega)];rfl
  rw [e]
  have h1':(P.length:Int)<1:=by omega
  go_enter Tryz.func60,Tryz.ntmps60
  go_wp2
  go_ret
  exact ⟨rfl,Below.refl _ _⟩
 have h1':¬ (P.length:Int)<1:=by omega
 by_cases h2:200<P.length
 ·have e:pastOk P=false:=by unfold pastOk;rw [decide_eq_false (by omega)];rfl
  rw [e]
  have h2':(200:Int)<(P.length:Int):=by omega
  go_enter Tryz.func60,Tryz.ntmps60
  go_wp2
  go_ret
  exact ⟨rfl,Below.refl _ _⟩
 have h2':¬ (200:Int)<(P.length:Int):=by omega
 have HN:Hid (∀ k,k<P.length->stateOk (P.getD k [])=false->pastOk P=false):=fun k hk hx=>by
  unfold pastOk
  have:P.all stateOk=false:=List.all_eq_false.2 ⟨P.getD k [],by simp [List.getD,hk],by rw [hx];simp⟩
  rw [this,Bool.and_false]
 have HY:Hid ((∀ k,k<P.length->stateOk (P.getD k [])=true)->pastOk P=true):=fun hx=>by
  unfold pastOk
  rw [decide_eq_true (by omega),Bool.true_and]
  refine List.all_eq_true.2 fun rs hr=>?_
  obtain ⟨k,hk,rfl⟩:=List.getElem_of_mem hr
  have:=hx k hk
  simpa [List.getD,hk] using this
 obtain ⟨B,HB⟩:∃ B,Hid (B=pastOk P):=⟨_,hid rfl⟩
 rw [<-HB.out] at HN HY ⊢
 clear h1 h2
 go_enter Tryz.func60,Tryz.ntmps60
 go_wp2
 go_loopw [4,15] (fun _ i wr=>∃ k:Nat,k<=P.length/\i=.int .i64 (k:Int)/\Hid (∀ j,j<k->stateOk (P.getD j [])=true)/\Below w.heap.size w wr) (fun _ i _=>P.length-(intOf i).toNat)
 case atStart=>exact ⟨0,Nat.zero_le _,rfl,fun j hj=>absurd hj (by omega),Below.refl _ _⟩
 case round =>
  obtain ⟨k,hk,rfl,HA,hbel⟩:=hrel
  by_cases hlt:k<P.length
  ·obtain ⟨b,o,p,cp,rfl,hb0,hc0,HP⟩:=(h.below hbel).at hlt
   obtain ⟨rs,HRS⟩:∃ rs,Hid (rs=P.getD k []):=⟨_,hid rfl⟩
   rw [<-HRS.out] at hc0 HP
   have hmem:rs∈P:=by rw [HRS.out];simp [List.getD,hlt]
   have HV:=hid (fun ob=>vstate_i p rs cp (wr.alloc ob) (HP.out.below (below_new _ _)) (hs rs hmem).1 (hs rs hmem).2)
   have HBL:=hid hbel
   clear hbel
   cases hst:stateOk rs with
   | false =>
    rw [hst] at HV
    obtain rfl:B=false:=HN.out k hlt (by rw [<-HRS.out];exact hst)
    go_wp2_with (go_at_call 101;refine (HV.out _).mono ?_;rintro e w2 ⟨rfl,hb2⟩)
    go_ret
    exact ⟨rfl,HBL.out.trans (((below_new wr _).trans (hb2.mono (by simp))).mono HBL.out.size)⟩
   | true =>
    rw [hst] at HV
    go_wp2_with (go_at_call 101;refine (HV.out _).mono ?_;rintro e w2 ⟨rfl,hb2⟩)
    go_roundw
    case rel=>exact ⟨k+1,by omega,by go_num,fun j hj=>by
     by_cases e:j=k
     ·subst e;rw [<-HRS.out];exact hst
     ·exact HA.out j (by omega),HBL.out.trans (((below_new wr _).trans (hb2.mono (by simp))).mono HBL.out.size)⟩
    case measure=>simp [intOf];omega
  ·obtain rfl:B=true:=HY.out (fun j hj=>HA.out j (by omega))
   go_wp2
   go_ret
   exact ⟨rfl,hbel⟩
set_option maxHeartbeats 16000000 in
theorem wrt_i (a:Option Addr) (ts:List ByteArray) (c:Nat) (w:World) (h:Strs w a ts) (hl:ts.length<=1048576) (hs:∀ s∈ts,s.size<=1048576) :
  Calls Tryz.prog 61 #[.slice a ts.length c] w fun e w'=>e=.returned (.bool (wrtOk ts))/\Below w.heap.size w w':=by
 by_cases h2:2000<ts.length
 ·have e:wrtOk ts=false:=by unfold wrtOk;rw [decide_eq_false (by omega)];rfl
  rw [e]
  have h2':(2000:Int)<(ts.length:Int):=by omega
  go_enter Tryz.func61,Tryz.ntmps61
  go_wp2
  go_ret
  exact ⟨rfl,Below.refl _ _⟩
 have h2':¬ (2000:Int)<(ts.length:Int):=by omega
 have HN:Hid (∀ k,k<ts.length->¬ (ts.getD k ByteArray.empty).size=64->wrtOk ts=false):=fun k hk hx=>by
  unfold wrtOk
  have:(ts.all fun s=>decide (s.size=64))=false:=List.all_eq_false.2 ⟨ts.getD k ByteArray.empty,by simp [List.getD,hk],by simpa using hx⟩
  rw [this,Bool.and_false]
 have HY:Hid ((∀ k,k<ts.length->(ts.getD k ByteArray.empty).size=64)->wrtOk ts=true):=fun hx=>by
  unfold wrtOk
  rw [decide_eq_true (by omega),Bool.true_and]
  refine List.all_eq_true.2 fun s hr=>?_
  obtain ⟨k,hk,rfl⟩:=List.getElem_of_mem hr
  have:=hx k hk
  simpa [List.getD,hk] using this
 obtain ⟨B,HB⟩:∃ B,Hid (B=wrtOk ts):=⟨_,hid rfl⟩
 rw [<-HB.out] at HN HY ⊢
 clear h2
 go_enter Tryz.func61,Tryz.ntmps61
 go_wp2
 go_loopw [4,10] (fun _ i wr=>∃ k:Nat,k<=ts.length/\i=.int .i64 (k:Int)/\Hid (∀ j,j<k->(ts.getD j ByteArray.empty).size=64)/\wr=w) (fun _ i _=>ts.length-(intOf i).toNat)
 case atStart=>exact ⟨0,Nat.zero_le _,rfl,fun j hj=>absurd hj (by omega),rfl⟩
 case round =>
  obtain ⟨k,hk,rfl,HA,rfl⟩:=hrel
  by_cases hlt:k<ts.length
  ·obtain ⟨b,o,s,rfl,hc,HS⟩:=h.at hlt
   have hsz:=hs s (by rw [HS.out];simp [List.getD,hlt])
   by_cases h64:s.size=64
   ·have h64':(s.size:Int)=64:=by omega
    go_wp2
    go_roundw
    case rel=>exact ⟨k+1,by omega,by go_num,fun j hj=>by
     by_cases e:j=k
     ·subst e;rw [<-HS.out];exact h64
     ·exact HA.out j (by omega),by first | rfl | trivial⟩
    case measure=>simp [intOf];omega
   ·have h64':¬ (s.size:Int)=64:=by omega
    obtain rfl:B=false:=HN.out k hlt (by rw [<-HS.out];exact h64)
    go_wp2
    go_ret
    exact ⟨rfl,Below.refl _ _⟩
  ·obtain rfl:B=true:=HY.out (fun j hj=>HA.out j (by omega))
   go_wp2
   go_ret
   exact ⟨rfl,Below.refl _ _⟩
set_option maxHeartbeats 16000000 in
theorem nothing_i (x:Wo) (q:Wp) (w:World) (hl:x.rs.length<=1048576) :
  Calls Tryz.prog 99 #[storeV x.W x.S x.L x.T x.H x.F x.R x.U x.O q.s x.rs.length q.cs] w fun e w'=>e=.returned (.bool (noStore x))/\Below w.heap.size w w':=by
 unfold storeV
 by_cases h0:x.W=0
 rotate_left
 ·have e:noStore x=false:=decide_eq_false (fun hh=>h0 hh.1)
  rw [e]
  go_enter Tryz.func99,Tryz.ntmps99
  go_wp2
  go_ret
  exact ⟨rfl,below_new _ _⟩
 by_cases h1:x.S=0
 rotate_left
 ·have e:noStore x=false:=decide_eq_false (fun hh=>h1 hh.2.1)
  rw [e]
  go_enter Tryz.func99,Tryz.ntmps99
  go_wp2
  go_ret
  exact ⟨rfl,below_new _ _⟩
 by_cases h2:x.L=0
 rotate_left
 ·have e:noStore x=false:=decide_eq_false (fun hh=>h2 hh.2.2.1)
  rw [e]
  go_enter Tryz.func99,Tryz.ntmps99
  go_wp2
  go_ret
  exact ⟨rfl,below_new _ _⟩
 by_cases h3:(x.T=0/\x.H=0/\x.F=0/\x.R=0)
 rotate_left
 ·have e:noStore x=false:=decide_eq_false (fun hh=>h3 hh.2.2.2.1)
  rw [e]
  have h3':(Value.agg #[.int .i64 x.T,.int .i64 x.H,.int .i64 x.F,.int .i64 x.R]=Value.agg #[.int .i64 0,.int .i64 0,.int .i64 0,.int .i64 0])=False:=by simp;omega
  go_enter Tryz.func99,Tryz.ntmps99
  go_wp2
  all_goals (go_ret;exact ⟨rfl,below_new _ _⟩)
 by_cases h4:x.U=0
 rotate_left
 ·have e:noStore x=false:=decide_eq_false (fun hh=>h4 hh.2.2.2.2.1)
  rw [e]
  go_enter Tryz.func99,Tryz.ntmps99
  go_wp2
  go_ret
  exact ⟨rfl,below_new _ _⟩
 by_cases h5:x.O=0
 rotate_left
 ·have e:noStore x=false:=decide_eq_false (fun hh=>h5 hh.2.2.2.2.2.1)
  rw [e]
  go_enter Tryz.func99,Tryz.ntmps99
  go_wp2
  go_ret
  exact ⟨rfl,below_new _ _⟩
 by_cases h6:x.rs.length=0
 rotate_left
 ·have e:noStore x=false:=decide_eq_false (fun hh=>h6 hh.2.2.2.2.2.2)
  rw [e]
  have h6':¬ (x.rs.length:Int)=0:=by omega
  go_enter Tryz.func99,Tryz.ntmps99
  go_wp2
  go_ret
  have e6:((x.rs.length:Int) == 0)=false:=beq_eq_false_iff_ne.2 h6'
  exact ⟨by show Ending.returned (Value.bool ((x.rs.length:Int) == 0))=_;rw [e6],below_new _ _⟩
 have e:noStore x=true:=decide_eq_true ⟨h0,h1,h2,h3,h4,h5,h6⟩
 rw [e]
 obtain ⟨h30,h31,h32,h33⟩:=h3
 have h6':(x.rs.length:Int)=0:=by omega
 go_enter Tryz.func99,Tryz.ntmps99
 go_wp2
 go_ret
 exact ⟨rfl,below_new _ _⟩
set_option maxHeartbeats 16000000 in
theorem nothing_s (x:Wo) (q:Wp) (w:World) (hl:x.rs.length<=1048576) :
  Calls Tryz.prog 43 #[storeV x.W x.S x.L x.T x.H x.F x.R x.U x.O q.s x.rs.length q.cs] w fun e w'=>e=.returned (.bool (noStore x))/\Below w.heap.size w w':=by
 unfold storeV
 by_cases h0:x.W=0
 rotate_left
 ·have e:noStore x=false:=decide_eq_false (fun hh=>h0 hh.1)
  rw [e]
  go_enter Tryz.func43,Tryz.ntmps43
  go_wp2
  go_ret
  exact ⟨rfl,below_new _ _⟩
 by_cases h1:x.S=0
 rotate_left
 ·have e:noStore x=false:=decide_eq_false (fun hh=>h1 hh.2.1)
  rw [e]
  go_enter Tryz.func43,Tryz.ntmps43
  go_wp2
  go_ret
  exact ⟨rfl,below_new _ _⟩
 by_cases h2:x.L=0
 rotate_left
 ·have e:noStore x=false:=decide_eq_false (fun hh=>h2 hh.2.2.1)
  rw [e]
  go_enter Tryz.func43,Tryz.ntmps43
  go_wp2
  go_ret
  exact ⟨rfl,below_new _ _⟩
 by_cases h3:(x.T=0/\x.H=0/\x.F=0/\x.R=0)
 rotate_left
 ·have e:noStore x=false:=decide_eq_false (fun hh=>h3 hh.2.2.2.1)
  rw [e]
  have h3':(Value.agg #[.int .i64 x.T,.int .i64 x.H,.int .i64 x.F,.int .i64 x.R]=Value.agg #[.int .i64 0,.int .i64 0,.int .i64 0,.int .i64 0])=False:=by simp;omega
  go_enter Tryz.func43,Tryz.ntmps43
  go_wp2
  all_goals (go_ret;exact ⟨rfl,below_new _ _⟩)
 by_cases h4:x.U=0
 rotate_left
 ·have e:noStore x=false:=decide_eq_false (fun hh=>h4 hh.2.2.2.2.1)
  rw [e]
  go_enter Tryz.func43,Tryz.ntmps43
  go_wp2
  go_ret
  exact ⟨rfl,below_new _ _⟩
 by_cases h5:x.O=0
 rotate_left
 ·have e:noStore x=false:=decide_eq_false (fun hh=>h5 hh.2.2.2.2.2.1)
  rw [e]
  go_enter Tryz.func43,Tryz.ntmps43
  go_wp2
  go_ret
  exact ⟨rfl,below_new _ _⟩
 by_cases h6:x.rs.length=0
 rotate_left
 ·have e:noStore x=false:=decide_eq_false (fun hh=>h6 hh.2.2.2.2.2.2)
  rw [e]
  have h6':¬ (x.rs.length:Int)=0:=by omega
  go_enter Tryz.func43,Tryz.ntmps43
  go_wp2
  go_ret
  have e6:((x.rs.length:Int) == 0)=false:=beq_eq_false_iff_ne.2 h6'
  exact ⟨by show Ending.returned (Value.bool ((x.rs.length:Int) == 0))=_;rw [e6],below_new _ _⟩
 have e:noStore x=true:=decide_eq_true ⟨h0,h1,h2,h3,h4,h5,h6⟩
 rw [e]
 obtain ⟨h30,h31,h32,h33⟩:=h3
 have h6':(x.rs.length:Int)=0:=by omega
 go_enter Tryz.func43,Tryz.ntmps43
 go_wp2
 go_ret
 exact ⟨rfl,below_new _ _⟩
structure Win (lo hi:Nat) (w w':World):Prop where
 os:w'.os=w.os
 tape:w'.tape=w.tape
 output:w'.output=w.output
 size:w.heap.size<=w'.heap.size
 block:∀ b,b<w.heap.size->(b<lo\/hi<=b)->w'.heap[b]?=w.heap[b]?
theorem Win.refl (lo hi:Nat) (w:World):Win lo hi w w:=⟨rfl,rfl,rfl,Nat.le_refl _,fun _ _ _=>rfl⟩
theorem Win.trans {lo hi:Nat} {a b c:World} (h:Win lo hi a b) (k:Win lo hi b c):Win lo hi a c :=
 ⟨k.os.trans h.os,k.tape.trans h.tape,k.output.trans h.output,Nat.le_trans h.size k.size,fun i hi hr=>(k.block i (Nat.lt_of_lt_of_le hi h.size) hr).trans (h.block i hi hr)⟩
theorem Win.wide {lo hi lo' hi':Nat} {a b:World} (h:Win lo hi a b) (h1:lo'<=lo) (h2:hi<=hi'):Win lo' hi' a b:=⟨h.os,h.tape,h.output,h.size,fun i hi hr=>h.block i hi (by omega)⟩
theorem win_below {lo hi:Nat} {a b:World} (h:Below a.heap.size a b):Win lo hi a b:=⟨h.os,h.tape,h.output,h.size,fun i hi _=>h.block i hi⟩
theorem win_grown {lo hi:Nat} {a b:World} {r:Option Nat} (h:a.grownBy b r) (hr:∀ g,r=some g->lo<=g/\g<hi):Win lo hi a b :=
 ⟨h.os,h.tape,h.output,h.size,fun i hi hn=>h.block i hi (fun e=>by have:=hr i e.symm;omega)⟩
theorem Win.below {lo hi B:Nat} {a b:World} (h:Win lo hi a b) (h1:B<=lo) (h2:B<=a.heap.size):Below B a b:=⟨h.os,h.tape,h.output,h.size,fun k hk=>h.block k (by omega) (by omega)⟩
theorem Row.win {lo hi g:Nat} {w w':World} {cs:List Value} (r:Row w g cs) (h:Win lo hi w w') (hg:g<lo\/hi<=g):Row w' g cs:=row_same r (h.block g r.lt hg) (Nat.lt_of_lt_of_le r.lt h.size)
theorem Dep.win {w w':World} {lo hi lo' hi':Nat} {F:World->Prop} (h:Dep w lo hi F) (k:Win lo' hi' w w') (hr:hi<=lo'\/hi'<=lo):Dep w' lo hi F:=by
 have key:∀ b,lo<=b->b<hi->w'.heap[b]?=w.heap[b]?:=fun b h1 h2=>k.block b (Nat.lt_of_lt_of_le h2 h.top) (by omega)
 exact ⟨h.keep w' key (Nat.le_trans h.top k.size),Nat.le_trans h.top k.size,fun w2 h2 h3=>h.keep w2 (fun b h4 h5=>(h2 b h4 h5).trans (key b h4 h5)) h3⟩
def tot (P:List (List (ByteArray×ByteArray))):Nat:=(P.map List.length).sum
theorem tot_step (P:List (List (ByteArray×ByteArray))) (j:Nat) (h:j<P.length):tot (P.take (j+1))=tot (P.take j)+(P.getD j []).length:=by
 unfold tot
 rw [List.take_succ_eq_append_getElem h,List.map_append,List.sum_append]
 simp [List.getD,h]
theorem tot_take (P:List (List (ByteArray×ByteArray))) (j:Nat):tot (P.take j)<=tot P:=by
 have e:tot (P.take j++P.drop j)=tot (P.take j)+tot (P.drop j):=by unfold tot;rw [List.map_append,List.sum_append]
 rw [List.take_append_drop] at e
 omega
theorem szL_sum:∀ (l:List Nat) (x:Int),0<=x->0<=szL l x->((l.sum:Nat):Int)<=x
 | [],x,h,_=>by simpa using h
 | n::r,x,h,hz=>by
  by_cases hn:x-(n:Int)<0
  ·rw [szL_cons_lt r hn] at hz;omega
  ·rw [szL_cons_ge r hn] at hz
   have:=szL_sum r (x-n) (by omega) hz
   rw [List.sum_cons]
   omega
theorem tot_sz:∀ P:List (List (ByteArray×ByteArray)),tot P<=(P.flatMap stsz).sum
 | []=>by simp [tot]
 | r::P=>by
  have:=tot_sz P
  unfold tot at this ⊢
  rw [List.flatMap_cons,List.sum_append,List.map_cons,List.sum_cons]
  unfold stsz at this ⊢
  rw [List.sum_cons]
  omega
theorem wsz_tot (x:Wo) (h:0<=szL (wsz x) 1048576):tot x.P<=1048576:=by
 have h1:=szL_sum (wsz x) 1048576 (by omega) h
 have h2:=tot_sz x.P
 unfold wsz at h1
 rw [List.sum_append,List.sum_append,List.sum_append,List.sum_cons] at h1
 omega
set_option maxHeartbeats 16000000 in
theorem mark_pst (g hi:Nat) (P:List (List (ByteArray×ByteArray))) (gs:Nat->Nat) (c k:Nat) (w:World) (h:OwnP w g P gs P.length) (hh:∀ i,i<P.length->gs i<hi) (hk:0<k) (hl:k+2*tot P<=100000000) (hP:P.length<=1048576) :
  Calls Tryz.prog 33 #[.slice (some ⟨g,0,none⟩) P.length c,.int .i64 (k:Int)] w fun e w'=>(∃ n:Nat,e=.returned (.int .i64 (n:Int))/\0<n/\n<=k+2*tot P)/\Win (g+1) hi w w':=by
 go_enter Tryz.func33,Tryz.ntmps33
 go_wp2
 go_loopw [1,5] (fun x i wr=>∃ j:Nat,j<=P.length/\i=.int .i64 (j:Int)/\(∃ n:Nat,x=.int .i64 (n:Int)/\0<n/\n<=k+2*tot (P.take j))/\Win (g+1) hi w wr/\(∀ l,j<=l->l<P.length->Row wr (gs l) (prcells (P.getD l [])))) (fun _ i _=>P.length-(intOf i).toNat)
 case atStart=>exact ⟨0,Nat.zero_le _,rfl,⟨k,rfl,hk,by omega⟩,Win.refl _ _ _,fun l _ hl=>(h.st l hl).1⟩
 case round =>
  obtain ⟨j,hj,rfl,⟨n,rfl,hn0,hn⟩,hwin,hrow⟩:=hrel
  by_cases hlt:j<P.length
  ·have hlt':(j:Int)<(P.length:Int):=by omega
   have hj0:(0:Int)<=(j:Int):=by omega
   have hr:=h.row.win hwin (.inl (by omega))
   have hc:=hr.cell j (.slice (some ⟨gs j,0,none⟩) (P.getD j []).length (P.getD j []).length) (by simp [pcs,hlt])
   have lg:=hr.lt
   have t1:=tot_step P j hlt
   have t2:=tot_take P (j+1)
   have gj:=hh j hlt
   have gg:=(h.st j hlt).2
   have asc:=h.asc
   obtain ⟨rs,HRS⟩:∃ rs,Hid (rs=P.getD j []):=⟨_,hid rfl⟩
   have HE:=hid (fun w' x=>mark_prs (some ⟨gs j,0,none⟩) (P.getD j []) (P.getD j []).length n w' x hn0 (by omega))
   have HR:=hid hrow
   have HW:=hid hwin
   rw [<-HRS.out] at hc HE t1
   obtain ⟨n2,HN2⟩:∃ n2:Nat,Hid (n2=n+2*rs.length):=⟨_,hid rfl⟩
   rw [<-HN2.out] at HE
   clear hwin hr hrow
   go_wp2_with (go_at_call 35;refine (HE.out _ (.inr ⟨gs j,rfl,by rw [HRS.out];exact HR.out j (Nat.le_refl _) hlt⟩)).mono ?_;rintro e w3 ⟨rfl,hg3,_⟩)
   have hN:=HN2.out
   refine ⟨⟨j+1,by omega,by go_num,⟨n2,rfl,by omega,by omega⟩,HW.out.trans (win_grown hg3 (fun q hq=>by have:=blk_is hq;omega)),fun l h1 h2=>(HR.out l (by omega) h2).grown hg3 (fun e=>?_)⟩,by simp [intOf];omega⟩
   have:=blk_is e.symm
   have:=asc j l (by omega) h2
   omega
  ·obtain rfl:j=P.length:=by omega
   rw [List.take_length] at hn
   clear hrow
   go_wp2
   go_ret
   exact ⟨⟨n,rfl,hn0,hn⟩,hwin⟩
set_option maxHeartbeats 16000000 in
theorem mark_wo (x:Wo) (lo hi g1 g2 g3 g4 g5:Nat) (gs:Nat->Nat) (w:World) (h:OwnW x w lo g1 g2 g3 g4 g5 gs) (h5:g5<hi) (hh:hi<=w.heap.size) (hm:x.le 1048576) (ht:tot x.P<=1048576) :
  Calls Tryz.prog 10 #[worldW x (WpOf x g1 g2 g3 g4 g5),.int .i64 1] w fun e w'=>(∃ n:Nat,e=.returned (.int .i64 (n:Int)))/\Win lo hi w w':=by
 obtain ⟨m1,_,m2,_,m3,_,m4,_,m5,_⟩:=hm
 obtain ⟨r1,r2,r3,r4,r5,b1,b2,n12,o13,o23,o34,o45,ogs⟩:=h
 obtain ⟨k1,HK1⟩:∃ k1:Nat,Hid (k1=1+x.ss.length+2*x.ws.length):=⟨_,hid rfl⟩
 obtain ⟨k2,HK2⟩:∃ k2:Nat,Hid (k2=k1+2*x.rs.length):=⟨_,hid rfl⟩
 have e1:=HK1.out
 have e2:=HK2.out
 have CD:=hid (fun w' o=>mark_disk (some ⟨g1,0,none⟩) x.ss x.ss.length (some ⟨g2,0,none⟩) x.ws x.ws.length 1 w' o (by omega) (by omega))
 have CS:=hid (fun w' o=>mark_store x.W x.S x.L x.T x.H x.F x.R x.U x.O (some ⟨g3,0,none⟩) x.rs x.rs.length k1 w' o (by omega) (by omega))
 have CP:=hid (fun w' o=>mark_pst g4 g5 x.P gs x.P.length k2 w' o ogs (by omega) (by omega) m4)
 rw [<-HK1.out] at CD
 rw [<-HK2.out] at CS
 have CT:=hid (fun n w' o (hn0:0<n) (hn:n<=k2+2*tot x.P)=>mark_strs (some ⟨g5,0,none⟩) x.ts x.ts.length n w' o hn0 (by omega))
 unfold diskV at CD
 unfold storeV at CS
 unfold worldW
 clear e1 e2 HK1 HK2
 go_enter Tryz.func10,Tryz.ntmps10
 go_wp2_with fail
 generalize e_v:w.alloc _=v1
 obtain ⟨hb,z,bA⟩:=bx1 e_v
 clear e_v z
 have rA:=bA.now
 have W1:Win lo hi w v1:=win_below hb
 have hap:blk (some ⟨g1,0,none⟩) x.ss.length=none\/blk (some ⟨g2,0,none⟩) x.ws.length=none\/blk (some ⟨g1,0,none⟩) x.ss.length≠blk (some ⟨g2,0,none⟩) x.ws.length:=by
  by_cases e1:x.ss.length=0
  ·exact .inl (by rw [e1];rfl)
  ·by_cases e2:x.ws.length=0
   ·exact .inr (.inl (by rw [e2];rfl))
   ·refine .inr (.inr ?_)
    rw [blk_pos _ _ _ e1,blk_pos _ _ _ e2]
    exact fun e=>n12 (Option.some.inj e)
 refine (CD.out v1 ⟨.inr ⟨g1,rfl,r1.below hb⟩,.inr ⟨g2,rfl,r2.below hb⟩,hap⟩).mono ?_
 rintro e w1 ⟨rfl,⟨wa,wb,ma,mb,mc⟩,_⟩
 have V:Win lo g3 v1 w1:=((win_below ma).trans (win_grown mb (fun g hg=>by have:=blk_is hg;omega))).trans (win_grown mc (fun g hg=>by have:=blk_is hg;omega))
 have rA:=rA.win V (.inr (by omega))
 have r3:=(r3.below hb).win V (.inr (Nat.le_refl _))
 have r4:OwnP w1 g4 x.P gs x.P.length:=⟨(r4.row.below hb).win V (.inr (by omega)),fun i hi=>⟨((r4.st i hi).1.below hb).win V (.inr (by have:=(r4.st i hi).2;omega)),(r4.st i hi).2⟩,r4.asc⟩
 have r5:=(r5.below hb).win V (.inr (by omega))
 have W1:=W1.trans (V.wide (Nat.le_refl _) (by omega))
 clear V ma mb mc hb bA r1 r2
 obtain ⟨q0,q1,q2,q3,q4,q5,q6,q7,q8,q9,q10,q11,q12,q13,q14,q15,ql⟩:=c16 rA
 go_wp2_with fail
 refine (CS.out w1 (.inr ⟨g3,rfl,r3⟩)).mono ?_
 rintro e w2 ⟨rfl,hg,_⟩
 clear q0 q1 q2 q3 q4 q5 q6 q7 q8 q9 q10 q11 q12 q13 q14 q15 ql
 have V:Win g3 g4 w1 w2:=win_grown hg (fun g hg=>by have:=blk_is hg;omega)
 have rA:=rA.win V (.inr (by omega))
 have r4:OwnP w2 g4 x.P gs x.P.length:=⟨r4.row.win V (.inr (Nat.le_refl _)),fun i hi=>⟨(r4.st i hi).1.win V (.inr (by have:=(r4.st i hi).2;omega)),(r4.st i hi).2⟩,r4.asc⟩
 have r5:=r5.win V (.inr (by omega))
 have W1:=W1.trans (V.wide (by omega) (by omega))
 clear V hg r3
 obtain ⟨q0,q1,q2,q3,q4,q5,q6,q7,q8,q9,q10,q11,q12,q13,q14,q15,ql⟩:=c16 rA
 go_wp2_with fail
 refine (CP.out w2 r4).mono ?_
 rintro e w3 ⟨⟨n,rfl,hn0,hn⟩,V⟩
 clear q0 q1 q2 q3 q4 q5 q6 q7 q8 q9 q10 q11 q12 q13 q14 q15 ql
 have rA:=rA.win V (.inr (by omega))
 have r5:=r5.win V (.inr (Nat.le_refl _))
 have W1:=W1.trans (V.wide (by omega) (by omega))
 clear V r4
 obtain ⟨q0,q1,q2,q3,q4,q5,q6,q7,q8,q9,q10,q11,q12,q13,q14,q15,ql⟩:=c16 rA
 go_wp2_with fail
 refine (CT.out n w3 (.inr ⟨g5,rfl,r5⟩) hn0 hn).mono ?_
 rintro e w4 ⟨rfl,hg,_⟩
 have W1:=W1.trans (win_grown (lo:=lo) (hi:=hi) hg (fun g hg=>by have:=blk_is hg;omega))
 go_wp2
 go_ret
 exact ⟨⟨_,rfl⟩,W1⟩
end Go.Proofs.YtcoegjnjjdndjaaGreatDoor
namespace Go.Proofs.YtcoegjnjjdndjaaGreatDoor
open Go.RowKit Go.ChangeShapes Go.WideShapes Go.Deep Go.Joins
section
variable {H:Type} {enc:TypeId×Value->H} {w:World} {base:Nat} {spare:Nat->Bool} {held:Bool}
theorem openDW {P:Program} {t:TypeId} {f0 f1:Field} {n:Nat} {cs:List Value} {x:DataW H×List MemPlace} (hs:P.underlying t=some (.struct #[f0,f1])) (o0:f0.offset=0) (o1:f1.offset=1) (k0:P.cellsOf f0.type=1) (k1:P.cellsOf f1.type=1) (hC:P.cellsOf t=2) (h:DataW.trod enc P w base spare held n t cs=some x) :
  ∃ (c0 c1:Value) (y0 y1:DataW H×List MemPlace) (m:Nat),cs=[c0,c1]/\DataW.trod enc P w base spare held m f0.type [c0]=some y0/\DataW.trod enc P w base spare held m f1.type [c1]=some y1:=by
 obtain ⟨xs,m,_,_,hl,hxl,hf⟩:=DataW.trod_struct hs h
 rw [hC] at hl
 match cs,hl,xs,hxl with
 | [c0,c1],_,[y0,y1],_ =>
  have g0:=hf 0 f0 rfl
  rw [o0,k0] at g0
  have g1:=hf 1 f1 rfl
  rw [o1,k1] at g1
  exact ⟨c0,c1,y0,y1,m,rfl,g0,g1⟩
theorem openW {P:Program} {t:TypeId} {f0 f1 f2 f3 f4 f5:Field} {n:Nat} {cs:List Value} {x:DataW H×List MemPlace} (hs:P.underlying t=some (.struct #[f0,f1,f2,f3,f4,f5])) (o0:f0.offset=0) (o1:f1.offset=1) (o2:f2.offset=3) (o3:f3.offset=4) (o4:f4.offset=14) (o5:f5.offset=15) (k0:P.cellsOf f0.type=1) (k1:P.cellsOf f1.type=2) (k2:P.cellsOf f2.type=1) (k3:P.cellsOf f3.type=10) (k4:P.cellsOf f4.type=1) (k5:P.cellsOf f5.type=1) (hC:P.cellsOf t=16) (h:DataW.trod enc P w base spare held n t cs=some x) :
  ∃ (c0 c1 c2 c3 c4 c5 c6 c7 c8 c9 c10 c11 c12 c13 c14 c15:Value) (y0 y1 y2 y3 y4 y5:DataW H×List MemPlace) (m:Nat),cs=[c0,c1,c2,c3,c4,c5,c6,c7,c8,c9,c10,c11,c12,c13,c14,c15]/\DataW.trod enc P w base spare held m f0.type [c0]=some y0/\DataW.trod enc P w base spare held m f1.type [c1,c2]=some y1/\DataW.trod enc P w base spare held m f2.type [c3]=some y2/\DataW.trod enc P w base spare held m f3.type [c4,c5,c6,c7,c8,c9,c10,c11,c12,c13]=some y3/\DataW.trod enc P w base spare held m f4.type [c14]=some y4/\DataW.trod enc P w base spare held m f5.type [c15]=some y5:=by
 obtain ⟨xs,m,_,_,hl,hxl,hf⟩:=DataW.trod_struct hs h
 rw [hC] at hl
 match cs,hl,xs,hxl with
 | [c0,c1,c2,c3,c4,c5,c6,c7,c8,c9,c10,c11,c12,c13,c14,c15],_,[y0,y1,y2,y3,y4,y5],_ =>
  have g0:=hf 0 f0 rfl
  rw [o0,k0] at g0
  have g1:=hf 1 f1 rfl
  rw [o1,k1] at g1
  have g2:=hf 2 f2 rfl
  rw [o2,k2] at g2
  have g3:=hf 3 f3 rfl
  rw [o3,k3] at g3
  have g4:=hf 4 f4 rfl
  rw [o4,k4] at g4
  have g5:=hf 5 f5 rfl
  rw [o5,k5] at g5
  exact ⟨c0,c1,c2,c3,c4,c5,c6,c7,c8,c9,c10,c11,c12,c13,c14,c15,y0,y1,y2,y3,y4,y5,m,rfl,g0,g1,g2,g3,g4,g5⟩
theorem cells1w:Tryz.prog.cellsOf 9=1:=by kernel_rfl
theorem cells2w:Tryz.prog.cellsOf 118=2:=by kernel_rfl
theorem cells1s:Tryz.prog.cellsOf 30=1:=by kernel_rfl
theorem disk_of_trod {n:Nat} {cs:List Value} {x:DataW H×List MemPlace} (h:DataW.trod enc Tryz.prog w base spare held n 25 cs=some x):∃ a ss c a' ws c',cs=[.slice a ss.length c,.slice a' (List.length ws) c']/\Strs w a ss/\ss.length<=maxLen/\(∀ s∈ss,s.size<=maxLen)/\Wrs w a' ws/\ws.length<=maxLen/\(∀ s∈ws,s.2.size<=maxLen):=by
 obtain ⟨c0,c1,y0,y1,m,rfl,g0,g1⟩:=openDW Tryz.underlying25 rfl rfl (by kernel_rfl) (by kernel_rfl) (by kernel_rfl) h
 obtain ⟨a,ss,c,rfl,h1,h2,h3⟩:=strs_of_trod Tryz.underlying22 Tryz.underlying9 cells1w g0
 obtain ⟨a',ws,c',rfl,k1,k2,k3,_⟩:=wrs_of_trod Tryz.underlying23 Tryz.underlying118 cells2w rfl rfl (by kernel_rfl) (by kernel_rfl) Tryz.underlying3 Tryz.underlying9 g1
 exact ⟨a,ss,c,a',ws,c',rfl,h1,h2,h3,k1,k2,k3⟩
theorem bool_of_trod {n:Nat} {v:Value} {x:DataW H×List MemPlace} (h:DataW.trod enc Tryz.prog w base spare held n 4 [v]=some x):∃ b,v=.bool b:=by
 obtain ⟨z,e,_⟩:=DataW.trod_bool Tryz.underlying4 h
 simp at e
 exact ⟨z,e⟩
theorem pst_of_trod {fuel:Nat} {v:Value} {x:DataW H×List MemPlace} (h:DataW.trod enc Tryz.prog w base spare held fuel 33 [v]=some x):∃ a P c,v=.slice a (List.length P) c/\Pst w a P/\P.length<=maxLen/\(∀ rs∈P,rs.length<=maxLen/\∀ s∈rs,s.1.size<=maxLen/\s.2.size<=maxLen):=by
 rcases open_slice Tryz.underlying33 h with ⟨hcs,_⟩ | ⟨a,len,cap,m,n,D,Pl,hcs,hb,hl,hm,hmm,_,hx⟩
 ·simp at hcs
  exact ⟨none,[],0,by simpa using hcs,.inl rfl,by simp,by simp⟩
 ·simp at hcs
  have hlm:len<=m:=by rw [hmm];split<;>omega
  have each:∀ i,i<len->∃ q:List (ByteArray×ByteArray)×Option Addr×Nat,w.cell? (a.add i)=some (.slice q.2.1 q.1.length q.2.2)/\Prs w q.2.1 q.1/\q.1.length<=maxLen/\(∀ s∈q.1,s.1.size<=maxLen/\s.2.size<=maxLen):=by
   intro i hi
   obtain ⟨cs',h1,h2⟩:=hx i (by omega)
   rw [cells1s] at h1
   obtain ⟨_,hlen,hcell⟩:=World.cells?_some h1
   obtain ⟨p,rs,c,rfl,k1,k2,k3⟩:=state_of_trod h2
   have e0:=hcell 0 (by omega)
   rw [add_add] at e0
   exact ⟨(rs,p,c),by simpa using e0,k1,k2,k3⟩
  obtain ⟨q,hq⟩:=choose_lt each
  have e1:((List.range len).map fun i=>(q i).1).length=len:=by simp
  refine ⟨some a,(List.range len).map fun i=>(q i).1,cap,by rw [e1];exact hcs,?_,by omega,fun rs hs=>?_⟩
  ·by_cases h0:len=0
   ·exact .inl (by subst h0;simp)
   ·have hq0:=(hq 0 (by omega)).1
    obtain ⟨b,o,rfl⟩:=add_none hq0 ⟨_,hq0⟩
    have hb:=World.block_lt_of_cell? w _ hq0
    rw [add_mk] at hb
    refine .inr ⟨b,o,rfl,hb,fun i hi=>?_⟩
    rw [e1] at hi
    obtain ⟨h0,h1,_⟩:=hq i hi
    rw [add_mk] at h0
    have eg:((List.range len).map fun i=>(q i).1).getD i []=(q i).1:=by simp [List.getD,hi]
    rw [eg]
    exact ⟨_,_,h0,h1⟩
  ·obtain ⟨i,hi,rfl⟩:=List.mem_map.1 hs
   exact (hq i (by simpa using hi)).2.2
theorem world_of_trod {n:Nat} {cs:List Value} {y:DataW H×List MemPlace} (h:DataW.trod enc Tryz.prog w base spare held n 35 cs=some y):∃ (x:Wo) (q:Wp),worldW x q=.agg cs.toArray/\x.at w q/\x.le maxLen:=by
 obtain ⟨c0,c1,c2,c3,c4,c5,c6,c7,c8,c9,c10,c11,c12,c13,c14,c15,y0,y1,y2,y3,y4,y5,m,rfl,g0,g1,g2,g3,g4,g5⟩:=openW Tryz.underlying35 rfl rfl rfl rfl rfl rfl (by kernel_rfl) (by kernel_rfl) (by kernel_rfl) (by kernel_rfl) (by kernel_rfl) (by kernel_rfl) (by kernel_rfl) h
 obtain ⟨wd,rfl⟩:=int_of_trod g0
 obtain ⟨a,ss,c,a',ws,c',e1,h1,l1,s1,h2,l2,s2⟩:=disk_of_trod g1
 obtain ⟨up,rfl⟩:=bool_of_trod g2
 obtain ⟨W,S,L,T,Hh,F,R,U,O,s,rs,cs,e3,h3,l3,s3⟩:=store_of_trod g3
 obtain ⟨p,P,cp,rfl,h4,l4,s4⟩:=pst_of_trod g4
 obtain ⟨t,ts,ct,rfl,h5,l5,s5⟩:=strs_of_trod Tryz.underlying22 Tryz.underlying9 cells1w g5
 simp only [List.cons.injEq,and_true] at e1 e3
 obtain ⟨rfl,rfl⟩:=e1
 obtain ⟨rfl,rfl,rfl,rfl,rfl,rfl,rfl,rfl,rfl,rfl⟩:=e3
 exact ⟨⟨wd,ss,ws,up,W,S,L,T,Hh,F,R,U,O,rs,P,ts⟩,⟨a,c,a',c',s,cs,p,cp,t,ct⟩,rfl,⟨h1,h2,h3,h4,h5⟩,⟨l1,s1,l2,s2,l3,s3,l4,s4,l5,s5⟩⟩
end
end Go.Proofs.YtcoegjnjjdndjaaGreatDoor
