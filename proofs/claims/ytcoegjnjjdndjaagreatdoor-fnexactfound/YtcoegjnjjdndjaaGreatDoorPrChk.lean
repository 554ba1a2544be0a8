import Derived.RangeFuncNested
import Derived.RangeFuncBound
import Derived.RangeFuncCalls
import Derived.RangeFuncLeaves
import Derived.RangeFuncBox
import Derived.Shelf.Abstract
import Derived.Shelf.RegionOpenV
import Derived.WalkKit
import Derived.OwnWalkIn
import Derived.TacticsInMore
import Derived.LoopNIn
import Derived.LoopIn
import Derived.Sort.QuietIn
import Derived.Maps.AppendAt
import Derived.Maps.OwnIn
import Derived.Test.YtcoegjnjjdndjaaGreatDoorPrG32
namespace Go.Proofs.YtcoegjnjjdndjaaGreatDoor
open Go.RowKit Go.Shelf
set_option linter.unusedVariables false
set_option linter.unusedSimpArgs false
set_option maxRecDepth 4000
attribute [local go_sem] Oper.semAt_some
def partV (b off len k:Nat):Value:=.slice (some ⟨b,off+k*20*2,none⟩) (min 20 (len-k*20)) (min 20 (len-k*20))
theorem grown_drewN (w:World) (q:Nat):w.grownBy (w.drewN q) none:=⟨rfl,rfl,rfl,Nat.le_refl _,fun _ _ _=>rfl⟩
set_option maxHeartbeats 4000000 in
theorem chunk1_in (F:Fence) (n:Nat) (hf:F.fn 161) (hro:F.round=none) (hn:1<=n) (l Bs Bn b off len cap:Nat) (hlen:len<=100) (hcap:len<=cap) (Kp:World->World->Prop) (hK:∀ A B,Kp A B->B.cell? ⟨Bs,0,none⟩=A.cell? ⟨Bs,0,none⟩/\B.cell? ⟨Bn,0,none⟩=A.cell? ⟨Bn,0,none⟩) (J Jx:List Nat->World->Prop)
  (hY:∀ pre x W,J pre W->pre.length<(len+19) / 20->YieldAt F (n-1) Tryz.prog l #[partV b off len x] W fun e W' =>
   (e=.returned (.bool true)/\J (pre++[x]) W'/\Kp W W')\/(e=.returned (.bool false)/\Jx (pre++[x]) W'))
  (W:World) (hBs:W.cell? ⟨Bs,0,none⟩=some (.slice (some ⟨b,off,none⟩) len cap)) (hBn:W.cell? ⟨Bn,0,none⟩=some (.int .i64 20)) (h0:J [] W) (hJ:∀ s A B,J s A->A.grownBy B none->J s B) :
  CallsIn F n Tryz.prog 161 #[.func (.yield l) #[] #[],.pointer (some ⟨Bs,0,none⟩),.pointer (some ⟨Bn,0,none⟩)] W fun e W'=>(∃ v,e=.returned v) /\
   ((∃ ys,ys=List.range ((len+19) / 20)/\J ys W')\/(∃ pre,True/\Jx pre W')):=by
 refine callsIn_of_wp Tryz.func161 rfl hf ?_ hro
 simp only [Tryz.ntmps161,List.size_toArray,List.length_cons,List.length_nil,Nat.reduceAdd,Nat.reduceSub,Array.replicate_succ,Array.replicate_zero,List.push_toArray,List.append_toArray,List.nil_append,List.cons_append]
 gi_wp2
 gi_loopw [4] (fun i wr=>∃ k q:Nat,q=k*20/\k<=(len+19) / 20/\i=.int .i64 (q:Int)/\J (List.range k) wr/\wr.cell? ⟨Bs,0,none⟩=some (.slice (some ⟨b,off,none⟩) len cap)/\wr.cell? ⟨Bn,0,none⟩=some (.int .i64 20)) (fun i _=>len+20-(intOf i).toNat)
 case atStart=>exact ⟨0,0,rfl,Nat.zero_le _,rfl,h0,hBs,hBn⟩
 case round =>
  obtain ⟨k,q,hq,hk,rfl,hJs,hcs,hcn⟩:=hrel
  have HQ:=hid hq
  clear hq
  have hmx:Tryz.prog.follows .mixedOrders=true:=by kernel_rfl
  by_cases hlt:q<len
  ·have hq0:(0:Int)<=(q:Int):=by omega
   have hq1:(q:Int)<=(len:Int):=by omega
   have hq2:(q:Int)<(len:Int):=by omega
   have hq3:(len:Int)<=(cap:Int):=by omega
   by_cases hc:20<=len-q
   ·have HC:Hid (min 20 (len-q)=20):=by show _=_;omega
    have hc2:(q:Int)+20<=(len:Int):=by omega
    have hc3:(q:Int)+20<=(cap:Int):=by omega
    gi_wp2
    gi_big_quiet_th_v (fail)
    obtain ⟨fn,tmps,assign,body,hy,hR⟩:=hY _ k (wr.drewN nq) (hJ _ _ _ hJs (grown_drewN wr nq)) (by have:=HQ.out;rw [List.length_range];omega)
    have hcs1:(wr.drewN nq).cell? ⟨Bs,0,none⟩=some (.slice (some ⟨b,off,none⟩) len cap):=hcs
    unfold partV at hy
    rw [<-HQ.out,HC.out] at hy
    gi_wp2
    refine hR.mono ?_
    rintro e W3 (⟨rfl,hJ3,hk3⟩ | ⟨rfl,hJx3⟩)
    ·have hcn3:=(hK _ _ hk3).2.trans (show (wr.drewN nq).cell? ⟨Bn,0,none⟩=some (.int .i64 20) from hcn)
     have hcs3:=(hK _ _ hk3).1.trans hcs1
     gi_wp2
     go_roundw
     case rel=>exact ⟨k+1,q+20,by have:=HQ.out;omega,by have:=HQ.out;omega,by simp,by rw [List.range_succ];exact hJ3,hcs3,hcn3⟩
     case measure=>simp [intOf];omega
    ·gi_wp2
     refine bodyPost_ret (results_none rfl _ _ _) rfl ?_
     exact ⟨⟨_,rfl⟩,.inr ⟨_,trivial,hJx3⟩⟩
   ·have HC:Hid (min 20 (len-q)=len-q):=by show _=_;omega
    have hc2:(q:Int)+((len-q:Nat):Int)=(len:Int):=by omega
    gi_wp2
    gi_big_quiet_th_v (fail)
    obtain ⟨fn,tmps,assign,body,hy,hR⟩:=hY _ k (wr.drewN nq) (hJ _ _ _ hJs (grown_drewN wr nq)) (by have:=HQ.out;rw [List.length_range];omega)
    have hcs1:(wr.drewN nq).cell? ⟨Bs,0,none⟩=some (.slice (some ⟨b,off,none⟩) len cap):=hcs
    unfold partV at hy
    rw [<-HQ.out,HC.out] at hy
    gi_wp2
    refine hR.mono ?_
    rintro e W3 (⟨rfl,hJ3,hk3⟩ | ⟨rfl,hJx3⟩)
    ·have hcn3:=(hK _ _ hk3).2.trans (show (wr.drewN nq).cell? ⟨Bn,0,none⟩=some (.int .i64 20) from hcn)
     have hcs3:=(hK _ _ hk3).1.trans hcs1
     gi_wp2
     go_roundw
     case rel=>exact ⟨k+1,q+20,by have:=HQ.out;omega,by have:=HQ.out;omega,by simp,by rw [List.range_succ];exact hJ3,hcs3,hcn3⟩
     case measure=>simp [intOf];omega
    ·gi_wp2
     refine bodyPost_ret (results_none rfl _ _ _) rfl ?_
     exact ⟨⟨_,rfl⟩,.inr ⟨_,trivial,hJx3⟩⟩
  ·have hkk:k=(len+19) / 20:=by have:=HQ.out;omega
   gi_wp2
   go_end0
   exact ⟨⟨_,rfl⟩,.inl ⟨_,by rw [hkk],hJs⟩⟩
set_option maxHeartbeats 1000000 in
theorem chunk1_nil (F:Fence) (n:Nat) (hf:F.fn 161) (hro:F.round=none) (l Bs Bn c:Nat) (a:Option Addr) (J:List Nat->World->Prop) (W:World) (hBs:W.cell? ⟨Bs,0,none⟩=some (.slice a 0 c)) (h0:J [] W) :
  CallsIn F n Tryz.prog 161 #[.func (.yield l) #[] #[],.pointer (some ⟨Bs,0,none⟩),.pointer (some ⟨Bn,0,none⟩)] W fun e W'=>(∃ v,e=.returned v)/\J [] W':=by
 refine callsIn_of_wp Tryz.func161 rfl hf ?_ hro
 simp only [Tryz.ntmps161,List.size_toArray,List.length_cons,List.length_nil,Nat.reduceAdd,Nat.reduceSub,Array.replicate_succ,Array.replicate_zero,List.push_toArray,List.append_toArray,List.nil_append,List.cons_append]
 gi_wp2
 gi_loopw [4] (fun i wr=>i=.int .i64 0/\wr=W) (fun _ _=>0)
 case atStart=>exact ⟨rfl,rfl⟩
 case round =>
  obtain ⟨rfl,rfl⟩:=hrel
  gi_wp2
  go_end0
  exact ⟨⟨_,rfl⟩,h0⟩
set_option maxHeartbeats 1000000 in
theorem chunk_in (F:Fence) (n:Nat) (hf:F.fn 148) (hro:F.round=none) (a:Option Addr) (len cap:Nat) (w:World) :
  CallsIn F n Tryz.prog 148 #[.slice a len cap,.int .i64 20] w fun e w'=>e=.returned (.func (.func 161) #[] #[.pointer (some ⟨w.heap.size,0,none⟩),.pointer (some ⟨w.heap.size+1,0,none⟩)])/\w'=(w.alloc (.cells #[.slice a len cap] 37)).alloc (.cells #[.int .i64 20] 3):=by
 refine callsIn_of_wp Tryz.func148 rfl hf ?_ hro
 simp only [Tryz.ntmps148,List.size_toArray,List.length_cons,List.length_nil,Nat.reduceAdd,Nat.reduceSub,Array.replicate_succ,Array.replicate_zero,List.push_toArray,List.append_toArray,List.nil_append,List.cons_append]
 gi_wp2
 go_ret
 exact ⟨rfl,rfl⟩
theorem chunk_stops (F:Fence) (n:Nat) (hf:F.fn 161) (hro:F.round=none) (hn:1<=n) (Bs Bn b off len cap:Nat) (a:Option Addr) (hlen:len<=100) (hcap:len<=cap) (w:World) (hbs:Bs<w.heap.size) (hbn:Bn<w.heap.size) (Kp:World->World->Prop) (hK:∀ A B,Kp A B->B.cell? ⟨Bs,0,none⟩=A.cell? ⟨Bs,0,none⟩/\B.cell? ⟨Bn,0,none⟩=A.cell? ⟨Bn,0,none⟩)
  (hs:w.cell? ⟨Bs,0,none⟩=some (.slice a len cap)) (hc:w.cell? ⟨Bn,0,none⟩=some (.int .i64 20)) (ha:len=0\/a=some ⟨b,off,none⟩) :
  SeqStopsK F n Tryz.prog 161 #[.pointer (some ⟨Bs,0,none⟩),.pointer (some ⟨Bn,0,none⟩)] (fun x:Nat=>#[partV b off len x]) Kp (fun ys=>ys=List.range ((len+19) / 20)) (fun _=>True) ((len+19) / 20) w:=fun l J Jx W hW hJ hJx hY h0=>by
 have hs':=(hW.cell (p:=⟨Bs,0,none⟩) hbs).trans hs
 have hc':=(hW.cell (p:=⟨Bn,0,none⟩) hbn).trans hc
 rcases ha with rfl | rfl
 ·exact (chunk1_nil F n hf hro l Bs Bn cap a J W hs' h0).mono fun e W' ⟨he,hj⟩=>⟨he,.inl ⟨_,rfl,hj⟩⟩
 ·exact chunk1_in F n hf hro hn l Bs Bn b off len cap hlen hcap Kp hK J Jx hY W hs' hc' h0 (fun s A B hs hg=>hJ s A B none hs hg (fun r e=>(by cases e)))
end Go.Proofs.YtcoegjnjjdndjaaGreatDoor
