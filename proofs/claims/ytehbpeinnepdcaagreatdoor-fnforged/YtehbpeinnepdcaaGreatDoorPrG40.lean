import Derived.Deep.RegionLaw
import Derived.Test.YtehbpeinnepdcaaGreatDoorPrG36
import Derived.ChangeKeysEq
set_option maxHeartbeats 16000000
set_option maxRecDepth 8000
set_option linter.unusedVariables false
set_option linter.unusedSimpArgs false
namespace Go.Proofs.YtehbpeinnepdcaaGreatDoor
open Go.RowKit
theorem XRf {P:Program} {aB:Array Oper} {o:Oper} {a:Act} {w:World} {K:Act->World->Prop} {Q:Exit->Act->World->Prop} {E:Prop} (aC:o.guard=none) (f:FuncId) (args:Array Value)
  (aA:(execOp a.eval o).run P w=.ok (.enter f args) w) {C:Ending->World->Prop} (hc:Calls P f args w C) (h:∀ e w',C e w'->∃ v,e=.returned v/\K (a.put o.dst v) w') :
  if Region.wanted o (yielded aB a.tmps)=true then Oper.wp P o a w K Q else E:=by
 have hw:Region.wanted o (yielded aB a.tmps)=true:=by simp [Region.wanted,aC]
 rw [if_pos hw];unfold Oper.wp;rw [aA,Oper.upon_enter]
 refine hc.mono fun e aD hh=>?_
 obtain ⟨v,rfl,hk⟩:=h e aD hh;exact hk
theorem Qgi (k v:ByteArray) (w:World):Calls Tryz.prog 120 #[.agg #[.string k,.string v,.bool false]] w fun e w'=>e=.returned (.iface 198 (.agg #[.string k,.string v]))/\Below w.heap.size w w':=by
 go_enter Tryz.func120,Tryz.ntmps120;go_wp2;go_ret;exact ⟨rfl,(Below.refl _ _).alloc (Nat.le_refl _) _⟩
theorem jH0 (k v:ByteArray) (w:World):Calls Tryz.prog 120 #[.agg #[.string k,.string v,.bool true]] w fun e w'=>e=.returned (.iface 196 (.agg #[.string k]))/\Below w.heap.size w w':=by
 go_enter Tryz.func120,Tryz.ntmps120;go_wp2;go_ret;exact ⟨rfl,(Below.refl _ _).alloc (Nat.le_refl _) _⟩
def hv (n:Int):Int:=if 8<=n/\n<=200 then (n-2) / 2 else 0
theorem kAF (n:Int) (w:World):Calls Tryz.prog 50 #[.int .i64 n] w fun e w'=>e=.returned (.bool (decide (8<=n/\n<=200)))/\w'=w:=by
 go_enter Tryz.func50,Tryz.ntmps50
 by_cases h1:8<=n<;>by_cases h2:n<=200<;>(go_wp2;go_ret;simp [h1,h2])
theorem kpj (n:Int) (w:World):Calls Tryz.prog 82 #[.int .i64 n] w fun e w'=>e=.returned (.int .i64 (hv n))/\w'=w:=by
 by_cases h:8<=n/\n<=200
 ·have hd:decide (8<=n/\n<=200)=true:=by simp [h]
  have hh:hv n=(n-2) / 2:=by unfold hv;rw [if_pos h]
  obtain ⟨h1,h2⟩:=h;go_enter Tryz.func82,Tryz.ntmps82;go_wp2_with (go_at_call 50;refine (kAF _ _).mono ?_;rw [hd];rintro e w2 ⟨rfl,rfl⟩);go_ret;refine ⟨?_,rfl⟩;rw [hh];rfl
 ·have hd:decide (8<=n/\n<=200)=false:=by simpa using h
  have hh:hv n=0:=by unfold hv;rw [if_neg h]
  rw [hh];go_enter Tryz.func82,Tryz.ntmps82;go_wp2_with (go_at_call 50;refine (kAF _ _).mono ?_;rw [hd];rintro e w2 ⟨rfl,rfl⟩);go_ret;exact ⟨rfl,rfl⟩
theorem QQj (n:Int) (w:World):Calls Tryz.prog 36 #[.int .i64 n] w fun e w'=>e=.returned (.int .i64 (hv n))/\w'=w:=by
 by_cases h1:8<=n
 ·by_cases h2:n<=200
  ·have hh:hv n=(n-2) / 2:=by unfold hv;rw [if_pos ⟨h1,h2⟩]
   go_enter Tryz.func36,Tryz.ntmps36;go_wp2;go_ret;refine ⟨?_,rfl⟩;rw [hh];rfl
  ·have hh:hv n=0:=by unfold hv;rw [if_neg (fun x=>h2 x.2)]
   rw [hh];go_enter Tryz.func36,Tryz.ntmps36;go_wp2;go_ret;exact ⟨rfl,rfl⟩
 ·have hh:hv n=0:=by unfold hv;rw [if_neg (fun x=>h1 x.1)]
  rw [hh];go_enter Tryz.func36,Tryz.ntmps36;go_wp2;go_ret;exact ⟨rfl,rfl⟩
def QPD (W S L T H F R U O:Int) (a:Option Addr) (n c:Nat):Value:=.agg #[.int .i64 W,.int .i64 S,.int .i64 L,.int .i64 T,.int .i64 H,.int .i64 F,.int .i64 R,.int .i64 U,.int .i64 O,.slice a n c]
@[reducible] def Zoj (a:Option Addr) (n c:Nat) (a':Option Addr) (n' c':Nat):Value:=.agg #[.slice a n c,.slice a' n' c']
theorem kDp:(Tryz.prog.info? 9).map (fun i=>(i.zero,i.size,i.bytes))=some (some (.string ByteArray.empty),1,16):=by kernel_rfl
theorem yGS:(Tryz.prog.info? 74).map (fun i=>(i.zero,i.size,i.bytes))=some (some (.agg #[.int .i64 0,.string ByteArray.empty]),2,24):=by kernel_rfl
theorem y6s {W w1:World} (hb:Below W.heap.size W w1):(∀ b o,b<W.heap.size->w1.cell? ⟨b,o,none⟩=W.cell? ⟨b,o,none⟩)/\(∀ b o,b<W.heap.size->w1.frozen? ⟨b,o,none⟩=W.frozen? ⟨b,o,none⟩) :=
 ⟨fun b o h=>hb.cell (p:=⟨b,o,none⟩) h,fun b o h=>hb.frozen (p:=⟨b,o,none⟩) h⟩
theorem qgT {a b:Bool} (h:a=b):Ending.returned (.bool a)=.returned (.bool b):=by rw [h]
def wOk (n:Nat) (x:Int×ByteArray):Bool:=decide (0<=x.1/\x.1<(n:Int)/\(x.2.size:Int)=64)
def vlG (ss:List ByteArray) (ws:List (Int×ByteArray)):Bool:=decide (8<=ss.length/\ss.length<=200/\ws.length<=300) && ss.all (fun s=>decide ((s.size:Int)=64)) && ws.all (wOk ss.length)
theorem vcs {ss:List ByteArray} {ws:List (Int×ByteArray)} (h:¬ (8<=ss.length/\ss.length<=200/\ws.length<=300)):vlG ss ws=false:=by simp [vlG,h]
theorem Z3s {ss:List ByteArray} {ws:List (Int×ByteArray)} {s:ByteArray} (hm:s∈ss) (h:¬ (s.size:Int)=64):vlG ss ws=false:=by
 have:ss.all (fun s=>decide ((s.size:Int)=64))=false:=List.all_eq_false.2 ⟨s,hm,by simpa using h⟩;simp [vlG,this]
theorem qbC {ss:List ByteArray} {ws:List (Int×ByteArray)} {x:Int×ByteArray} (hm:x∈ws) (h:wOk ss.length x=false):vlG ss ws=false:=by
 have:ws.all (wOk ss.length)=false:=List.all_eq_false.2 ⟨x,hm,by simp [h]⟩;simp [vlG,this]
theorem Zof {ss:List ByteArray} {ws:List (Int×ByteArray)} (h:8<=ss.length/\ss.length<=200/\ws.length<=300) (h1:∀ s∈ss,(s.size:Int)=64) (h2:∀ x∈ws,wOk ss.length x=true):vlG ss ws=true:=by
 simp only [vlG,Bool.and_eq_true,decide_eq_true_eq,List.all_eq_true];exact ⟨⟨h,h1⟩,h2⟩
theorem q67 {ss:List ByteArray} {ws:List (Int×ByteArray)} (h:vlG ss ws=true):(8<=ss.length/\ss.length<=200/\ws.length<=300)/\(∀ s∈ss,(s.size:Int)=64)/\∀ x∈ws,wOk ss.length x=true:=by
 simp only [vlG,Bool.and_eq_true,decide_eq_true_eq,List.all_eq_true] at h;exact ⟨h.1.1,h.1.2,h.2⟩
theorem XXs {n:Nat} {x:Int} {s:ByteArray} (h0:0<=x) (h1:x<(n:Int)):((s.size:Int) == 64)=wOk n (x,s):=by
 rw [Bool.eq_iff_iff];simp [wOk,h0,h1]
theorem k0F (n:Nat) (x:Int) (s:ByteArray) (w:World) (hs:s.size<=1048576) (hn:n<=1048576) :
  Calls Tryz.prog 51 #[.int .i64 (n:Int),.int .i64 x,.string s] w fun e w'=>e=.returned (.bool (wOk n (x,s)))/\w'=w:=by
 by_cases h0:0<=x
 ·by_cases h1:x<(n:Int)
  ·go_enter Tryz.func51,Tryz.ntmps51
   go_wp2;go_ret;exact ⟨qgT (XXs h0 h1),rfl⟩
  ·go_enter Tryz.func51,Tryz.ntmps51
   go_wp2;go_ret;exact ⟨qgT (by simp [wOk];omega),rfl⟩
 ·go_enter Tryz.func51,Tryz.ntmps51
  go_wp2;go_ret;exact ⟨qgT (by simp [wOk];omega),rfl⟩
theorem z8b (a:Option Addr) (n c:Nat) (a':Option Addr) (n' c':Nat) (x:Int) (s:ByteArray) (w:World) (hs:s.size<=1048576) (hn:n<=1048576) :
  Calls Tryz.prog 35 #[Zoj a n c a' n' c',.int .i64 x,.string s] w fun e w'=>e=.returned (.bool (wOk n (x,s)))/\Below w.heap.size w w':=by
 by_cases h0:0<=x
 ·by_cases h1:x<(n:Int)
  ·go_enter Tryz.func35,Tryz.ntmps35
   go_wp2;go_ret;exact ⟨qgT (XXs h0 h1),(Below.refl _ _).alloc (Nat.le_refl _) _⟩
  ·go_enter Tryz.func35,Tryz.ntmps35
   go_wp2;go_ret;exact ⟨qgT (by simp [wOk];omega),(Below.refl _ _).alloc (Nat.le_refl _) _⟩
 ·go_enter Tryz.func35,Tryz.ntmps35
  go_wp2;go_ret;exact ⟨qgT (by simp [wOk];omega),(Below.refl _ _).alloc (Nat.le_refl _) _⟩
theorem z0h (n:Int) (w:World):Calls Tryz.prog 50 #[.int .i64 n] w fun e w'=>e=.returned (.bool (decide (8<=n/\n<=200)))/\w'=w:=by
 by_cases h1:8<=n
 ·by_cases h2:n<=200
  ·go_enter Tryz.func50,Tryz.ntmps50
   go_wp2;go_ret;exact ⟨qgT (by simp [h1,h2]),rfl⟩
  ·go_enter Tryz.func50,Tryz.ntmps50
   go_wp2;go_ret;exact ⟨qgT (by simp [h2]),rfl⟩
 ·go_enter Tryz.func50,Tryz.ntmps50
  go_wp2;go_ret;exact ⟨qgT (by simp;omega),rfl⟩
theorem jU6 (a:Option Addr) (ss:List ByteArray) (c:Nat) (a':Option Addr) (ws:List (Int×ByteArray)) (c':Nat) (w:World) (h:Strs w a ss) (h':Wrs w a' ws) (hl:ss.length<=1048576) (aS:ws.length<=1048576) (hs:∀ s∈ss,s.size<=1048576) (aO:∀ x∈ws,x.2.size<=1048576) :
  Calls Tryz.prog 28 #[Zoj a ss.length c a' ws.length c'] w fun e w'=>e=.returned (.bool (vlG ss ws))/\Below w.heap.size w w':=by
 have aD:∀ o1,Below w.heap.size w (w.alloc o1):=fun o1=>(Below.refl _ _).alloc (Nat.le_refl _) _
 obtain ⟨R,HR⟩:∃ R,Hid (R=vlG ss ws):=⟨_,hid rfl⟩;rw [<-HR.out]
 by_cases hn:8<=(ss.length:Int)/\(ss.length:Int)<=200
 ·have hd:decide (8<=(ss.length:Int)/\(ss.length:Int)<=200)=true:=decide_eq_true hn
  obtain ⟨aT,aU⟩:=hn
  by_cases hp:(ws.length:Int)<=300
  ·go_enter Tryz.func28,Tryz.ntmps28
   go_wp2_with (go_at_call 50;refine (z0h _ _).mono ?_;rw [hd];rintro e w' ⟨rfl,rfl⟩);go_loop [4,21] (fun _ i=>∃ k:Nat,k<=ss.length/\i=.int .i64 k/\Hid (∀ s∈ss.take k,(s.size:Int)=64)) (fun _ i=>ss.length-(intOf i).toNat)
   case atStart=>exact ⟨0,Nat.zero_le _,rfl,by show ∀ s∈ss.take 0,_;simp⟩
   case round =>
    obtain ⟨k,hk,rfl,HA⟩:=hrel
    by_cases aG:k<ss.length
    ·obtain ⟨b,o,s,rfl,hc,HS⟩:=(h.below (aD (.cells #[.slice a ss.length c,.slice a' ws.length c'] 26))).at aG
     have hm:Hid (s∈ss):=by show _∈_;rw [HS.out];simp [List.getD,aG]
     by_cases aE:((s.size:Int) != 64)=true
     ·go_wp2
      go_ret;exact ⟨qgT (by rw [HR.out];exact (Z3s hm.out (by simpa using aE)).symm),aD _⟩
     ·have aN:((s.size:Int) != 64)=false:=by simpa using aE
      have aJ:Hid ((s.size:Int)=64):=by show _=_;simpa using aE
      clear aE;go_wp2;go_round
      case rel=>exact ⟨k+1,by omega,by go_num,fun x hx=>by
             rw [List.take_succ_eq_append_getElem aG] at hx;rcases List.mem_append.1 hx with hx | hx
             ·exact HA.out x hx
             ·simp at hx;have e:=HS.out;simp [List.getD,aG] at e;rw [hx,<-e];exact aJ.out⟩
      case measure=>simp [intOf];omega
    ·go_wp2
     have aC:∀ s∈ss,(s.size:Int)=64:=by have:=HA.out;rwa [List.take_of_length_le (by omega)] at this
     have aH:=hid aC;clear aC HA;go_loopw [6,32] (fun _ i wr=>∃ k:Nat,k<=ws.length/\i=.int .i64 k/\Hid (∀ x∈ws.take k,wOk ss.length x=true)/\Below (w.heap.size+1) (w.alloc (.cells #[.slice a ss.length c,.slice a' ws.length c'] 26)) wr) (fun _ i _=>ws.length-(intOf i).toNat)
     case atStart=>exact ⟨0,Nat.zero_le _,rfl,by show ∀ s∈ws.take 0,_;simp,Below.refl _ _⟩
     case round =>
      obtain ⟨k2,aR,rfl,aK,aA⟩:=hrel;have q0:wr.cell? ⟨w.heap.size,0,none⟩=some (.slice a ss.length c):=(aA.cell (p:=⟨w.heap.size,0,none⟩) (by show w.heap.size<_;omega)).trans (by go_simp);have q1:wr.cell? ⟨w.heap.size,1,none⟩=some (.slice a' ws.length c'):=(aA.cell (p:=⟨w.heap.size,1,none⟩) (by show w.heap.size<_;omega)).trans (by go_simp);have aF:Below w.heap.size w wr:=(aD _).trans (aA.mono (by omega));have aM:=hid aA;have aI:=hid aF
      by_cases aB:k2<ws.length
      ·obtain ⟨b,o,n,s,rfl,hc,aQ,HS⟩:=(h'.below aF).at aB
       have hm:Hid ((n,s)∈ws):=by show _∈_;rw [HS.out];simp [List.getD,aB]
       have aL:s.size<=1048576:=aO (n,s) hm.out;have aV:w.heap.size+1<=wr.heap.size:=by have:=aA.size;simpa using this
       have aP:w.heap.size<wr.heap.size:=by omega
       clear aA aF
       cases hok:wOk ss.length (n,s) with
       | false =>
        go_wp2_with (go_at_call 51;refine (k0F ss.length n s _ aL (by omega)).mono ?_;rw [hok];rintro e w' ⟨rfl,rfl⟩);go_ret;exact ⟨qgT (by rw [HR.out];exact (qbC hm.out hok).symm),aI.out.alloc aI.out.size _⟩
       | true =>
        go_wp2_with (go_at_call 51;refine (k0F ss.length n s _ aL (by omega)).mono ?_;rw [hok];rintro e w' ⟨rfl,rfl⟩);go_roundw
        case rel=>exact ⟨k2+1,by omega,by go_num,fun x hx=>by
               rw [List.take_succ_eq_append_getElem aB] at hx;rcases List.mem_append.1 hx with hx | hx
               ·exact aK.out x hx
               ·simp at hx;have e:=HS.out;simp [List.getD,aB] at e;rw [hx,<-e];exact hok,aM.out.alloc (by omega) _⟩
        case measure=>simp [intOf];omega
      ·clear aA aF
       go_wp2;go_ret;refine ⟨qgT ?_,aI.out⟩;rw [HR.out];have h2:=aK.out;rw [List.take_of_length_le (by omega)] at h2;exact (Zof (by omega) aH.out h2).symm
  ·go_enter Tryz.func28,Tryz.ntmps28
   go_wp2_with (go_at_call 50;refine (z0h _ _).mono ?_;rw [hd];rintro e w' ⟨rfl,rfl⟩);go_ret;exact ⟨qgT (by rw [HR.out];exact (vcs (by omega)).symm),aD _⟩
 ·have hd:decide (8<=(ss.length:Int)/\(ss.length:Int)<=200)=false:=decide_eq_false hn
  go_enter Tryz.func28,Tryz.ntmps28;go_wp2_with (go_at_call 50;refine (z0h _ _).mono ?_;rw [hd];rintro e w' ⟨rfl,rfl⟩);go_ret;exact ⟨qgT (by rw [HR.out];exact (vcs (by omega)).symm),aD _⟩
theorem xpE (a:Option Addr) (ss:List ByteArray) (c:Nat) (a':Option Addr) (ws:List (Int×ByteArray)) (c':Nat) (w:World) (h:Strs w a ss) (h':Wrs w a' ws) (hl:ss.length<=1048576) (aX:ws.length<=1048576) (hs:∀ s∈ss,s.size<=1048576) (aR:∀ x∈ws,x.2.size<=1048576) :
  Calls Tryz.prog 16 #[Zoj a ss.length c a' ws.length c'] w fun e w'=>e=.returned (.bool (vlG ss ws))/\Below w.heap.size w w':=by
 have aC:∀ o1,Below w.heap.size w (w.alloc o1):=fun o1=>(Below.refl _ _).alloc (Nat.le_refl _) _
 obtain ⟨R,HR⟩:∃ R,Hid (R=vlG ss ws):=⟨_,hid rfl⟩;rw [<-HR.out]
 by_cases aY:8<=(ss.length:Int)
 ·by_cases aZ:(ss.length:Int)<=200
  ·by_cases hp:(ws.length:Int)<=300
   ·go_enter Tryz.func16,Tryz.ntmps16
    go_wp2;go_loop [3] (fun i=>∃ k:Nat,k<=ss.length/\i=.int .i64 k/\Hid (∀ s∈ss.take k,(s.size:Int)=64)) (fun i=>ss.length-(intOf i).toNat)
    case atStart=>exact ⟨0,Nat.zero_le _,rfl,by show ∀ s∈ss.take 0,_;simp⟩
    case round =>
     obtain ⟨k,hk,rfl,HA⟩:=hrel
     by_cases aI:k<ss.length
     ·obtain ⟨b,o,s,rfl,hc,HS⟩:=(h.below (aC (.cells #[.slice a ss.length c,.slice a' ws.length c'] 26))).at aI
      have hm:Hid (s∈ss):=by show _∈_;rw [HS.out];simp [List.getD,aI]
      by_cases aG:((s.size:Int) != 64)=true
      ·go_wp2
       go_ret;exact ⟨qgT (by rw [HR.out];exact (Z3s hm.out (by simpa using aG)).symm),aC _⟩
      ·have aQ:((s.size:Int) != 64)=false:=by simpa using aG
       have aL:Hid ((s.size:Int)=64):=by show _=_;simpa using aG
       clear aG;go_wp2;go_round
       case rel=>exact ⟨k+1,by omega,by go_num,fun x hx=>by
              rw [List.take_succ_eq_append_getElem aI] at hx;rcases List.mem_append.1 hx with hx | hx
              ·exact HA.out x hx
              ·simp at hx;have e:=HS.out;simp [List.getD,aI] at e;rw [hx,<-e];exact aL.out⟩
       case measure=>simp [intOf];omega
     ·go_wp2
      have aE:∀ s∈ss,(s.size:Int)=64:=by have:=HA.out;rwa [List.take_of_length_le (by omega)] at this
      have aJ:=hid aE;clear aE HA;go_loopw [4] (fun i wr=>∃ k:Nat,k<=ws.length/\i=.int .i64 k/\Hid (∀ x∈ws.take k,wOk ss.length x=true)/\Below (w.heap.size+1) (w.alloc (.cells #[.slice a ss.length c,.slice a' ws.length c'] 26)) wr) (fun i _=>ws.length-(intOf i).toNat)
      case atStart=>exact ⟨0,Nat.zero_le _,rfl,by show ∀ s∈ws.take 0,_;simp,Below.refl _ _⟩
      case round =>
       obtain ⟨k2,aW,rfl,aM,aA⟩:=hrel;have q0:wr.cell? ⟨w.heap.size,0,none⟩=some (.slice a ss.length c):=(aA.cell (p:=⟨w.heap.size,0,none⟩) (by show w.heap.size<_;omega)).trans (by go_simp);have q1:wr.cell? ⟨w.heap.size,1,none⟩=some (.slice a' ws.length c'):=(aA.cell (p:=⟨w.heap.size,1,none⟩) (by show w.heap.size<_;omega)).trans (by go_simp);have aH:Below w.heap.size w wr:=(aC _).trans (aA.mono (by omega));have aP:=hid aA;have aK:=hid aH
       by_cases aB:k2<ws.length
       ·obtain ⟨b,o,n,s,rfl,hc,aN,HS⟩:=(h'.below aH).at aB
        have hm:Hid ((n,s)∈ws):=by show _∈_;rw [HS.out];simp [List.getD,aB]
        have aS:s.size<=1048576:=aR (n,s) hm.out;have aT:w.heap.size+1<=wr.heap.size:=by have:=aA.size;simpa using this
        have aF:w.heap.size<wr.heap.size:=by omega
        have aO:b<wr.heap.size:=by have:=World.block_lt_of_cell? wr _ hc;simpa using this
        have aV:(k2:Int)<(ws.length:Int):=by omega
        have aU:(0:Int)<=(k2:Int):=by omega
        have HQ:=hid (And.intro q0 (And.intro q1 (And.intro hc aN)));go_wp2_with fail;clear aA aH q0 q1 hc aN
        go_region_held3 (fun w'=>w'.cell? ⟨w.heap.size,0,none⟩=some (.slice a ss.length c)/\w'.cell? ⟨w.heap.size,1,none⟩=some (.slice (some ⟨b,o,none⟩) ws.length c')/\w'.cell? ⟨b,o+k2*2,none⟩=some (.int .i64 n)/\w'.cell? ⟨b,o+k2*2+1,none⟩=some (.string s))
         (first | assumption | exact HQ.out | exact ⟨(aD.cell (p:=⟨_,_,none⟩) aF).trans HQ.out.1,(aD.cell (p:=⟨_,_,none⟩) aF).trans HQ.out.2.1,(aD.cell (p:=⟨b,_,none⟩) aO).trans HQ.out.2.2.1,(aD.cell (p:=⟨b,_,none⟩) aO).trans HQ.out.2.2.2⟩)
         (first | (go_at_call 35;refine (z8b a ss.length c (some ⟨b,o,none⟩) ws.length c' n s _ aS (by omega)).mono ?_;rintro e w2 ⟨rfl,aD⟩))
        cases hok:wOk ss.length (n,s) with
        | false =>
         go_wp2;go_ret;exact ⟨qgT (by rw [HR.out];exact (qbC hm.out hok).symm),aK.out.drew.trans (aD.mono aK.out.size)⟩
        | true =>
         go_wp2;go_roundw
         case rel=>exact ⟨k2+1,by omega,by go_num,fun x hx=>by
                rw [List.take_succ_eq_append_getElem aB] at hx;rcases List.mem_append.1 hx with hx | hx
                ·exact aM.out x hx
                ·simp at hx;have e:=HS.out;simp [List.getD,aB] at e;rw [hx,<-e];exact hok,aP.out.drew.trans (aD.mono aT)⟩
         case measure=>simp [intOf];omega
       ·clear aA aH
        go_wp2;go_ret;refine ⟨qgT ?_,aK.out⟩;rw [HR.out];have h2:=aM.out;rw [List.take_of_length_le (by omega)] at h2;exact (Zof (by omega) aJ.out h2).symm
   ·go_enter Tryz.func16,Tryz.ntmps16
    go_wp2;go_ret;exact ⟨qgT (by rw [HR.out];exact (vcs (by omega)).symm),aC _⟩
  ·go_enter Tryz.func16,Tryz.ntmps16
   go_wp2;go_ret;exact ⟨qgT (by rw [HR.out];exact (vcs (by omega)).symm),aC _⟩
 ·go_enter Tryz.func16,Tryz.ntmps16
  go_wp2;go_ret;exact ⟨qgT (by rw [HR.out];exact (vcs (by omega)).symm),aC _⟩
structure Cx (w:World) (B:Nat) (v0 v1:Value):Prop where
 lt:B<w.heap.size
 c0:w.cell? ⟨B,0,none⟩=some v0
 c1:w.cell? ⟨B,1,none⟩=some v1
theorem Cx.below {w w':World} {B:Nat} {v0 v1:Value} (h:Cx w B v0 v1) (hb:Below w.heap.size w w'):Cx w' B v0 v1 :=
 ⟨Nat.lt_of_lt_of_le h.lt hb.size,(hb.cell (p:=⟨_,0,none⟩) h.lt).trans h.c0,(hb.cell (p:=⟨_,1,none⟩) h.lt).trans h.c1⟩
theorem Cx.grown {w w':World} {B:Nat} {v0 v1:Value} {r:Option Nat} (h:Cx w B v0 v1) (hg:w.grownBy w' r) (hn:some B≠r):Cx w' B v0 v1 :=
 ⟨Nat.lt_of_lt_of_le h.lt hg.size,(World.cell?_of_block (a:=⟨B,0,none⟩) (hg.block B h.lt hn)).trans h.c0,(World.cell?_of_block (a:=⟨B,1,none⟩) (hg.block B h.lt hn)).trans h.c1⟩
theorem Cx.drew {w:World} {B:Nat} {v0 v1:Value} (h:Cx w B v0 v1):Cx w.drew B v0 v1:=⟨h.lt,h.c0,h.c1⟩
theorem Cx.new (w:World) (v0 v1:Value) (t:TypeId):Cx (w.alloc (.cells #[v0,v1] t)) w.heap.size v0 v1 :=
 ⟨by simp,by rw [World.cell?_alloc_at _ _ _ _ rfl];rfl,by rw [World.cell?_alloc_at _ _ _ _ rfl];rfl⟩
theorem zE5 (w:World) (o:Obj):Below w.heap.size w (w.alloc o):=(Below.refl _ _).alloc (Nat.le_refl _) _
theorem Below.then {B:Nat} {a b c:World} (h:Below B a b) (hB:B<=a.heap.size) (k:Below b.heap.size b c):Below B a c:=h.trans (k.mono (Nat.le_trans hB h.size))
section
section
variable {P:Program} {e t:TypeId} {i:TypeInfo} {n:Nat}
theorem qyk (he:∀ w,(isAgg e).run P w=.ok false w) (xs:List Int) (j:Nat) (hj:j<xs.length) (w:World):(part e (xs.map (Value.int .u8)).toArray j).run P w=.ok (.int .u8 (xs.getD j 0)) w:=by
 unfold part;simp [he,Result.andThen,hj,List.getD]
theorem qYb (hu:P.underlying e=some (.int .u8)) (d:Nat) (a b:Int) (w:World):(Op.equalIn (d+1) e (.int .u8 a) (.int .u8 b)).run P w=.ok (a == b) w:=by
 simp [Op.equalIn,run_underlying hu,Result.andThen]
theorem j7N (he:∀ w,(isAgg e).run P w=.ok false w) (hu:P.underlying e=some (.int .u8)) (d:Nat) (xs ys:List Int) (w:World):∀ (js:List Nat),(∀ j∈js,j<xs.length/\j<ys.length)->(Op.eqItems (d+1) e 1 (xs.map (Value.int .u8)).toArray (ys.map (Value.int .u8)).toArray js).run P w=.ok (js.all fun j=>xs.getD j 0 == ys.getD j 0) w
 | [],_=>by simp [Op.eqItems]
 | j::js,h=>by
  have hj:=h j (List.mem_cons_self);have ih:=j7N he hu d xs ys w js (fun q hq=>h q (List.mem_cons_of_mem _ hq));simp only [Op.eqItems,Sem.run_bind,Nat.mul_one,qyk he xs j hj.1,qyk he ys j hj.2,qYb hu,Result.andThen_ok]
  cases hc:(xs.getD j 0 == ys.getD j 0) with
  | false=>simp only [Bool.not_false,if_true,Sem.run_pure,List.all_cons,hc,Bool.false_and]
  | true=>simp only [Bool.not_true,Bool.false_eq_true,if_false,ih,List.all_cons,hc,Bool.true_and]
theorem XMo (xs ys:List Int) (hl:xs.length=ys.length):((List.range xs.length).all fun j=>xs.getD j 0 == ys.getD j 0)=decide (xs=ys):=by
 rw [Bool.eq_iff_iff];simp only [List.all_eq_true,List.mem_range,beq_iff_eq,decide_eq_true_eq]
 constructor
 ·intro h
  apply List.ext_getElem hl
  intro j h1 h2;have:=h j h1;simpa [List.getD,h1,h2] using this
 ·intro h j hj;rw [h]
theorem kFr (hu:P.underlying t=some (.array n e)) (hi:P.info? e=some i) (hc:P.cellsOf e=1) (he:∀ w,(isAgg e).run P w=.ok false w) (hb:P.underlying e=some (.int .u8)) (xs ys:List Int) (hx:xs.length=n) (hy:ys.length=n) (w:World) :
  (binOp .neq t (.agg (xs.map (Value.int .u8)).toArray) (.agg (ys.map (Value.int .u8)).toArray)).run P w=.ok (.bool (!decide (xs=ys))) w:=by
 have h:=run_equalIn_array (w:=w) 9999 (xs.map (Value.int .u8)).toArray (ys.map (Value.int .u8)).toArray hu hi;rw [hc,<-hx,j7N he hb 9998 xs ys w (List.range xs.length) (fun j hj=>by have:=List.mem_range.1 hj;omega),XMo xs ys (by omega)] at h;simp only [binOp];simp [Op.equal,Op.maxDepth,h,Result.andThen]
end
end
end Go.Proofs.YtehbpeinnepdcaaGreatDoor
namespace Go.Proofs.YtehbpeinnepdcaaGreatDoor
structure Wr (p:Prop):Prop where
 out:p
end Go.Proofs.YtehbpeinnepdcaaGreatDoor
