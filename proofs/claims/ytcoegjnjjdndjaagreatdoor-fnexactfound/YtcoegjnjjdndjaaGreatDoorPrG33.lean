import Derived.Shelf.Spec.SlicesInsert
import Derived.Lib.AppendZerosOnto
import Derived.Lib.Overlaps
import Derived.Laws.Externs
import Derived.Laws.CopyRow
import Derived.Laws.CopyOwn
import Derived.Test.YtcoegjnjjdndjaaGreatDoorPrApS
import Derived.Test.YtcoegjnjjdndjaaGreatDoorPrG44
import Derived.Recover
import Derived.Defers
import Derived.Test.YtcoegjnjjdndjaaGreatDoorPrG49
set_option maxHeartbeats 16000000
set_option maxRecDepth 8000
set_option linter.unusedVariables false
set_option linter.unusedSimpArgs false
namespace Go.Proofs.YtcoegjnjjdndjaaGreatDoor
open Go.RowKit Go.Lib
theorem run_copy_k {P:Program} (w:World) (dT sT ty elem:TypeId) (k g o dLen dCap:Nat) (a:Addr) (sLen sCap:Nat) (cur:Array Value) (t:TypeId) (cs:List Value) (n:Nat)
  (hu:P.underlying dT=some (.slice elem)) (hs:(P.info? elem).map (·.size)=some k)
  (hg:w.heap[g]?=some (.cells cur t (0,0))) (hn:Nat.min sLen dLen=n) (hc:cs.length=n*k)
  (hsrc:∀ j v,cs[j]?=some v->w.cell? (a.add j)=some v) (hfit:o+cs.length<=cur.size) (h1:∀ v∈cs,v.oneCell'=true) :
  (Builtin.copy_ #[dT,sT] ty #[.slice (some ⟨g,o,none⟩) dLen dCap,.slice (some a) sLen sCap]).run P w =
   .ok (goInt n) (w.setRow g (cur.toList.take o++cs++cur.toList.drop (o+cs.length)).toArray):=by
 have hl:=run_loadCells_list (P:=P) w a cs hsrc
 have hst:=run_storeCells_at P g o t cs 0 cur w hg (by simpa using hfit) h1
 cases hq:P.info? elem with
 | none=>simp [hq] at hs
 | some i =>
  have hi:i.size=k:=by simpa [hq] using hs
  simp only [Nat.add_zero] at hst
  rw [hc] at hl
  simp [Builtin.copy_,run_underlying hu,Builtin.lenOf,Builtin.firstCells,sizeOf,typeInfo,hq,hi,hn,hl,hst]
theorem run_append_in {P:Program} (w:World) (t ty e:TypeId) (k g sLen sCap:Nat) (a:Addr) (n c:Nat) (cur:Array Value) (tt:TypeId) (cs:List Value)
  (ht:P.underlying t=some (.slice e)) (hs:(P.info? e).map (·.size)=some k)
  (hg:w.heap[g]?=some (.cells cur tt (0,0))) (hroom:sLen+n<=sCap) (hc:cs.length=n*k)
  (hsrc:∀ j v,cs[j]?=some v->w.cell? (a.add j)=some v) (hfit:sLen*k+cs.length<=cur.size) (h1:∀ v∈cs,v.oneCell'=true) :
  (Builtin.append_ #[t,t] ty #[.slice (some ⟨g,0,none⟩) sLen sCap,.slice (some a) n c]).run P w =
   .ok (.slice (some ⟨g,0,none⟩) (sLen+n) sCap) (w.setRow g (cur.toList.take (sLen*k)++cs++cur.toList.drop (sLen*k+cs.length)).toArray):=by
 have hl:=run_loadCells_list (P:=P) w a cs hsrc
 have hst:=run_storeCells_at P g (sLen*k) tt cs 0 cur w hg (by simpa using hfit) h1
 have hadd:(⟨g,0,none⟩:Addr).add (sLen*k)=⟨g,sLen*k,none⟩:=by rw [Addr.add_lit];simp
 cases hq:P.info? e with
 | none=>simp [hq] at hs
 | some i =>
  have hi:i.size=k:=by simpa [hq] using hs
  simp only [Nat.add_zero] at hst
  rw [hc] at hl
  simp [Builtin.append_,run_underlying ht,Builtin.lenOf,Builtin.firstCells,sizeOf,typeInfo,hq,hi,hl,hst,hroom,hadd]
theorem run_clear_k {P:Program} (w:World) (t ty e:TypeId) (z:Value) (ht:P.underlying t=some (.slice e)) (hv:∀ w,(zeroValue e).run P w=.ok z w) (g o n c:Nat) (hn:0<n) (cur:Array Value) (tt:TypeId) (cs:List Value)
  (hg:w.heap[g]?=some (.cells cur tt (0,0))) (hcs:(Builtin.zeroCells z.cells n).toList=cs) (hfit:o+cs.length<=cur.size) (h1:∀ v∈cs,v.oneCell'=true) :
  (Builtin.clear_ #[t] ty #[.slice (some ⟨g,o,none⟩) n c]).run P w=.ok (.tuple #[]) (w.setRow g (cur.toList.take o++cs++cur.toList.drop (o+cs.length)).toArray):=by
 have hst:=run_storeCells_at P g o tt cs 0 cur w hg (by simpa using hfit) h1
 simp only [Nat.add_zero] at hst
 obtain ⟨m,rfl⟩:∃ m,n=m+1:=⟨n-1,by omega⟩
 simp [Builtin.clear_,run_underlying ht,hv,hcs,hst]
theorem setRow_grown (w:World) (g:Nat) (cs:Array Value):w.grownBy (w.setRow g cs) (some g):=⟨rfl,rfl,rfl,by simp [World.setRow],fun k _ hk=>setRow_other w g k cs (fun e=>hk (by rw [e]))⟩
theorem grown_trans' {w w1 w2:World} {r:Option Nat} (h:w.grownBy w1 r) (k:w1.grownBy w2 r):w.grownBy w2 r :=
 ⟨k.os.trans h.os,k.tape.trans h.tape,k.output.trans h.output,Nat.le_trans h.size k.size,fun j hj hne=>(k.block j (Nat.lt_of_lt_of_le hj h.size) hne).trans (h.block j hj hne)⟩
theorem cell_of_row {w:World} {g:Nat} {cur:List Value} {t:TypeId} {fr:Nat×Nat} (h:w.heap[g]?=some (.cells cur.toArray t fr)) {j:Nat} {v:Value} (hv:cur[j]?=some v):w.cell? ⟨g,j,none⟩=some v:=by
 simp [World.cell?,h,hv]
theorem step_append_run {P:Program} {ops:Array Oper} {o:Oper} {a:Act} {w:World} {K:Act->World->Prop} {Q:Exit->Act->World->Prop} {E:Prop}
  (hg:o.guard=none) (d x:Operand) (dT sT:TypeId) (hop:o.op=Op.call { callee:=Callee.builtin Builtin.append,args:=#[d,x],argTypes:=#[dT,sT] })
  (v u:Value) (hd:a.eval d=v) (hx:a.eval x=u) {v':Value} {w':World} (hr:(Builtin.append_ #[dT,sT] o.type #[v,u]).run P w=.ok v' w') (hK:K (a.put o.dst v') w') :
  if Region.wanted o (yielded ops a.tmps)=true then Oper.wp P o a w K Q else E:=by
 have hw:Region.wanted o (yielded ops a.tmps)=true:=by simp [Region.wanted,hg]
 rw [if_pos hw]
 unfold Oper.wp
 simp [execOp,hop,resolve,invoke,builtin,hd,hx,hr,Result.andThen]
 exact hK
end Go.Proofs.YtcoegjnjjdndjaaGreatDoor
namespace Go.Proofs.YtcoegjnjjdndjaaGreatDoor
open Go.RowKit Go.Lib
theorem szPrD:(Tryz.prog.info? 111).map (·.size)=some 2:=by kernel_rfl
theorem zvPrD (w:World):(zeroValue 111).run Tryz.prog w=.ok (.agg #[.string ByteArray.empty,.string ByteArray.empty]) w:=by kernel_rfl
def delRow (cur:List Value) (n p:Nat):List Value:=cur.take (p*2)++(cur.drop (p*2+2)).take ((n-p-1)*2)++[.string ByteArray.empty,.string ByteArray.empty]++cur.drop (n*2)
theorem del_eq (cur:List Value) (n p:Nat) (hl:n*2<=cur.length) (hp:p<n) (cs c1:List Value) (hcs:cs=(cur.drop (p*2+2)).take ((n-p-1)*2)) (hc1:c1=cur.take (p*2)++cs++cur.drop (p*2+cs.length)) :
  cs.length=(n-p-1)*2/\c1.length=cur.length/\c1.take ((n-1)*2)++[.string ByteArray.empty,.string ByteArray.empty]++c1.drop ((n-1)*2+2)=delRow cur n p:=by
 have e1:cs.length=(n-p-1)*2:=by rw [hcs,List.length_take,List.length_drop];omega
 have e2:(cur.take (p*2)++cs).length=(n-1)*2:=by rw [List.length_append,List.length_take,e1];omega
 refine ⟨e1,by rw [hc1,List.length_append,e2,List.length_drop,e1];omega,?_⟩
 unfold delRow
 rw [<-hcs,hc1,List.take_left' e2,List.drop_append,List.drop_of_length_le (by rw [e2];omega),e2,List.nil_append,List.drop_drop,e1]
 congr 2
 omega
set_option maxHeartbeats 16000000 in
theorem delete_i (g n cap p:Nat) (cur:List Value) (w:World) (hg:w.heap[g]?=some (.cells cur.toArray 111 (0,0))) (hl:cur.length=cap*2) (hn:n<=cap) (hc:n<=100000) (hp:p<n) (h1:∀ v∈cur.take (n*2),v.oneCell'=true) :
  Calls Tryz.prog 203 #[.slice (some ⟨g,0,none⟩) n cap,.int .i64 (p:Int),.int .i64 ((p:Int)+1)] w fun e w'=>e=.returned (.slice (some ⟨g,0,none⟩) (n-1) cap)/\w.grownBy w' (some g) /\
   w'.heap[g]?=some (.cells (delRow cur n p).toArray 111 (0,0)):=by
 have hz1:¬ ((p:Int)=(p:Int)+1):=by omega
 have hb1:(p:Int)<=(p:Int)+1:=by omega
 have hb2:(p:Int)+1<=(n:Int):=by omega
 have hb0:(0:Int)<=(p:Int):=by omega
 have hb3:(0:Int)<=(p:Int)+1:=by omega
 have hb4:(n:Int)<=(cap:Int):=by omega
 have hb5:(p:Int)<=(cap:Int):=by omega
 have htn:((p:Int)+1).toNat=p+1:=by omega
 have hpn:p+(n-(p+1))=n-1:=by omega
 obtain ⟨cs,hcs⟩:∃ cs,cs=(cur.drop (p*2+2)).take ((n-p-1)*2):=⟨_,rfl⟩
 obtain ⟨c1,hc1⟩:∃ c1,c1=cur.take (p*2)++cs++cur.drop (p*2+cs.length):=⟨_,rfl⟩
 obtain ⟨e1,e2,e3⟩:=del_eq cur n p (by omega) hp cs c1 hcs hc1
 have hcs1:∀ v∈cs,v.oneCell'=true:=fun v hv=>h1 v (by rw [hcs,show (n-p-1)*2=n*2-(p*2+2) by omega,<-List.drop_take] at hv;exact List.mem_of_mem_drop hv)
 have hcell:∀ (D:Addr),(D=⟨g,(p+1)*2,none⟩\/cs=[])->∀ j v,cs[j]?=some v->w.drew.cell? (D.add j)=some v:=fun D hD j v hj=>by
  rcases hD with rfl | h0
  ·rw [Addr.add_lit]
   refine cell_of_row (w:=w.drew) (cur:=cur) hg ?_
   rw [hcs,List.getElem?_take] at hj
   split at hj
   ·rw [List.getElem?_drop] at hj
    rw [<-hj];congr 1;omega
   ·cases hj
  ·rw [h0] at hj;cases hj
 have HAP:Hid (∀ D c ty,(D=⟨g,(p+1)*2,none⟩\/cs=[])->(Builtin.append_ #[37,37] ty #[.slice (some ⟨g,0,none⟩) p cap,.slice (some D) (n-(p+1)) c]).run Tryz.prog w.drew=.ok (.slice (some ⟨g,0,none⟩) (n-1) cap) (w.drew.setRow g c1.toArray)):=fun D c ty hD=>by
  have:=run_append_in (P:=Tryz.prog) w.drew 37 ty 111 2 g p cap D (n-(p+1)) c cur.toArray 111 cs Tryz.underlying37 szPrD hg (by omega) (by rw [e1];omega) (hcell D hD) (by rw [e1];simp;omega) hcs1
  rw [hpn] at this
  rw [this,hc1]
 have HCL:Hid (∀ c ty,(Builtin.clear_ #[37] ty #[.slice (some ⟨g,(n-1)*2,none⟩) (n-(n-1)) c]).run Tryz.prog (w.drew.setRow g c1.toArray)=.ok (.tuple #[]) ((w.drew.setRow g c1.toArray).setRow g (delRow cur n p).toArray)):=fun c ty=>by
  rw [show n-(n-1)=1 by omega]
  have:=run_clear_k (P:=Tryz.prog) (w.drew.setRow g c1.toArray) 37 ty 111 _ Tryz.underlying37 zvPrD g ((n-1)*2) 1 c (by omega) c1.toArray 111 [.string ByteArray.empty,.string ByteArray.empty] (setRow_heap w.drew g cur.toArray c1.toArray 111 (0,0) hg) (by kernel_rfl) (by simp;omega) (onePr _ _)
  rw [this,<-e3]
  simp
 have hcz0:cap=p+1->cs=[]:=fun h=>List.eq_nil_of_length_eq_zero (by rw [e1];omega)
 have HCZ:=hid hcz0
 have HG:=hid hg
 clear hcz0 hcell hcs hc1 e1 e2 e3 hcs1 h1 hg
 go_enter Tryz.func203,Tryz.ntmps203
 by_cases hcp:cap=p+1
 case pos =>
  have hD:(⟨g,0,none⟩:Addr)=⟨g,(p+1)*2,none⟩\/cs=[]:=.inr (HCZ.out hcp)
  go_wp2_with fail
  refine wp_region_held_drew (S:=fun w'=>True) (by kernel_rfl) (trivial) (fun hHeld=>?_)
  refine TY (i:=0) (v:=.slice (some ⟨g,0,none⟩) n cap) rfl hHeld ?_
  simp only [PS]
  refine TY (i:=1) (v:=.int .i64 (p:Int)) rfl hHeld ?_
  simp only [PS]
  refine TY (i:=2) (v:=.slice (some ⟨g,0,none⟩) p cap) rfl hHeld ?_
  simp only [PS]
  refine TY (i:=3) (v:=.slice (some ⟨g,0,none⟩) n cap) rfl hHeld ?_
  simp only [PS]
  refine TY (i:=4) (v:=.int .i64 ((p:Int)+1)) rfl hHeld ?_
  simp only [PS]
  refine TY (i:=5) (v:=.slice (some ⟨g,0,none⟩) (n-(p+1)) (cap-(p+1))) rfl hHeld ?_
  simp only [PS]
  refine RD (i:=6) rfl (fun K hK=>?_)
  refine step_append_run rfl _ _ 37 37 rfl (.slice (some ⟨g,0,none⟩) p cap) (.slice (some ⟨g,0,none⟩) (n-(p+1)) (cap-(p+1))) (by simp [Act.eval,Act.put]) (by simp [Act.eval,Act.put]) (HAP.out _ _ _ hD) ?_
  refine hK.out _ _ (trivial) (fun hHd1=>?_)
  clear hK K
  try simp only [PS]
  refine RD (i:=7) rfl (fun K hK=>?_)
  go_simp
  refine hK.out _ _ hHd1 (fun _=>?_)
  clear hK K
  try simp only [PS]
  refine wpAnyH_done (by kernel_rfl) ?_ _
  have hcl:=HCL.out
  go_wp2_with fail
  go_ret
  exact ⟨by first | rfl | (rw [hcp];rfl),grown_trans' (undrewG (setRow_grown w.drew g _)) (setRow_grown _ g _),setRow_heap _ g _ _ 111 (0,0) (setRow_heap w.drew g cur.toArray c1.toArray 111 (0,0) HG.out)⟩
 case neg =>
  go_wp2_with fail
  refine wp_region_held_drew (S:=fun w'=>True) (by kernel_rfl) (trivial) (fun hHeld=>?_)
  refine TY (i:=0) (v:=.slice (some ⟨g,0,none⟩) n cap) rfl hHeld ?_
  simp only [PS]
  refine TY (i:=1) (v:=.int .i64 (p:Int)) rfl hHeld ?_
  simp only [PS]
  refine TY (i:=2) (v:=.slice (some ⟨g,0,none⟩) p cap) rfl hHeld ?_
  simp only [PS]
  refine TY (i:=3) (v:=.slice (some ⟨g,0,none⟩) n cap) rfl hHeld ?_
  simp only [PS]
  refine TY (i:=4) (v:=.int .i64 ((p:Int)+1)) rfl hHeld ?_
  simp only [PS]
  refine TY (i:=5) (v:=.slice (some ⟨g,(p+1)*2,none⟩) (n-(p+1)) (cap-(p+1))) rfl hHeld ?_
  simp only [PS]
  refine RD (i:=6) rfl (fun K hK=>?_)
  refine step_append_run rfl _ _ 37 37 rfl (.slice (some ⟨g,0,none⟩) p cap) (.slice (some ⟨g,(p+1)*2,none⟩) (n-(p+1)) (cap-(p+1))) (by simp [Act.eval,Act.put]) (by simp [Act.eval,Act.put]) (HAP.out _ _ _ (.inl rfl)) ?_
  refine hK.out _ _ (trivial) (fun hHd1=>?_)
  clear hK K
  try simp only [PS]
  refine RD (i:=7) rfl (fun K hK=>?_)
  go_simp
  refine hK.out _ _ hHd1 (fun _=>?_)
  clear hK K
  try simp only [PS]
  refine wpAnyH_done (by kernel_rfl) ?_ _
  have hcl:=HCL.out
  go_wp2_with fail
  go_ret
  exact ⟨by first | rfl | (rw [hcp];rfl),grown_trans' (undrewG (setRow_grown w.drew g _)) (setRow_grown _ g _),setRow_heap _ g _ _ 111 (0,0) (setRow_heap w.drew g cur.toArray c1.toArray 111 (0,0) HG.out)⟩
end Go.Proofs.YtcoegjnjjdndjaaGreatDoor
namespace Go.Proofs.YtcoegjnjjdndjaaGreatDoor
open Go.RowKit Go.Lib
def insRow (cur:List Value) (n p:Nat) (s0 s1:ByteArray):List Value:=cur.take (p*2)++[.string s0,.string s1]++(cur.drop (p*2)).take ((n-p)*2)++cur.drop (n*2+2)
theorem ins_eq (cur:List Value) (n p:Nat) (s0 s1:ByteArray) (hl:n*2+2<=cur.length) (hp:p<n) (cs c1:List Value) (hcs:cs=(cur.drop (p*2)).take ((n-p)*2)) (hc1:c1=cur.take ((p+1)*2)++cs++cur.drop ((p+1)*2+cs.length)) :
  cs.length=(n-p)*2/\c1.length=cur.length/\c1.take (p*2)++[.string s0,.string s1]++c1.drop (p*2+2)=insRow cur n p s0 s1:=by
 have e1:cs.length=(n-p)*2:=by rw [hcs,List.length_take,List.length_drop];omega
 have e0:(cur.take ((p+1)*2)).length=(p+1)*2:=by rw [List.length_take];omega
 refine ⟨e1,by rw [hc1,List.length_append,List.length_append,e0,List.length_drop,e1];omega,?_⟩
 unfold insRow
 rw [<-hcs,hc1,List.append_assoc (cur.take ((p+1)*2)),List.take_append_of_le_length (by rw [e0];omega),List.take_take,show min (p*2) ((p+1)*2)=p*2 by omega]
 rw [show p*2+2=(p+1)*2 by omega,List.drop_left' e0,e1]
 rw [show (p+1)*2+(n-p)*2=n*2+2 by omega]
 simp
set_option maxHeartbeats 16000000 in
theorem insert_in (g n cap p gv:Nat) (s0 s1:ByteArray) (cur:List Value) (w:World) (hg:w.heap[g]?=some (.cells cur.toArray 111 (0,0))) (hv:w.heap[gv]?=some (.cells #[.string s0,.string s1] 111 (0,0))) (hgv:gv≠g) (hl:cur.length=cap*2) (hn:n<cap) (hc:n<=100000) (hp:p<n) (h1:∀ v∈cur.take (n*2),v.oneCell'=true) :
  Calls Tryz.prog 212 #[.slice (some ⟨g,0,none⟩) n cap,.int .i64 (p:Int),.slice (some ⟨gv,0,none⟩) 1 1] w fun e w'=>e=.returned (.slice (some ⟨g,0,none⟩) (n+1) cap)/\w.grownBy w' (some g) /\
   w'.heap[g]?=some (.cells (insRow cur n p s0 s1).toArray 111 (0,0)):=by
 have hz1:¬ ((p:Int)=(n:Int)):=by omega
 have hb0:(0:Int)<=(p:Int):=by omega
 have hb1:(p:Int)<=(n:Int):=by omega
 have hb2:(p:Int)<=(n:Int)+1:=by omega
 have hb3:(p:Int)+1<=(n:Int)+1:=by omega
 have hb4:(0:Int)<=(p:Int)+1:=by omega
 have hb5:¬ ((cap:Int)<(n:Int)+1):=by omega
 have hb6:(n:Int)+1<=(cap:Int):=by omega
 have hb7:(0:Int)<=(n:Int)+1:=by omega
 have hb8:¬ (cap=p):=by omega
 have hb9:¬ (cap=p+1):=by omega
 have htn:((p:Int)+1).toNat=p+1:=by omega
 have hwp:IntKind.i64.wrap ((p:Int)+1)=(p:Int)+1:=by simp [IntKind.wrap,IntKind.bits,IntKind.signed];omega
 have htn2:((n:Int)+1).toNat=n+1:=by omega
 have hov:∀ lb cb,(callFunc 213 #[.slice (some ⟨gv,0,none⟩) 1 1,.slice (some ⟨g,(p+1)*2,none⟩) lb cb]).run Tryz.prog w=.ok (.value (.bool false)) w:=fun lb cb=>by
  rw [run_callFunc_extern Tryz.func213 (by kernel_rfl) (by kernel_rfl) (by kernel_rfl) (e:=Extern.SlicesOverlaps.overlaps #[37,37] #[4]) (by kernel_rfl),
   Lib.run_overlaps_apart w 37 4 111 Tryz.underlying37 2 Tryz.sizeOf111 ⟨gv,0,none⟩ ⟨g,(p+1)*2,none⟩ 1 1 lb cb hgv 111 111 2 (cap*2) (by simp [World.shape?,hv]) (by simp [World.shape?,hg,hl]) (by omega) (by simp [World.frozen?,hv]) (by simp [World.frozen?,hv])]
  rfl
 obtain ⟨cs,hcs⟩:∃ cs,cs=(cur.drop (p*2)).take ((n-p)*2):=⟨_,rfl⟩
 obtain ⟨c1,hc1⟩:∃ c1,c1=cur.take ((p+1)*2)++cs++cur.drop ((p+1)*2+cs.length):=⟨_,rfl⟩
 obtain ⟨e1,e2,e3⟩:=ins_eq cur n p s0 s1 (by omega) hp cs c1 hcs hc1
 have hcs1:∀ v∈cs,v.oneCell'=true:=fun v hv=>h1 v (by rw [hcs,show (n-p)*2=n*2-p*2 by omega,<-List.drop_take] at hv;exact List.mem_of_mem_drop hv)
 have hcell:∀ j v,cs[j]?=some v->w.drew.cell? ((⟨g,p*2,none⟩:Addr).add j)=some v:=fun j v hj=>by
  rw [Addr.add_lit]
  refine cell_of_row (w:=w.drew) (cur:=cur) hg ?_
  rw [hcs,List.getElem?_take] at hj
  split at hj
  ·rw [List.getElem?_drop] at hj;exact hj
  ·cases hj
 have HC1:Hid (∀ ty,(Builtin.copy_ #[37,37] ty #[.slice (some ⟨g,(p+1)*2,none⟩) (n+1-(p+1)) (cap-(p+1)),.slice (some ⟨g,p*2,none⟩) (n+1-p) (cap-p)]).run Tryz.prog w.drew=.ok (goInt ((n-p:Nat):Int)) (w.drew.setRow g c1.toArray)):=fun ty=>by
  have:=run_copy_k (P:=Tryz.prog) w.drew 37 37 ty 111 2 g ((p+1)*2) (n+1-(p+1)) (cap-(p+1)) ⟨g,p*2,none⟩ (n+1-p) (cap-p) cur.toArray 111 cs (n-p) Tryz.underlying37 szPrD hg (by simp only [Nat.min_def];split<;>omega) e1 hcell (by rw [e1];simp;omega) hcs1
  rw [this,hc1]
 have HC2:Hid (∀ W:World,W.heap[g]?=some (.cells c1.toArray 111 (0,0))->W.heap[gv]?=some (.cells #[.string s0,.string s1] 111 (0,0))->∀ ty,(Builtin.copy_ #[37,37] ty #[.slice (some ⟨g,p*2,none⟩) (n+1-p) (cap-p),.slice (some ⟨gv,0,none⟩) 1 1]).run Tryz.prog W=.ok (goInt 1) (W.setRow g (insRow cur n p s0 s1).toArray)):=fun W hW hV ty=>by
  have:=run_copy_k (P:=Tryz.prog) W 37 37 ty 111 2 g (p*2) (n+1-p) (cap-p) ⟨gv,0,none⟩ 1 1 c1.toArray 111 [.string s0,.string s1] 1 Tryz.underlying37 szPrD hW (by simp only [Nat.min_def];split<;>omega) rfl (fun j v hj=>by rw [Addr.add_lit,Nat.zero_add];exact cell_of_row (cur:=[.string s0,.string s1]) hV hj) (by simp;omega) (onePr _ _)
  rw [this,<-e3]
  simp
 have HG:=hid hg
 have HV:=hid hv
 clear hcell hcs hc1 e1 e2 e3 hcs1 h1 hg hv
 go_enter Tryz.func212,Tryz.ntmps212
 go_wp2_with (simp only [hov])
 refine wp_region_held_drew (S:=fun w'=>True) (by kernel_rfl) (trivial) (fun hHeld=>?_)
 refine TY (i:=0) (v:=.slice (some ⟨g,0,none⟩) (n+1) cap) rfl hHeld ?_
 simp only [PS]
 refine TY (i:=1) (v:=.int .i64 (p:Int)) rfl hHeld ?_
 simp only [PS]
 refine TY (i:=2) (v:=.int .i64 1) rfl hHeld ?_
 simp only [PS]
 refine TY (i:=3) (v:=.int .i64 ((p:Int)+1)) rfl hHeld ?_
 simp only [PS]
 refine TY (i:=4) (v:=.slice (some ⟨g,(p+1)*2,none⟩) (n+1-(p+1)) (cap-(p+1))) rfl hHeld ?_
 simp only [PS]
 refine TY (i:=5) (v:=.slice (some ⟨g,0,none⟩) (n+1) cap) rfl hHeld ?_
 simp only [PS]
 refine TY (i:=6) (v:=.int .i64 (p:Int)) rfl hHeld ?_
 simp only [PS]
 refine TY (i:=7) (v:=.slice (some ⟨g,p*2,none⟩) (n+1-p) (cap-p)) rfl hHeld ?_
 simp only [PS]
 refine RD (i:=8) rfl (fun K hK=>?_)
 refine step_copy_runI rfl _ _ 37 37 rfl (.slice (some ⟨g,(p+1)*2,none⟩) (n+1-(p+1)) (cap-(p+1))) (.slice (some ⟨g,p*2,none⟩) (n+1-p) (cap-p)) (by simp [Act.eval,Act.put]) (by simp [Act.eval,Act.put]) (HC1.out _) ?_
 refine hK.out _ _ (trivial) (fun hHd1=>?_)
 clear hK K
 try simp only [PS]
 refine wpAnyH_done (by kernel_rfl) ?_ _
 have hw1:=setRow_heap w.drew g cur.toArray c1.toArray 111 (0,0) HG.out
 have hv1:(w.drew.setRow g c1.toArray).heap[gv]?=some (.cells #[.string s0,.string s1] 111 (0,0)):=(setRow_other w.drew g gv _ hgv).trans HV.out
 have hcp2:=HC2.out _ hw1 hv1
 clear hHeld hHd1
 go_wp2_with fail
 go_ret
 exact ⟨rfl,grown_trans' (undrewG (setRow_grown w.drew g _)) (setRow_grown _ g _),setRow_heap _ g _ _ 111 (0,0) hw1⟩
theorem zc_pr (n:Nat):(Builtin.zeroCells (Value.agg #[.string ByteArray.empty,.string ByteArray.empty]).cells n).size=n*2:=by simp [Builtin.zeroCells,Value.cells]
set_option maxHeartbeats 16000000 in
theorem insert_gr (g n p gv:Nat) (s0 s1:ByteArray) (cur:List Value) (w:World) (hg:w.heap[g]?=some (.cells cur.toArray 111 (0,0))) (hv:w.heap[gv]?=some (.cells #[.string s0,.string s1] 111 (0,0))) (hl:cur.length=n*2) (hc:n<=100000) (hp:p<n) (h1:∀ v∈cur.take (n*2),v.oneCell'=true) :
  Calls Tryz.prog 212 #[.slice (some ⟨g,0,none⟩) n n,.int .i64 (p:Int),.slice (some ⟨gv,0,none⟩) 1 1] w fun e w'=>∃ (G:Nat) (row:List Value),e=.returned (.slice (some ⟨w.heap.size,0,none⟩) (n+1) G)/\n+1<=G/\G<=maxLen/\row.length=G*2/\row.take ((n+1)*2)=cur.take (p*2)++[.string s0,.string s1]++cur.drop (p*2)/\Below w.heap.size w w'/\w.heap.size<w'.heap.size /\
   w'.heap[w.heap.size]?=some (.cells row.toArray 111 (0,0)):=by
 obtain ⟨i0,hi0,hz0,hzs,hzb⟩:=info_partsP info_prC
 have hgl:g<w.heap.size:=(Array.getElem?_eq_some_iff.1 hg).1
 have hvl:gv<w.heap.size:=(Array.getElem?_eq_some_iff.1 hv).1
 have hz1:¬ ((p:Int)=(n:Int)):=by omega
 have hb0:(0:Int)<=(p:Int):=by omega
 have hb1:(p:Int)<=(n:Int):=by omega
 have hb2:(p:Int)<=(n:Int)+1:=by omega
 have hb3:(p:Int)+1<=(n:Int)+1:=by omega
 have hb4:(0:Int)<=(p:Int)+1:=by omega
 have hb5:(n:Int)<(n:Int)+1:=by omega
 have hb8:¬ (n=p):=by omega
 have htn:((p:Int)+1).toNat=p+1:=by omega
 have hwp:IntKind.i64.wrap ((p:Int)+1)=(p:Int)+1:=by simp [IntKind.wrap,IntKind.bits,IntKind.signed];omega
 have hkk:(n:Int)+1-(p:Int)=((n+1-p:Nat):Int):=by omega
 have hik:p+(n+1-p)=n+1:=by omega
 have hold:(Builtin.firstCells i0.size p (.slice (some ⟨g,0,none⟩) p n)).run Tryz.prog w.drew=.ok (cur.take (p*2)).toArray w.drew:=by
  rw [hzs]
  exact run_firstCells_some w.drew 2 p ⟨g,0,none⟩ p n (cur.take (p*2)) (by rw [List.length_take];omega) (fun j v hj=>by
   rw [Addr.add_lit,Nat.zero_add]
   rw [List.getElem?_take] at hj
   split at hj
   ·exact cell_of_row (w:=w.drew) (cur:=cur) hg hj
   ·cases hj)
 obtain ⟨G,hG⟩:∃ G,G=grownCap w (n+1) n 111:=⟨_,rfl⟩
 have hGn:n+1<=G:=by rw [hG];exact grownCap_ge w _ _ _
 have hGm:G<=maxLen:=by rw [hG];exact grownCap_le_maxLen w (n+1) n _ (by unfold maxLen;omega)
 obtain ⟨ROW,hROW⟩:∃ ROW:List Value,ROW=cur.take (p*2)++(Builtin.zeroCells (Value.agg #[.string ByteArray.empty,.string ByteArray.empty]).cells (n+1-p)).toList++(Builtin.zeroCells (Value.agg #[.string ByteArray.empty,.string ByteArray.empty]).cells (G-(n+1))).toList:=⟨_,rfl⟩
 have hROWa:ROW.toArray=(cur.take (p*2)).toArray++Builtin.zeroCells (Value.agg #[.string ByteArray.empty,.string ByteArray.empty]).cells (n+1-p)++Builtin.zeroCells (Value.agg #[.string ByteArray.empty,.string ByteArray.empty]).cells (G-(n+1)):=by rw [hROW];apply Array.ext';simp
 have hRl:ROW.length=G*2:=by rw [hROW];simp only [List.length_append,List.length_take,Array.length_toList,zc_pr];omega
 have hRt:ROW.take (p*2)=cur.take (p*2):=by rw [hROW,List.append_assoc];exact List.take_left' (by rw [List.length_take];omega)
 have hrz:∀ ty,(Builtin.append_ #[37,3] ty #[.slice (some ⟨g,0,none⟩) p n,.int .i64 ((n:Int)+1-(p:Int))]).run Tryz.prog w=.ok (.slice (some ⟨w.heap.size,0,none⟩) (n+1) G) (w.drew.alloc (.cells ROW.toArray 111)):=fun ty=>by
  have h:=Lib.run_append_grow_zeros (P:=Tryz.prog) w 37 3 ty 111 i0 _ .i64 .i64 Tryz.underlying37 Tryz.underlying3 hi0 hz0 (some ⟨g,0,none⟩) p n (cur.take (p*2)) hold (n+1-p) (by omega) (by omega) (by omega) (by omega) (by rw [hzb];omega) (by rw [hzb,hik];exact growslice_fits (by omega) (by omega))
  rw [hik,<-hG] at h
  rw [hkk,h,hROWa]
 have hG63:G<=9223372036854775807:=hGm
 have hGi:¬ (G=p):=by omega
 have hGip:¬ (G=p+1):=by omega
 clear hkk hik hold hROW hROWa hG
 obtain ⟨w1,hw1⟩:∃ w1,w1=w.drew.alloc (.cells ROW.toArray 111):=⟨_,rfl⟩
 rw [<-hw1] at hrz
 have hb1':Below w.heap.size w w1:=by rw [hw1];exact (Below.refl _ _).drew.alloc (Nat.le_refl _) _
 have hs1:w1.heap.size=w.heap.size+1:=by rw [hw1];rw [World.size_alloc];rfl
 have hN1:w1.heap[w.heap.size]?=some (.cells ROW.toArray 111 (0,0)):=by rw [hw1];exact heap_alloc_new w.drew _
 have hV1:w1.heap[gv]?=some (.cells #[.string s0,.string s1] 111 (0,0)):=(hb1'.block gv hvl).trans hv
 have hG1:w1.heap[g]?=some (.cells cur.toArray 111 (0,0)):=(hb1'.block g hgl).trans hg
 clear hw1
 obtain ⟨c1,hc1⟩:∃ c1,c1=ROW.take (p*2)++[.string s0,.string s1]++ROW.drop (p*2+2):=⟨_,rfl⟩
 have hc1l:c1.length=G*2:=by rw [hc1];simp only [List.length_append,List.length_take,List.length_drop,List.length_cons,List.length_nil];omega
 have hcpA:∀ ty,(Builtin.copy_ #[37,37] ty #[.slice (some ⟨w.heap.size,p*2,none⟩) (n+1-p) (G-p),.slice (some ⟨gv,0,none⟩) 1 1]).run Tryz.prog w1=.ok (goInt 1) (w1.setRow w.heap.size c1.toArray):=fun ty=>by
  have:=run_copy_k (P:=Tryz.prog) w1 37 37 ty 111 2 w.heap.size (p*2) (n+1-p) (G-p) ⟨gv,0,none⟩ 1 1 ROW.toArray 111 [.string s0,.string s1] 1 Tryz.underlying37 szPrD hN1 (by simp only [Nat.min_def];split<;>omega) rfl (fun j v hj=>by rw [Addr.add_lit,Nat.zero_add];exact cell_of_row (cur:=[.string s0,.string s1]) hV1 hj) (by simp;omega) (onePr _ _)
  rw [this,hc1]
  simp
 obtain ⟨w2,hw2⟩:∃ w2,w2=w1.setRow w.heap.size c1.toArray:=⟨_,rfl⟩
 rw [<-hw2] at hcpA
 have hN2:w2.heap[w.heap.size]?=some (.cells c1.toArray 111 (0,0)):=by rw [hw2];exact setRow_heap w1 w.heap.size _ _ 111 (0,0) hN1
 have hG2:w2.heap[g]?=some (.cells cur.toArray 111 (0,0)):=by rw [hw2];exact (setRow_other w1 w.heap.size g _ (by omega)).trans hG1
 have hb2':Below w.heap.size w w2:=by rw [hw2];exact below_setRow hb1' (Nat.le_refl _) _
 have hs2:w2.heap.size=w.heap.size+1:=by rw [hw2];simpa [World.setRow] using hs1
 clear hw2
 have hdl:(cur.drop (p*2)).length=(n-p)*2:=by rw [List.length_drop];omega
 obtain ⟨c2,hc2⟩:∃ c2,c2=c1.take ((p+1)*2)++cur.drop (p*2)++c1.drop ((p+1)*2+(n-p)*2):=⟨_,rfl⟩
 have HCB:Hid (∀ ty,(Builtin.copy_ #[37,37] ty #[.slice (some ⟨w.heap.size,(p+1)*2,none⟩) (n+1-(p+1)) (G-(p+1)),.slice (some ⟨g,p*2,none⟩) (n-p) (n-p)]).run Tryz.prog w2.drew=.ok (goInt ((n-p:Nat):Int)) (w2.drew.setRow w.heap.size c2.toArray)):=fun ty=>by
  have:=run_copy_k (P:=Tryz.prog) w2.drew 37 37 ty 111 2 w.heap.size ((p+1)*2) (n+1-(p+1)) (G-(p+1)) ⟨g,p*2,none⟩ (n-p) (n-p) c1.toArray 111 (cur.drop (p*2)) (n-p) Tryz.underlying37 szPrD hN2 (by simp only [Nat.min_def];split<;>omega) hdl (fun j v hj=>by rw [Addr.add_lit];rw [List.getElem?_drop] at hj;exact cell_of_row (w:=w2.drew) (cur:=cur) hG2 hj) (by rw [hdl];simp;omega) (fun v hv=>h1 v (by rw [List.take_of_length_le (by omega)];exact List.mem_of_mem_drop hv))
  rw [this,hc2,hdl]
 have hfin:c2.length=G*2/\c2.take ((n+1)*2)=cur.take (p*2)++[.string s0,.string s1]++cur.drop (p*2):=by
  have et:c1.take ((p+1)*2)=cur.take (p*2)++[.string s0,.string s1]:=by
   rw [hc1,hRt]
   exact List.take_left' (by simp;omega)
  have el:(c1.take ((p+1)*2)++cur.drop (p*2)).length=(n+1)*2:=by rw [List.length_append,hdl,List.length_take,hc1l];omega
  refine ⟨by rw [hc2,List.length_append,el,List.length_drop,hc1l];omega,?_⟩
  rw [hc2,List.take_left' el,et]
 have HF:=hid hfin
 have HN2:=hid hN2
 have HB2:=hid hb2'
 clear hi0 hz0 hzs hzb hRl hRt hc1 hc1l hN1 hV1 hG1 hN2 hG2 hb1' hb2' hs1 hdl hc2 hfin hg hv h1
 go_enter Tryz.func212,Tryz.ntmps212
 go_wp2_with (first
  | (at_builtin;refine Lib.wpList_append_run _ rfl _ _ _ _ rfl _ _ rfl rfl _ _ (hrz _) ?_)
  | (at_builtin;refine wpList_copy_runI _ rfl _ _ 37 37 rfl _ _ rfl rfl (hcpA _) ?_))
 refine wp_region_held_drew (S:=fun w'=>True) (by kernel_rfl) (trivial) (fun hHeld=>?_)
 refine TY (i:=0) (v:=.slice (some ⟨w.heap.size,0,none⟩) (n+1) G) rfl hHeld ?_
 simp only [PS]
 refine TY (i:=1) (v:=.int .i64 (p:Int)) rfl hHeld ?_
 simp only [PS]
 refine TY (i:=2) (v:=.int .i64 1) rfl hHeld ?_
 simp only [PS]
 refine TY (i:=3) (v:=.int .i64 ((p:Int)+1)) rfl hHeld ?_
 simp only [PS]
 refine TY (i:=4) (v:=.slice (some ⟨w.heap.size,(p+1)*2,none⟩) (n+1-(p+1)) (G-(p+1))) rfl hHeld ?_
 simp only [PS]
 refine TY (i:=5) (v:=.slice (some ⟨g,0,none⟩) n n) rfl hHeld ?_
 simp only [PS]
 refine TY (i:=6) (v:=.int .i64 (p:Int)) rfl hHeld ?_
 simp only [PS]
 refine TY (i:=7) (v:=.slice (some ⟨g,p*2,none⟩) (n-p) (n-p)) rfl hHeld ?_
 simp only [PS]
 refine RD (i:=8) rfl (fun K hK=>?_)
 refine step_copy_runI rfl _ _ 37 37 rfl (.slice (some ⟨w.heap.size,(p+1)*2,none⟩) (n+1-(p+1)) (G-(p+1))) (.slice (some ⟨g,p*2,none⟩) (n-p) (n-p)) (by simp [Act.eval,Act.put]) (by simp [Act.eval,Act.put]) (HCB.out _) ?_
 refine hK.out _ _ (trivial) (fun hHd1=>?_)
 clear hK K
 try simp only [PS]
 refine wpAnyH_done (by kernel_rfl) ?_ _
 go_wp2_with fail
 go_ret
 exact ⟨G,c2,rfl,hGn,hGm,HF.out.1,HF.out.2,(below_setRow (HB2.out.drew) (Nat.le_refl _) _),by have:(w2.drew.setRow w.heap.size c2.toArray).heap.size=w2.heap.size:=(by simp [World.setRow]);omega,setRow_heap w2.drew _ _ _ 111 (0,0) HN2.out⟩
end Go.Proofs.YtcoegjnjjdndjaaGreatDoor
namespace Go.Proofs.YtcoegjnjjdndjaaGreatDoor
open Go.RowKit Go.Lib
theorem pr_len (l:List Pr):(prcells l).length=l.length*2:=prcells_length l
theorem cut_row {cur:List Value} {a r:List Pr} {n p:Nat} (h:cur.take (n*2)=prcells (a++r)) (hp:a.length=p) (hn:n=p+r.length) (hl:n*2<=cur.length):cur.take (p*2)=prcells a/\(cur.drop (p*2)).take ((n-p)*2)=prcells r:=by
 rw [prcells_append] at h
 have e1:(prcells a).length=p*2:=by rw [pr_len,hp]
 constructor
 ·have:(cur.take (n*2)).take (p*2)=cur.take (p*2):=by rw [List.take_take,show min (p*2) (n*2)=p*2 by omega]
  rw [<-this,h,List.take_left' e1]
 ·have:(cur.drop (p*2)).take ((n-p)*2)=(cur.take (n*2)).drop (p*2):=by rw [List.drop_take];congr 1;omega
  rw [this,h,List.drop_left' e1]
theorem ins_take {cur:List Value} {a r:List Pr} {n p:Nat} {s0 s1:ByteArray} (h:cur.take (n*2)=prcells (a++r)) (hp:a.length=p) (hn:n=p+r.length) (hl:n*2+2<=cur.length):(insRow cur n p s0 s1).take ((n+1)*2)=prcells (a++[(s0,s1)]++r)/\(insRow cur n p s0 s1).length=cur.length:=by
 obtain ⟨h1,h2⟩:=cut_row h hp hn (by omega)
 unfold insRow
 rw [h1,h2]
 have e:(prcells a++[Value.string s0,.string s1]++prcells r).length=(n+1)*2:=by simp only [List.length_append,pr_len,List.length_cons,List.length_nil];omega
 refine ⟨?_,by rw [List.length_append,e,List.length_drop];omega⟩
 rw [List.take_left' e,prcells_append,prcells_append]
 rfl
theorem del_take {cur:List Value} {a r:List Pr} {x:Pr} {n p:Nat} (h:cur.take (n*2)=prcells (a++[x]++r)) (hp:a.length=p) (hn:n=p+1+r.length) (hl:n*2<=cur.length):(delRow cur n p).take ((n-1)*2)=prcells (a++r)/\(delRow cur n p).length=cur.length:=by
 obtain ⟨h1,_⟩:=cut_row (a:=a) (r:=[x]++r) (by rw [h,List.append_assoc]) hp (by simp;omega) hl
 obtain ⟨_,h2⟩:=cut_row (a:=a++[x]) (r:=r) (p:=p+1) h (by simp [hp]) hn hl
 unfold delRow
 rw [h1,show p*2+2=(p+1)*2 by omega,show n-p-1=n-(p+1) by omega,h2]
 have e:(prcells a++prcells r).length=(n-1)*2:=by simp only [List.length_append,pr_len];omega
 refine ⟨?_,by simp only [List.length_append,pr_len,List.length_cons,List.length_nil,List.length_drop];omega⟩
 rw [List.append_assoc,List.take_left' e,prcells_append]
theorem set_take {cur:List Value} {a r:List Pr} {k v v':ByteArray} {n p:Nat} (h:cur.take (n*2)=prcells (a++[(k,v)]++r)) (hp:a.length=p) (hn:n=p+1+r.length):(cur.set (p*2+1) (.string v')).take (n*2)=prcells (a++[(k,v')]++r):=by
 rw [List.take_set,h,prcells_append,prcells_append,prcells_append,prcells_append,List.append_assoc,List.append_assoc,List.set_append_right _ _ (by rw [pr_len];omega),pr_len,hp,show p*2+1-p*2=1 by omega]
 rfl
theorem own_full {w:World} {base:Nat} {v:Value} {rs:List Pr} (h:w.ownsRow base 111 2 v rs.length (prcells rs)) (hn:0<rs.length):∃ g cap cur,v=.slice (some ⟨g,0,none⟩) rs.length cap/\base<=g/\w.heap[g]?=some (.cells (List.toArray cur) 111 (0,0))/\rs.length<=cap/\cap<=maxLen/\cur.length=cap*2/\cur.take (rs.length*2)=prcells rs:=by
 rcases h.2 with ⟨_,e⟩ | ⟨g,cap,cur,e1,e2,e3,e4,e5,e6,e7⟩
 ·omega
 ·exact ⟨g,cap,cur.toList,e1,e2,by simpa using e3,e4,e5,by simpa using e6,e7⟩
theorem own_mk {w:World} {base g cap n:Nat} {cur:List Value} {rs:List Pr} (hb:base<=g) (hg:w.heap[g]?=some (.cells cur.toArray 111 (0,0))) (hn:n<=cap) (hc:cap<=maxLen) (hl:cur.length=cap*2) (ht:cur.take (n*2)=prcells rs) (hr:rs.length=n):w.ownsRow base 111 2 (.slice (some ⟨g,0,none⟩) n cap) rs.length (prcells rs):=by
 subst hr
 exact ⟨pr_len rs,.inr ⟨g,cap,cur.toArray,rfl,hb,hg,hn,hc,by simpa using hl,by simpa using ht⟩⟩
theorem own_prs {w:World} {base:Nat} {v:Value} {rs:List Pr} (h:w.ownsRow base 111 2 v rs.length (prcells rs)):∃ a c,v=.slice a rs.length c/\Prs w a rs:=by
 rcases owns_forms h with ⟨e1,e2⟩ | ⟨g,cap,e1,_,_,e4⟩
 ·exact ⟨none,0,by rw [e1,e2],.inl (List.eq_nil_of_length_eq_zero e2)⟩
 ·exact ⟨_,cap,e1,e4.prs⟩
theorem pr_one (l:List Pr):∀ u∈prcells l,u.oneCell'=true:=fun u hu=>by
 unfold prcells at hu
 rw [List.mem_flatMap] at hu
 obtain ⟨x,_,hx⟩:=hu
 exact onePr x.1 x.2 u hx
set_option maxHeartbeats 16000000 in
theorem insert_end (base:Nat) (a:Option Addr) (c:Nat) (rs:List Pr) (gv:Nat) (s0 s1:ByteArray) (w:World) (own:w.ownsRow base 111 2 (.slice a rs.length c) rs.length (prcells rs)) (hv:w.heap[gv]?=some (.cells #[.string s0,.string s1] 111 (0,0))) (hl:rs.length<=1000) (hb:base<=w.heap.size) :
  Calls Tryz.prog 212 #[.slice a rs.length c,.int .i64 (rs.length:Int),.slice (some ⟨gv,0,none⟩) 1 1] w fun e w'=>∃ v',e=.returned v'/\w'.ownsRow base 111 2 v' (rs++[(s0,s1)]).length (prcells (rs++[(s0,s1)]))/\Below base w w':=by
 obtain ⟨i0,hi0,hz0,hz1,hz2⟩:=info_partsP info_prC
 have HI:=hid (And.intro hi0 (And.intro hz0 (And.intro hz1 hz2)))
 clear hi0 hz0 hz1 hz2
 have hb0:(0:Int)<=(rs.length:Int):=by omega
 have hcap:rs.length<=c:=by
  rcases own.2 with ⟨e1,e2⟩ | ⟨g,cap,cur,e1,_,_,h3,_⟩
  ·omega
  ·cases e1;exact h3
 have HN:=hid (fun j u (hj:[Value.string s0,.string s1][j]?=some u)=>show w.cell? ((⟨gv,0,none⟩:Addr).add j)=some u by rw [Addr.add_lit,Nat.zero_add];exact cell_of_row (cur:=[.string s0,.string s1]) hv hj)
 have HO:=hid own
 clear own
 have key:∀ (A:Option Addr),A=a->Calls Tryz.prog 212 #[.slice A rs.length c,.int .i64 (rs.length:Int),.slice (some ⟨gv,0,none⟩) 1 1] w fun e w'=>∃ v',e=.returned v'/\w'.ownsRow base 111 2 v' (rs++[(s0,s1)]).length (prcells (rs++[(s0,s1)]))/\Below base w w':=by
  intro A hA
  subst hA
  cases A with
  | none =>
   go_enter Tryz.func212,Tryz.ntmps212
   go_wp2_with (at_builtin;refine wpList_append_lies _ rfl _ _ 37 rfl base 111 i0 (.agg #[.string ByteArray.empty,.string ByteArray.empty]) 2 32 Tryz.underlying37 HI.out.1 HI.out.2.1 HI.out.2.2.1 HI.out.2.2.2 rfl (by omega) _ rs.length _ rfl HO.out ⟨gv,0,none⟩ 1 1 [.string s0,.string s1] rfl rfl HN.out (onePr _ _) (by omega) (by unfold maxLen;omega) (by omega) hb w.heap.size rfl ?_;intro g9 cap9 w9 hown9 hgrow9 hat9 hlt9;have HO9:=hid hown9;have HG9:=hid hgrow9;clear hown9 hgrow9 hat9)
   all_goals
    go_ret
    exact ⟨.slice (some ⟨g9,0,none⟩) (rs.length+1) cap9,rfl,by simpa only [prcells_snocA,List.length_append,List.length_singleton] using HO9.out,below_of_grown HG9.out hb (fun k hk=>(HO.out.lt k hk).1)⟩
  | some ad =>
   go_enter Tryz.func212,Tryz.ntmps212
   go_wp2_with (at_builtin;refine wpList_append_lies _ rfl _ _ 37 rfl base 111 i0 (.agg #[.string ByteArray.empty,.string ByteArray.empty]) 2 32 Tryz.underlying37 HI.out.1 HI.out.2.1 HI.out.2.2.1 HI.out.2.2.2 rfl (by omega) _ rs.length _ rfl HO.out ⟨gv,0,none⟩ 1 1 [.string s0,.string s1] rfl rfl HN.out (onePr _ _) (by omega) (by unfold maxLen;omega) (by omega) hb w.heap.size rfl ?_;intro g9 cap9 w9 hown9 hgrow9 hat9 hlt9;have HO9:=hid hown9;have HG9:=hid hgrow9;clear hown9 hgrow9 hat9)
   all_goals
    go_ret
    exact ⟨.slice (some ⟨g9,0,none⟩) (rs.length+1) cap9,rfl,by simpa only [prcells_snocA,List.length_append,List.length_singleton] using HO9.out,below_of_grown HG9.out hb (fun k hk=>(HO.out.lt k hk).1)⟩
 exact key a rfl
set_option maxHeartbeats 16000000 in
theorem setap_i (base:Nat) (v:Value) (rs:List Pr) (key val:ByteArray) (w:World) (own:w.ownsRow base 111 2 v rs.length (prcells rs)) (hasc:ascP rs) (hl:rs.length<=1000) (hb:base<=w.heap.size) :
  Calls Tryz.prog 210 #[.agg #[.string key,.string val],v] w fun e w'=>∃ v',e=.returned v'/\w'.ownsRow base 111 2 v' (chF (key,val,false) rs).length (prcells (chF (key,val,false) rs))/\ascP (chF (key,val,false) rs)/\Below base w w':=by
 obtain ⟨a,c,rfl,hprs⟩:=own_prs own
 have hb0:∀ o,Below w.heap.size w (w.alloc o):=fun o=>(Below.refl _ _).alloc (Nat.le_refl _) _
 have HF:=hid (find_i a rs c key _ (hprs.below (hb0 (.cells #[.string key,.string val] 236))) (by omega) (asc_mono hasc key))
 go_enter Tryz.func210,Tryz.ntmps210
 go_wp2_with fail
 refine HF.out.mono ?_
 rintro e w2 ⟨p,hp,h1,h2,rfl,hb2⟩
 have hr:=(row_new w #[.string key,.string val] 236).below hb2
 have q0:=hr.cell 0 _ rfl
 have q1:=hr.cell 1 _ rfl
 have lr:=hr.lt
 have own2:=owns_below own ((hb0 _).trans (hb2.mono (hb0 _).size))
 have hbb:Below base w w2:=((hb0 _).trans (hb2.mono (hb0 _).size)).mono hb
 have hs2:w.heap.size<w2.heap.size:=lr
 clear hr HF hb2
 by_cases ht:p<rs.length/\cmpB (kAt rs p) key=0
 ·obtain ⟨e1,e2,e3,e4⟩:=part_at hasc key p hp h1 h2 1 (by rw [if_pos ht])
  have e3':∃ v0,(rs.drop p).take 1=[(key,v0)]:=e3.resolve_left (by intro h0;have:=congrArg List.length h0;rw [List.length_take,List.length_drop,List.length_nil] at this;omega)
  obtain ⟨v0,hv0⟩:=e3'
  have hF:=chF_at (key,val,false) (rs.take p) ((rs.drop p).take 1) (rs.drop (p+1)) e2 e3 e4
  have hA:=chAt_asc (key,val,false) (rs.take p) ((rs.drop p).take 1) (rs.drop (p+1)) (by rw [<-e1];exact hasc) e2 e4
  rw [<-e1] at hF
  obtain ⟨g,cap,cur,ev,hg1,hg2,hg3,hg4,hg5,hg6⟩:=own_full own2 (by omega)
  cases ev
  rw [decide_eq_true ht]
  have hk0:(0:Int)<=(p:Int):=by omega
  have hk1:(p:Int)<(rs.length:Int):=by omega
  have hcl:w2.cell? ⟨g,p*2+1,none⟩=some (.string v0):=by
   refine cell_of_row hg2 ?_
   have:(cur.take (rs.length*2))[p*2+1]?=some (.string v0):=by
    rw [hg6,e1,hv0,prcells_append,prcells_append,List.append_assoc,List.getElem?_append_right (by rw [pr_len,List.length_take];omega),pr_len,List.length_take,show p*2+1-min p rs.length*2=1 by rw [Nat.min_eq_left (by omega)];omega]
    rfl
   rw [List.getElem?_take] at this
   split at this
   ·exact this
   ·cases this
  have hfz:w2.frozen? ⟨g,p*2+1,none⟩=false:=by simp [World.frozen?,hg2]
  have hset:=setCell_eq_setRow w2 g (p*2+1) cur.toArray 111 (0,0) (.string val) hg2
  have hown:(w2.setCell ⟨g,p*2+1,none⟩ (.string val)).ownsRow base 111 2 (.slice (some ⟨g,0,none⟩) rs.length c) (chF (key,val,false) rs).length (prcells (chF (key,val,false) rs)):=by
   rw [hF]
   unfold chAt
   simp only [Bool.false_eq_true,if_false]
   refine own_mk (cur:=cur.set (p*2+1) (.string val)) hg1 ?_ hg3 hg4 (by simpa using hg5) ?_ ?_
   ·rw [hset,setRow_heap w2 g _ _ 111 (0,0) hg2];simp
   ·rw [show rs.length*2=rs.length*2 from rfl]
    refine set_take (k:=key) (v:=v0) (by rw [hg6];congr 1;rw [<-hv0];exact e1) (by rw [List.length_take];omega) (by rw [List.length_drop];omega)
   ·simp only [List.length_append,List.length_take,List.length_drop,List.length_cons,List.length_nil];omega
  have HOWN:=hid hown
  have HA:Hid (ascP (chF (key,val,false) rs)):=by show ascP _;rw [hF];exact hA
  have hgl:g<w2.heap.size:=(Array.getElem?_eq_some_iff.1 hg2).1
  clear hown hA hF e1 e2 e3 e4 hv0 hset hg2 hg6 hasc own own2 h1 h2
  go_wp2_with fail
  go_ret
  exact ⟨_,rfl,HOWN.out,HA.out,hbb.setCell (p:=⟨g,p*2+1,none⟩) hg1 _⟩
 ·obtain ⟨e1,e2,e3,e4⟩:=part_at hasc key p hp h1 h2 0 (by rw [if_neg ht])
  have hF:=chF_at (key,val,false) (rs.take p) ((rs.drop p).take 0) (rs.drop (p+0)) e2 e3 e4
  have hA:=chAt_asc (key,val,false) (rs.take p) ((rs.drop p).take 0) (rs.drop (p+0)) (by rw [<-e1];exact hasc) e2 e4
  rw [<-e1] at hF
  rw [decide_eq_false ht]
  unfold chAt at hF hA
  simp only [Bool.false_eq_true,if_false,Nat.add_zero] at hF hA e1 e4
  have hF':chF (key,val,false) rs=rs.take p++[(key,val)]++rs.drop p:=hF
  have hk0:(0:Int)<=(p:Int):=by omega
  have hva:(w2.alloc (.cells #[.string key,.string val] 111)).heap[w2.heap.size]?=some (.cells #[.string key,.string val] 111 (0,0)):=heap_alloc_new w2 _
  have owna:=own2.alloc (.cells #[.string key,.string val] 111)
  have hba:Below base w (w2.alloc (.cells #[.string key,.string val] 111)):=hbb.alloc (by omega) _
  have HIN:Hid (Calls Tryz.prog 212 #[.slice a rs.length c,.int .i64 (p:Int),.slice (some ⟨w2.heap.size,0,none⟩) 1 1] (w2.alloc (.cells #[.string key,.string val] 111)) fun e w'=>∃ v',e=.returned v'/\w'.ownsRow base 111 2 v' (chF (key,val,false) rs).length (prcells (chF (key,val,false) rs))/\Below base (w2.alloc (.cells #[.string key,.string val] 111)) w'):=by
   show Calls _ _ _ _ _
   rcases Nat.eq_or_lt_of_le hp with hpe | hpl
   ·subst hpe
    rw [List.take_length,List.drop_length,List.append_nil] at hF'
    rw [hF']
    exact insert_end base a c rs w2.heap.size key val _ owna hva hl (by simp;omega)
   ·obtain ⟨g,cap,cur,ev,hg1,hg2,hg3,hg4,hg5,hg6⟩:=own_full owna (by omega)
    cases ev
    have hone:∀ u∈cur.take (rs.length*2),u.oneCell'=true:=by rw [hg6];exact pr_one rs
    have hgl:g<w2.heap.size:=by have:=(own2.lt g rfl).2;exact this
    have hcut:cur.take (rs.length*2)=prcells (rs.take p++rs.drop p):=by rw [List.take_append_drop];exact hg6
    have hpl':(rs.take p).length=p:=by rw [List.length_take];omega
    have hnl:rs.length=p+(rs.drop p).length:=by rw [List.length_drop];omega
    rcases Nat.eq_or_lt_of_le hg3 with hce | hcl
    ·refine (insert_gr g rs.length p w2.heap.size key val cur _ hg2 hva (by rw [hg5,hce]) (by omega) hpl hone).mono ?_ |> (fun x=>by rw [<-hce];exact x)
     rintro e w' ⟨G,row,rfl,h1,h2,h3,h4,h5,h6,h7⟩
     refine ⟨_,rfl,?_,h5.mono (by simp;omega)⟩
     rw [hF']
     refine own_mk (cur:=row) (by simp;omega) h7 h1 h2 h3 ?_ (by simp only [List.length_append,List.length_take,List.length_drop,List.length_cons,List.length_nil];omega)
     rw [h4,prcells_append,prcells_append]
     obtain ⟨c1,c2⟩:=cut_row hcut hpl' hnl (by omega)
     rw [c1]
     rw [List.take_of_length_le (by rw [List.length_drop];omega)] at c2
     rw [c2]
     rfl
    ·refine (insert_in g rs.length c p w2.heap.size key val cur _ hg2 hva (by omega) hg5 hcl (by omega) hpl hone).mono ?_
     rintro e w' ⟨rfl,h1,h2⟩
     obtain ⟨t1,t2⟩:=ins_take (s0:=key) (s1:=val) hcut hpl' hnl (by omega)
     refine ⟨_,rfl,?_,below_of_grown h1 (by simp;omega) (fun k hk=>by cases hk;exact hg1)⟩
     rw [hF']
     exact own_mk hg1 h2 (by omega) hg4 (by rw [t2];exact hg5) t1 (by simp only [List.length_append,List.length_take,List.length_drop,List.length_cons,List.length_nil];omega)
  have HA:Hid (ascP (chF (key,val,false) rs)):=by show ascP _;rw [hF'];exact hA
  have HBA:=hid hba
  clear hA hF hF' e1 e2 e3 e4 hasc own own2 owna h1 h2 hva hba hbb
  go_wp2_with (go_at_call 212;refine HIN.out.mono ?_;rintro e w5 ⟨v5,rfl,ho5,hb5⟩)
  go_ret
  exact ⟨_,rfl,ho5,HA.out,HBA.out.trans hb5⟩
end Go.Proofs.YtcoegjnjjdndjaaGreatDoor
namespace Go.Proofs.YtcoegjnjjdndjaaGreatDoor
open Go.RowKit Go.Lib
set_option maxHeartbeats 16000000 in
theorem remap_i (base:Nat) (v:Value) (rs:List Pr) (key val:ByteArray) (w:World) (own:w.ownsRow base 111 2 v rs.length (prcells rs)) (hasc:ascP rs) (hl:rs.length<=1000) (hb:base<=w.heap.size) :
  Calls Tryz.prog 201 #[.agg #[.string key],v] w fun e w'=>∃ v',e=.returned v'/\w'.ownsRow base 111 2 v' (chF (key,val,true) rs).length (prcells (chF (key,val,true) rs))/\ascP (chF (key,val,true) rs)/\Below base w w':=by
 obtain ⟨a,c,rfl,hprs⟩:=own_prs own
 have hb0:∀ o,Below w.heap.size w (w.alloc o):=fun o=>(Below.refl _ _).alloc (Nat.le_refl _) _
 have HF:=hid (find_i a rs c key _ (hprs.below (hb0 (.cells #[.string key] 234))) (by omega) (asc_mono hasc key))
 go_enter Tryz.func201,Tryz.ntmps201
 go_wp2_with fail
 refine HF.out.mono ?_
 rintro e w2 ⟨p,hp,h1,h2,rfl,hb2⟩
 have lr:w.heap.size<w2.heap.size:=Nat.lt_of_lt_of_le (by simp) hb2.size
 have own2:=owns_below own ((hb0 _).trans (hb2.mono (hb0 _).size))
 have hbb:Below base w w2:=((hb0 _).trans (hb2.mono (hb0 _).size)).mono hb
 clear HF hb2
 by_cases ht:p<rs.length/\cmpB (kAt rs p) key=0
 ·obtain ⟨e1,e2,e3,e4⟩:=part_at hasc key p hp h1 h2 1 (by rw [if_pos ht])
  have e3':∃ v0,(rs.drop p).take 1=[(key,v0)]:=e3.resolve_left (by intro h0;have:=congrArg List.length h0;rw [List.length_take,List.length_drop,List.length_nil] at this;omega)
  obtain ⟨v0,hv0⟩:=e3'
  have hF:=chF_at (key,val,true) (rs.take p) ((rs.drop p).take 1) (rs.drop (p+1)) e2 e3 e4
  have hA:=chAt_asc (key,val,true) (rs.take p) ((rs.drop p).take 1) (rs.drop (p+1)) (by rw [<-e1];exact hasc) e2 e4
  rw [<-e1] at hF
  unfold chAt at hF hA
  simp only [if_true,List.append_nil] at hF hA
  obtain ⟨g,cap,cur,ev,hg1,hg2,hg3,hg4,hg5,hg6⟩:=own_full own2 (by omega)
  cases ev
  have hone:∀ u∈cur.take (rs.length*2),u.oneCell'=true:=by rw [hg6];exact pr_one rs
  have hw:IntKind.i64.wrap ((p:Int)+1)=(p:Int)+1:=by simp [IntKind.wrap,IntKind.bits,IntKind.signed];omega
  rw [decide_eq_true ht]
  have HDL:=hid (delete_i g rs.length c p cur w2 hg2 hg5 hg3 (by omega) ht.1 hone)
  obtain ⟨t1,t2⟩:=del_take (x:=(key,v0)) (a:=rs.take p) (r:=rs.drop (p+1)) (n:=rs.length) (p:=p) (by rw [hg6];congr 1;rw [<-hv0];exact e1) (by rw [List.length_take];omega) (by rw [List.length_drop];omega) (by omega)
  have HT:=hid (And.intro t1 t2)
  have HF:=hid hF
  have HA:=hid hA
  have hp1:=ht.1
  clear hF hA e1 e2 e3 e4 hv0 hg2 hg6 hasc own own2 h1 h2 t1 t2 hone
  go_wp2_with (go_at_call 203;refine HDL.out.mono ?_;rintro e w5 ⟨rfl,hg5',hr5⟩)
  go_ret
  refine ⟨_,rfl,?_,by rw [HF.out];exact HA.out,hbb.trans (below_of_grown hg5' (by omega) (fun k hk=>by cases hk;exact hg1))⟩
  rw [HF.out]
  exact own_mk hg1 hr5 (by omega) hg4 (by rw [HT.out.2];exact hg5) HT.out.1 (by rw [List.length_append,List.length_take,List.length_drop];omega)
 ·obtain ⟨e1,e2,e3,e4⟩:=part_at hasc key p hp h1 h2 0 (by rw [if_neg ht])
  have hF:=chF_at (key,val,true) (rs.take p) ((rs.drop p).take 0) (rs.drop (p+0)) e2 e3 e4
  rw [<-e1] at hF
  unfold chAt at hF
  simp only [if_true,List.append_nil,Nat.add_zero,List.take_append_drop] at hF
  rw [decide_eq_false ht]
  have HF:=hid hF
  have HO:=hid own2
  have HA:=hid hasc
  clear hF e1 e2 e3 e4 hasc own own2 h1 h2
  go_wp2_with fail
  go_ret
  exact ⟨_,rfl,by rw [HF.out];exact HO.out,by rw [HF.out];exact HA.out,hbb⟩
theorem meth_setA (j:Nat) (v v':Value) (w:World):Sem.run Tryz.prog (method (j+1) 236 (.agg #[v,v']) "loop.example/kilnstone/impl.apply") w=.ok (210,.agg #[v,v']) w:=by kernel_rfl
theorem meth_remA (j:Nat) (v:Value) (w:World):Sem.run Tryz.prog (method (j+1) 234 (.agg #[v]) "loop.example/kilnstone/impl.apply") w=.ok (201,.agg #[v]) w:=by kernel_rfl
theorem fit_ok (a:Option Addr) (n c:Nat) (h:n<=100) (w:World):Calls Tryz.prog 158 #[.slice a n c] w fun e w'=>(∃ x,e=.returned x)/\w'=w:=by
 have h1:((n:Int)<=100):=by omega
 go_enter Tryz.func158,Tryz.ntmps158
 go_wp2_with fail
 go_end0
 exact ⟨⟨_,rfl⟩,rfl⟩
theorem fit_no (a:Option Addr) (n c:Nat) (h:100<n) (w:World):Calls Tryz.prog 158 #[.slice a n c] w fun e w'=>e=.panicked [{ v:=.iface 215 (.int .i64 2),recovered:=false }]/\w'=w:=by
 have h1:((100:Int)<n):=by omega
 go_enter Tryz.func158,Tryz.ntmps158
 go_wp2_with fail
 simp [bodyPost]
theorem catch_idle (p q:Addr) (w:World) :
  CallsD Tryz.prog 156 #[.pointer (some p),.pointer (some q)] .returning w fun e u' w'=>e=.returned (.tuple #[])/\u'=.returning/\w'=w:=by
 refine callsD_of_wpS Tryz.func156 rfl fun c₀ cs hu=>?_
 apply wpS_seq
 apply wpS_region
 simp [wpOpsS,go_sem,recoverD,hu,Tryz.ntmps156,Exit.thenS]
 refine wpS_of_wp ?_
 simp only [Array.replicate,List.replicate,List.setIfInBounds_toArray,List.set_cons_zero,List.set_cons_succ,List.append_toArray,List.cons_append,List.nil_append]
 go_wp2
 cases c₀
 simp_all [bodyPostS,results,Tryz.results156]
theorem catch_panic (p q:Addr) (old:List PanicEntry) (w:World) (x:Value) (y:Int) (hp:w.cell? p=some x) (hq:w.cell? q=some (.int .i64 y)) (fp:w.frozen? p=false) (fq:w.frozen? q=false) (hne:p≠q) :
  CallsD Tryz.prog 156 #[.pointer (some p),.pointer (some q)] (.panicking ({ v:=.iface 215 (.int .i64 2),recovered:=false }::old)) w fun e u' w' =>
   e=.returned (.tuple #[])/\u'=.panicking ({ v:=.iface 215 (.int .i64 2),recovered:=true }::old)/\w'=(w.setCell p (.slice none 0 0)).setCell q (.int .i64 2):=by
 have hta:∀ w,(Instr.typeAssert (.iface 215 (.int .i64 2)) 20 215 true).run Tryz.prog w=.ok (.tuple #[.int .i64 2,.bool true]) w:=fun w=>by kernel_rfl
 refine callsD_of_wpS Tryz.func156 rfl fun c₀ cs hu=>?_
 apply wpS_seq
 apply wpS_region
 simp [wpOpsS,go_sem,recoverD,hu,Tryz.ntmps156,Exit.thenS]
 refine wpS_of_wp ?_
 simp only [Array.replicate,List.replicate,List.setIfInBounds_toArray,List.set_cons_zero,List.set_cons_succ,List.append_toArray,List.cons_append,List.nil_append]
 go_wp2
 cases c₀
 simp_all [bodyPostS,results,Tryz.results156]
end Go.Proofs.YtcoegjnjjdndjaaGreatDoor
