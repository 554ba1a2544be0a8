import Derived.Deep.AppendLies
set_option maxHeartbeats 16000000
namespace Go.Proofs.YtcdojnnkjeakmaaGreatDoor
open Go
set_option linter.unusedVariables false
theorem WAL {P:Program} (w:World) {aF:Array Oper} {aB:List Oper} {o:Oper} {a:Act} {Q:Exit->Act->World->Prop} (aG:o.guard=none) (s x:Operand) (t:TypeId)
  (ho:o.op=.call { callee:=.builtin .append,args:=#[s,x],argTypes:=#[t,t] })
  (base:Nat) {e:TypeId} {i:TypeInfo} {z:Value} {size aA:Nat} (ht:P.underlying t=some (.slice e)) (HH:P.info? e=some i/\i.zero=some z/\i.size=size/\i.bytes=aA) (aI:z.cells.size=size) (aH:0<size)
  (v:Value) (n:Nat) (xs:List Value) (hs:a.eval s=v) (aE:w.ownsRow base e size v n xs)
  (ad:Addr) (m c:Nat) (news:List Value) (hx:a.eval x=.slice (some ad) m c) (hl:news.length=m*size) (aC:∀ j u,news[j]?=some u->w.cell? (ad.add j)=some u) (h1:∀ u∈news,u.oneCell'=true)
  (aD:base<=w.heap.size) (H:Nat) (hH:w.heap.size=H)
  (h:∀ g cap w',w'.ownsRow base e size (.slice (some ⟨g,0,none⟩) (n+m) cap) (n+m) (xs++news)->w.grownBy w' v.ownBlock->(v.ownBlock=some g\/g=H)->g<w'.heap.size->wpList P aF Q aB (a.put o.dst (.slice (some ⟨g,0,none⟩) (n+m) cap)) w') (hm:0<m:=by omega) (h63:n+m<=maxLen:=by unfold maxLen;omega) (hbytes:(n+m)*aA<=140737488355328:=by omega):wpList P aF Q (o::aB) a w :=
 wpList_append_lies w aG s x t ho base e i z size aA ht HH.1 HH.2.1 HH.2.2.1 HH.2.2.2 aI aH v n xs hs aE ad m c news hx hl aC h1 hm h63 hbytes aD H hH h
theorem SAL {P:Program} (w:World) {aF:Array Oper} {o:Oper} {a:Act} {K:Act->World->Prop} {Q:Exit->Act->World->Prop} {E:Prop} (aE:o.guard=none) (s x:Operand) (t:TypeId)
  (ho:o.op=.call { callee:=.builtin .append,args:=#[s,x],argTypes:=#[t,t] })
  (base:Nat) {e:TypeId} {i:TypeInfo} {z:Value} {size aA:Nat} (ht:P.underlying t=some (.slice e)) (HH:P.info? e=some i/\i.zero=some z/\i.size=size/\i.bytes=aA) (aH:z.cells.size=size) (aG:0<size)
  (v:Value) (n:Nat) (xs:List Value) (hs:a.eval s=v) (aD:w.ownsRow base e size v n xs)
  (ad:Addr) (m c:Nat) (news:List Value) (hx:a.eval x=.slice (some ad) m c) (hl:news.length=m*size) (aB:∀ j u,news[j]?=some u->w.cell? (ad.add j)=some u) (h1:∀ u∈news,u.oneCell'=true)
  (aC:base<=w.heap.size) (H:Nat) (hH:w.heap.size=H)
  (h:∀ g cap w',w'.ownsRow base e size (.slice (some ⟨g,0,none⟩) (n+m) cap) (n+m) (xs++news)->w.grownBy w' v.ownBlock->(v.ownBlock=some g\/g=H)->g<w'.heap.size->K (a.put o.dst (.slice (some ⟨g,0,none⟩) (n+m) cap)) w') (hm:0<m:=by omega) (h63:n+m<=maxLen:=by unfold maxLen;omega) (hbytes:(n+m)*aA<=140737488355328:=by omega) :
  if Region.wanted o (yielded aF a.tmps)=true then Oper.wp P o a w K Q else E :=
 step_append_lies w aE s x t ho base e i z size aA ht HH.1 HH.2.1 HH.2.2.1 HH.2.2.2 aH aG v n xs hs aD ad m c news hx hl aB h1 hm h63 hbytes aC H hH h
end Go.Proofs.YtcdojnnkjeakmaaGreatDoor
