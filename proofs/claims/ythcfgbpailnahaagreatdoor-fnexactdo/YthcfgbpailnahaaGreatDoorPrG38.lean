import Derived.Shelf.Spec.SlicesInsert
import Derived.Lib.AppendZerosOnto
import Derived.Lib.Overlaps
import Derived.Laws.Externs
import Derived.Laws.CopyRow
import Derived.Laws.CopyOwn
import Derived.Test.YthcfgbpailnahaaGreatDoorPrG37
import Derived.Recover
import Derived.Defers
set_option maxHeartbeats 16000000
set_option maxRecDepth 8000
set_option linter.all false
namespace Go.Proofs.YthcfgbpailnahaaGreatDoor
open _root_.ByteArray(empty)
section
open Tryz
open Go.RowKit Go.Lib
variable {P:Program}{w:World}
def dr(w:World)(dT sT ty aA:TypeId)(k g o aB aD:Nat)(a:Addr)(aC aG:Nat)(cur:Array Value)(t:TypeId)(cs:List Value)(n:Nat)
  (hu:P.underlying dT=some (.slice aA))(hs:(P.info? aA).map (·.size)=some k)
  (hg:w.heap[g]?=some (.cells cur t (0,0)))(hn:Nat.min aC aB=n)(hc:cs.length=n*k)
  (aF:∀j v,cs[j]?=some v->w.cell? (a.add j)=some v)(aE:o+cs.length<=cur.size)(h1:∀v∈cs,v.oneCell'=true):(Builtin.copy_ #[dT,sT] ty #[.slice (some ⟨g,o,none⟩) aB aD,.slice (some a) aC aG]).run P w =
   .ok (goInt n) (w.setRow g (cur.toList.take o++cs++cur.toList.drop (o+cs.length)).toArray):=by
 have hl:=run_loadCells_list (P:=P) w a cs aF;have aH:=KQ P g o t cs 0 cur w hg (by simpa using aE) h1
 cases hq:P.info? aA with
 | none=>simp[hq]at hs
 | some i =>
  have hi:i.size=k:=by simpa[hq] using hs
  simp only[GX]at aH;rw[hc]at hl;simp[Builtin.copy_,FO hu,Builtin.lenOf,Builtin.firstCells,sizeOf,typeInfo,hq,hi,hn,hl,aH]
def yY(w:World)(t ty e:TypeId)(k g aA aB:Nat)(a:Addr)(n c:Nat)(cur:Array Value)(tt:TypeId)(cs:List Value)
  (ht:P.underlying t=some (.slice e))(hs:(P.info? e).map (·.size)=some k)
  (hg:w.heap[g]?=some (.cells cur tt (0,0)))(aC:aA+n<=aB)(hc:cs.length=n*k)
  (aF:∀j v,cs[j]?=some v->w.cell? (a.add j)=some v)(aE:aA*k+cs.length<=cur.size)(h1:∀v∈cs,v.oneCell'=true):(Builtin.append_ #[t,t] ty #[.slice (some ⟨g,0,none⟩) aA aB,.slice (some a) n c]).run P w =
   .ok (.slice (some ⟨g,0,none⟩) (aA+n) aB) (w.setRow g (cur.toList.take (aA*k)++cs++cur.toList.drop (aA*k+cs.length)).toArray):=by
 have hl:=run_loadCells_list (P:=P) w a cs aF;have aG:=KQ P g (aA*k) tt cs 0 cur w hg (by simpa using aE) h1;have aD:(⟨g,0,none⟩:Addr).add (aA*k)=⟨g,aA*k,none⟩:=by rw[GK];simp
 cases hq:P.info? e with
 | none=>simp[hq]at hs
 | some i =>
  have hi:i.size=k:=by simpa[hq] using hs
  simp only[GX]at aG;rw[hc]at hl;simp[Builtin.append_,FO ht,Builtin.lenOf,Builtin.firstCells,sizeOf,typeInfo,hq,hi,hl,aG,aC,aD]
def yK(w:World)(t ty e:TypeId)(z:Value)(ht:P.underlying t=some (.slice e))(hv:∀w,(zeroValue e).run P w=.ok z w)(g o n c:Nat)(hn:0<n)(cur:Array Value)(tt:TypeId)(cs:List Value)
  (hg:w.heap[g]?=some (.cells cur tt (0,0)))(aC:(Builtin.zeroCells z.cells n).toList=cs)(aA:o+cs.length<=cur.size)(h1:∀v∈cs,v.oneCell'=true):(Builtin.clear_ #[t] ty #[.slice (some ⟨g,o,none⟩) n c]).run P w=.ok (.tuple #[]) (w.setRow g (cur.toList.take o++cs++cur.toList.drop (o+cs.length)).toArray):=by
 have aB:=KQ P g o tt cs 0 cur w hg (by simpa using aA) h1;simp only[GX]at aB;obtain⟨m,rfl⟩:∃m,n=m+1:=⟨n-1,by omega⟩;simp[Builtin.clear_,FO ht,hv,aC,aB]
def fc(w:World)(g:Nat)(cs:Array Value):w.grownBy (w.setRow g cs) (some g):=⟨rfl,rfl,rfl,by simp[World.setRow],λk _ hk=>LD w g k cs (λe=>hk (by rw[e]))⟩
def oH{w1 w2:World}{r:Option Nat}(h:w.grownBy w1 r)(k:w1.grownBy w2 r):w.grownBy w2 r :=⟨k.os.j h.os,k.tape.j h.tape,k.output.j h.output,AL h.size k.size,λj hj aA=>(k.block j (AD hj h.size) aA).j (h.block j hj aA)⟩
def WH{g:Nat}{cur:List Value}{t:TypeId}{fr:Nat×Nat}(h:w.heap[g]?=some (.cells cur.toArray t fr)){j:Nat}{v:Value}(hv:cur[j]?=some v):w.cell? ⟨g,j,none⟩=some v:=by
 simp[World.cell?,h,hv]
def vo{aA:Array Oper}{o:Oper}{a:Act}{K:Act->World->Prop}{Q:Exit->Act->World->Prop}{E:Prop}
  (hg:o.guard=none)(d x:Operand)(dT sT:TypeId)(aB:o.op=Op.call { callee:=Callee.builtin Builtin.append,args:=#[d,x],argTypes:=#[dT,sT] })
  (v u:Value)(hd:a.eval d=v)(hx:a.eval x=u){v':Value}{w':World}(hr:(Builtin.append_ #[dT,sT] o.type #[v,u]).run P w=.ok v' w')(hK:K (a.put o.dst v') w'):if Region.wanted o (yielded aA a.tmps)=true then Oper.wp P o a w K Q else E:=by
 have hw:Region.wanted o (yielded aA a.tmps)=true:=by simp[Region.wanted,hg]
 rw[AK hw];unfold Oper.wp;simp[execOp,aB,resolve,invoke,builtin,hd,hx,hr,Result.andThen];exact hK
end
section
open Tryz
open Go.RowKit Go.Lib
def az:(prog.info? 162).map (·.size)=some 2:=by kernel_rfl
def sF(w:World):(zeroValue 162).run prog w=.ok (.agg #[.string empty,.string empty]) w:=by kernel_rfl
def YD(cur:List Value)(n p:Nat):List Value:=cur.take (p*2)++(cur.drop (p*2+2)).take ((n-p-1)*2)++[.string empty,.string empty]++cur.drop (n*2)
def Az(cur:List Value)(n p:Nat)(hl:n*2<=cur.length)(hp:p<n)(cs c1:List Value)(aB:cs=(cur.drop (p*2+2)).take ((n-p-1)*2))(aA:c1=cur.take (p*2)++cs++cur.drop (p*2+cs.length)):cs.length=(n-p-1)*2/\c1.length=cur.length/\c1.take ((n-1)*2)++[.string empty,.string empty]++c1.drop ((n-1)*2+2)=YD cur n p:=by
 have e1:cs.length=(n-p-1)*2:=by rw[aB,BC,BU];omega
 have e2:(cur.take (p*2)++cs).length=(n-1)*2:=by rw[AF,BC,e1];omega
 refine⟨e1,by rw[aA,AF,e2,BU,e1];omega,?_⟩;unfold YD;rw[<-aB,aA,GJ e2,List.drop_append,CX (by rw[e2];omega),e2,DU,GR,e1]
 congr 2
 omega
def uZ(g n cap p:Nat)(cur:List Value)(w:World)(hg:w.heap[g]?=some (.cells cur.toArray 162 (0,0)))(hl:cur.length=cap*2)(hn:n<=cap)(hc:n<=100000)(hp:p<n)(h1:∀v∈cur.take (n*2),v.oneCell'=true):Calls prog 274 #[.slice (some ⟨g,0,none⟩) n cap,.int .i64 (p:Int),.int .i64 ((p:Int)+1)] w λe w'=>e=.returned (.slice (some ⟨g,0,none⟩) (n-1) cap)/\w.grownBy w' (some g) /\
   w'.heap[g]?=some (.cells (YD cur n p).toArray 162 (0,0)):=by
 have aU:¬((p:Int)=(p:Int)+1):=by omega
 have aN:(p:Int)<=(p:Int)+1:=by omega
 have aO:(p:Int)+1<=(n:Int):=by omega
 have aM:(0:Int)<=(p:Int):=by omega
 have aP:(0:Int)<=(p:Int)+1:=by omega
 have aQ:(n:Int)<=(cap:Int):=by omega
 have aR:(p:Int)<=(cap:Int):=by omega
 have aT:((p:Int)+1).toNat=p+1:=by omega
 have aL:p+(n-(p+1))=n-1:=by omega
 obtain⟨cs,aF⟩:∃cs,cs=(cur.drop (p*2+2)).take ((n-p-1)*2):=⟨_,rfl⟩;obtain⟨c1,aG⟩:∃c1,c1=cur.take (p*2)++cs++cur.drop (p*2+cs.length):=⟨_,rfl⟩;obtain⟨e1,e2,e3⟩:=Az cur n p (by omega) hp cs c1 aF aG
 have aD:∀v∈cs,v.oneCell'=true:=λv hv=>h1 v (by rw[aF,show(n-p-1)*2=n*2-(p*2+2) by omega,<-FC]at hv;exact EW hv)
 have aA:∀(D:Addr),(D=⟨g,(p+1)*2,none⟩\/cs=[])->∀j v,cs[j]?=some v->w.drew.cell? (D.add j)=some v:=λD hD j v hj=>by
  rcases hD with rfl|h0
  ·rw[GK]
   refine WH (w:=w.drew) (cur:=cur) hg ?_;rw[aF,FH]at hj
   split at hj
   ·rw[EV]at hj
    rw[<-hj];congr 1;omega
   cases hj
  rw[h0]at hj;cases hj
 have aH:Hid (∀D c ty,(D=⟨g,(p+1)*2,none⟩\/cs=[])->(Builtin.append_ #[46,46] ty #[.slice (some ⟨g,0,none⟩) p cap,.slice (some D) (n-(p+1)) c]).run prog w.drew=.ok (.slice (some ⟨g,0,none⟩) (n-1) cap) (w.drew.setRow g c1.toArray)):=λD c ty hD=>by
  have:=yY (P:=prog) w.drew 46 ty 162 2 g p cap D (n-(p+1)) c cur.toArray 162 cs underlying46 az hg (by omega) (by rw[e1];omega) (aA D hD) (by rw[e1];simp;omega) aD;rw[aL]at this;rw[this,aG]
 have aJ:Hid (∀c ty,(Builtin.clear_ #[46] ty #[.slice (some ⟨g,(n-1)*2,none⟩) (n-(n-1)) c]).run prog (w.drew.setRow g c1.toArray)=.ok (.tuple #[]) ((w.drew.setRow g c1.toArray).setRow g (YD cur n p).toArray)):=λc ty=>by
  rw[show n-(n-1)=1 by omega];have:=yK (P:=prog) (w.drew.setRow g c1.toArray) 46 ty 162 _ underlying46 sF g ((n-1)*2) 1 c (by omega) c1.toArray 162 [.string empty,.string empty] (IS w.drew g cur.toArray c1.toArray 162 (0,0) hg) (by kernel_rfl) (by simp;omega) (VK _ _);rw[this,<-e3];simp
 have aE:cap=p+1->cs=[]:=λh=>AC (by rw[e1];omega)
 have aK:=LE aE;have HG:=LE hg;clear aE aA aF aG e1 e2 e3 aD h1 hg;go_enter func274,ntmps274
 by_cases aI:cap=p+1
 focus
  have hD:(⟨g,0,none⟩:Addr)=⟨g,(p+1)*2,none⟩\/cs=[]:=.inr (aK.o aI)
 rotate_left
 rotate_left
 all_goals
  go_wp2_with fail;refine AP (S:=λw'=>True) (by kernel_rfl) (trivial) (λaB=>?_);refine TY 0 (.slice (some ⟨g,0,none⟩) n cap) rfl aB (TY 1 (.int .i64 (p:Int)) rfl aB (TY 2 (.slice (some ⟨g,0,none⟩) p cap) rfl aB (TY 3 (.slice (some ⟨g,0,none⟩) n cap) rfl aB (TY 4 (.int .i64 ((p:Int)+1)) rfl aB ?_))));simp only[PS]
 focus
  refine TY 5 (.slice (some ⟨g,0,none⟩) (n-(p+1)) (cap-(p+1))) rfl aB ?_;simp only[PS];refine RD 6 rfl (λK hK=>?_);refine vo rfl _ _ 46 46 rfl (.slice (some ⟨g,0,none⟩) p cap) (.slice (some ⟨g,0,none⟩) (n-(p+1)) (cap-(p+1))) (by simp[Act.eval,Act.put]) (by simp[Act.eval,Act.put]) (aH.o _ _ _ hD) ?_;refine hK.o _ _ (trivial) (λaC=>?_);clear hK K
  try simp only[PS]
  refine EZ (rs:=[7]) (by kernel_rfl) (by simp) ?_
 rotate_left
 focus
  refine TY 5 (.slice (some ⟨g,(p+1)*2,none⟩) (n-(p+1)) (cap-(p+1))) rfl aB ?_;simp only[PS];refine RD 6 rfl (λK hK=>?_);refine vo rfl _ _ 46 46 rfl (.slice (some ⟨g,0,none⟩) p cap) (.slice (some ⟨g,(p+1)*2,none⟩) (n-(p+1)) (cap-(p+1))) (by simp[Act.eval,Act.put]) (by simp[Act.eval,Act.put]) (aH.o _ _ _ (.inl rfl)) ?_;refine hK.o _ _ (trivial) (λaC=>?_);clear hK K
  try simp only[PS]
  refine EZ (rs:=[7]) (by kernel_rfl) (by simp) ?_
 rotate_left
 all_goals
  refine CY rfl (λK hK=>?_) EX;go_simp;refine hK.o _ _ aC (λ_=>?_);clear hK K
  try simp only[PS]
  refine DN ?_;have aS:=aJ.o;go_wp2_with fail;go_ret
  exact⟨by first|rfl|(rw[aI];rfl),oH (zo (fc w.drew g _)) (fc _ g _),IS _ g _ _ 162 (0,0) (IS w.drew g cur.toArray c1.toArray 162 (0,0) HG.o)⟩
end
section
open Tryz
open Go.RowKit Go.Lib
def XO(cur:List Value)(n p:Nat)(s0 s1:ByteArray):List Value:=cur.take (p*2)++[.string s0,.string s1]++(cur.drop (p*2)).take ((n-p)*2)++cur.drop (n*2+2)
def wZ(cur:List Value)(n p:Nat)(s0 s1:ByteArray)(hl:n*2+2<=cur.length)(hp:p<n)(cs c1:List Value)(aB:cs=(cur.drop (p*2)).take ((n-p)*2))(aA:c1=cur.take ((p+1)*2)++cs++cur.drop ((p+1)*2+cs.length)):cs.length=(n-p)*2/\c1.length=cur.length/\c1.take (p*2)++[.string s0,.string s1]++c1.drop (p*2+2)=XO cur n p s0 s1:=by
 have e1:cs.length=(n-p)*2:=by rw[aB,BC,BU];omega
 have e0:(cur.take ((p+1)*2)).length=(p+1)*2:=by rw[BC];omega
 refine⟨e1,by rw[aA,AF,AF,e0,BU,e1];omega,?_⟩;unfold XO;rw[<-aB,aA,BG (cur.take ((p+1)*2)),JT (by rw[e0];omega),GT,show min (p*2) ((p+1)*2)=p*2 by omega];rw[show p*2+2=(p+1)*2 by omega,JV e0,e1];rw[show(p+1)*2+(n-p)*2=n*2+2 by omega];simp
def Fr(g n cap p gv:Nat)(s0 s1:ByteArray)(cur:List Value)(w:World)(hg:w.heap[g]?=some (.cells cur.toArray 162 (0,0)))(hv:w.heap[gv]?=some (.cells #[.string s0,.string s1] 162 (0,0)))(aG:gv≠g)(hl:cur.length=cap*2)(hn:n<cap)(hc:n<=100000)(hp:p<n)(h1:∀v∈cur.take (n*2),v.oneCell'=true):Calls prog 283 #[.slice (some ⟨g,0,none⟩) n cap,.int .i64 (p:Int),.slice (some ⟨gv,0,none⟩) 1 1] w λe w'=>e=.returned (.slice (some ⟨g,0,none⟩) (n+1) cap)/\w.grownBy w' (some g) /\
   w'.heap[g]?=some (.cells (XO cur n p s0 s1).toArray 162 (0,0)):=by
 have bC:¬((p:Int)=(n:Int)):=by omega
 have aO:(0:Int)<=(p:Int):=by omega
 have aP:(p:Int)<=(n:Int):=by omega
 have aQ:(p:Int)<=(n:Int)+1:=by omega
 have aR:(p:Int)+1<=(n:Int)+1:=by omega
 have aS:(0:Int)<=(p:Int)+1:=by omega
 have aT:¬((cap:Int)<(n:Int)+1):=by omega
 have aU:(n:Int)+1<=(cap:Int):=by omega
 have aV:(0:Int)<=(n:Int)+1:=by omega
 have aW:¬(cap=p):=by omega
 have aX:¬(cap=p+1):=by omega
 have aY:((p:Int)+1).toNat=p+1:=by omega
 have aZ:IntKind.i64.wrap ((p:Int)+1)=(p:Int)+1:=by simp[IntKind.wrap,IntKind.bits,IntKind.signed];omega
 have aM:((n:Int)+1).toNat=n+1:=by omega
 have aL:∀lb cb,(callFunc 284 #[.slice (some ⟨gv,0,none⟩) 1 1,.slice (some ⟨g,(p+1)*2,none⟩) lb cb]).run prog w=.ok (.value (.bool false)) w:=λlb cb=>by
  rw[EC func284 (by kernel_rfl) (by kernel_rfl) (by kernel_rfl) (e:=Extern.SlicesOverlaps.overlaps #[46,46] #[4]) (by kernel_rfl),
   Lib.run_overlaps_apart w 46 4 162 underlying46 2 sizeOf162 ⟨gv,0,none⟩ ⟨g,(p+1)*2,none⟩ 1 1 lb cb aG 162 162 2 (cap*2) (by simp[World.shape?,hv]) (by simp[World.shape?,hg,hl]) (by omega) (by simp[World.frozen?,hv]) (by simp[World.frozen?,hv])]
  rfl
 obtain⟨cs,aD⟩:∃cs,cs=(cur.drop (p*2)).take ((n-p)*2):=⟨_,rfl⟩;obtain⟨c1,aF⟩:∃c1,c1=cur.take ((p+1)*2)++cs++cur.drop ((p+1)*2+cs.length):=⟨_,rfl⟩;obtain⟨e1,e2,e3⟩:=wZ cur n p s0 s1 (by omega) hp cs c1 aD aF
 have aC:∀v∈cs,v.oneCell'=true:=λv hv=>h1 v (by rw[aD,show(n-p)*2=n*2-p*2 by omega,<-FC]at hv;exact EW hv)
 have aB:∀j v,cs[j]?=some v->w.drew.cell? ((⟨g,p*2,none⟩:Addr).add j)=some v:=λj v hj=>by
  rw[GK];refine WH (w:=w.drew) (cur:=cur) hg ?_;rw[aD,FH]at hj
  split at hj
  ·rw[EV]at hj;exact hj
  cases hj
 have aI:Hid (∀ty,(Builtin.copy_ #[46,46] ty #[.slice (some ⟨g,(p+1)*2,none⟩) (n+1-(p+1)) (cap-(p+1)),.slice (some ⟨g,p*2,none⟩) (n+1-p) (cap-p)]).run prog w.drew=.ok (goInt ((n-p:Nat):Int)) (w.drew.setRow g c1.toArray)):=λty=>by
  have:=dr (P:=prog) w.drew 46 46 ty 162 2 g ((p+1)*2) (n+1-(p+1)) (cap-(p+1)) ⟨g,p*2,none⟩ (n+1-p) (cap-p) cur.toArray 162 cs (n-p) underlying46 az hg (by simp only[KM];split<;>omega) e1 aB (by rw[e1];simp;omega) aC;rw[this,aF]
 have aJ:Hid (∀W:World,W.heap[g]?=some (.cells c1.toArray 162 (0,0))->W.heap[gv]?=some (.cells #[.string s0,.string s1] 162 (0,0))->∀ty,(Builtin.copy_ #[46,46] ty #[.slice (some ⟨g,p*2,none⟩) (n+1-p) (cap-p),.slice (some ⟨gv,0,none⟩) 1 1]).run prog W=.ok (goInt 1) (W.setRow g (XO cur n p s0 s1).toArray)):=λW hW hV ty=>by
  have:=dr (P:=prog) W 46 46 ty 162 2 g (p*2) (n+1-p) (cap-p) ⟨gv,0,none⟩ 1 1 c1.toArray 162 [.string s0,.string s1] 1 underlying46 az hW (by simp only[KM];split<;>omega) rfl (λj v hj=>by rw[GK,BF];exact WH (cur:=[.string s0,.string s1]) hV hj) (by simp;omega) (VK _ _);rw[this,<-e3];simp
 have HG:=LE hg;have HV:=LE hv;clear aB aD aF e1 e2 e3 aC h1 hg hv;go_enter func283,ntmps283;go_wp2_with (simp only[aL]);refine AP (S:=λw'=>True) (by kernel_rfl) (trivial) (λaA=>?_);refine TY 0 (.slice (some ⟨g,0,none⟩) (n+1) cap) rfl aA (TY 1 (.int .i64 (p:Int)) rfl aA (TY 2 (.int .i64 1) rfl aA (TY 3 (.int .i64 ((p:Int)+1)) rfl aA (TY 4 (.slice (some ⟨g,(p+1)*2,none⟩) (n+1-(p+1)) (cap-(p+1))) rfl aA (TY 5 (.slice (some ⟨g,0,none⟩) (n+1) cap) rfl aA (TY 6 (.int .i64 (p:Int)) rfl aA (TY 7 (.slice (some ⟨g,p*2,none⟩) (n+1-p) (cap-p)) rfl aA ?_)))))));simp only[PS];refine RD 8 rfl (λK hK=>?_);refine step_copy_runI rfl _ _ 46 46 rfl (.slice (some ⟨g,(p+1)*2,none⟩) (n+1-(p+1)) (cap-(p+1))) (.slice (some ⟨g,p*2,none⟩) (n+1-p) (cap-p)) (by simp[Act.eval,Act.put]) (by simp[Act.eval,Act.put]) (aI.o _) ?_;refine hK.o _ _ (trivial) (λaE=>?_);clear hK K
 try simp only[PS]
 refine DN ?_;have aH:=IS w.drew g cur.toArray c1.toArray 162 (0,0) HG.o;have aN:(w.drew.setRow g c1.toArray).heap[gv]?=some (.cells #[.string s0,.string s1] 162 (0,0)):=(LD w.drew g gv _ aG).j HV.o;have aK:=aJ.o _ aH aN;clear aA aE;go_wp2_with fail;go_ret;exact⟨rfl,oH (zo (fc w.drew g _)) (fc _ g _),IS _ g _ _ 162 (0,0) aH⟩
def Ic(n:Nat):(Builtin.zeroCells (Value.agg #[.string empty,.string empty]).cells n).size=n*2:=by simp[Builtin.zeroCells,Value.cells]
def Di(g n p gv:Nat)(s0 s1:ByteArray)(cur:List Value)(w:World)(hg:w.heap[g]?=some (.cells cur.toArray 162 (0,0)))(hv:w.heap[gv]?=some (.cells #[.string s0,.string s1] 162 (0,0)))(hl:cur.length=n*2)(hc:n<=100000)(hp:p<n)(h1:∀v∈cur.take (n*2),v.oneCell'=true):Calls prog 283 #[.slice (some ⟨g,0,none⟩) n n,.int .i64 (p:Int),.slice (some ⟨gv,0,none⟩) 1 1] w λe w'=>∃(G:Nat) (row:List Value),e=.returned (.slice (some ⟨w.heap.size,0,none⟩) (n+1) G)/\n+1<=G/\G<=maxLen/\row.length=G*2/\row.take ((n+1)*2)=cur.take (p*2)++[.string s0,.string s1]++cur.drop (p*2)/\Below w.heap.size w w'/\w.heap.size<w'.heap.size /\
   w'.heap[w.heap.size]?=some (.cells row.toArray 162 (0,0)):=by
 obtain⟨i0,aY,bF,bI,aS⟩:=UP ZK;have cA:g<w.heap.size:=(AS.1 hg).1;have cB:gv<w.heap.size:=(AS.1 hv).1;have cQ:¬((p:Int)=(n:Int)):=by omega
 have cE:(0:Int)<=(p:Int):=by omega
 have cF:(p:Int)<=(n:Int):=by omega
 have cH:(p:Int)<=(n:Int)+1:=by omega
 have cI:(p:Int)+1<=(n:Int)+1:=by omega
 have cJ:(0:Int)<=(p:Int)+1:=by omega
 have cL:(n:Int)<(n:Int)+1:=by omega
 have cM:¬(n=p):=by omega
 have cO:((p:Int)+1).toNat=p+1:=by omega
 have cP:IntKind.i64.wrap ((p:Int)+1)=(p:Int)+1:=by simp[IntKind.wrap,IntKind.bits,IntKind.signed];omega
 have aZ:(n:Int)+1-(p:Int)=((n+1-p:Nat):Int):=by omega
 have aR:p+(n+1-p)=n+1:=by omega
 have aL:(Builtin.firstCells i0.size p (.slice (some ⟨g,0,none⟩) p n)).run prog w.drew=.ok (cur.take (p*2)).toArray w.drew:=by
  rw[bI]
  exact FR w.drew 2 p ⟨g,0,none⟩ p n (cur.take (p*2)) (by rw[BC];omega) (λj v hj=>by
   rw[GK,BF];rw[FH]at hj
   split at hj
   ·exact WH (w:=w.drew) (cur:=cur) hg hj
   ·cases hj)
 obtain⟨G,hG⟩:∃G,G=grownCap w (n+1) n 162:=⟨_,rfl⟩;have bV:n+1<=G:=by rw[hG];exact JI w _ _ _
 have aV:G<=maxLen:=by rw[hG];exact GZ w (n+1) n _ (by unfold maxLen;omega)
 obtain⟨aA,aB⟩:∃aA:List Value,aA=cur.take (p*2)++(Builtin.zeroCells (Value.agg #[.string empty,.string empty]).cells (n+1-p)).toList++(Builtin.zeroCells (Value.agg #[.string empty,.string empty]).cells (G-(n+1))).toList:=⟨_,rfl⟩;have aE:aA.toArray=(cur.take (p*2)).toArray++Builtin.zeroCells (Value.agg #[.string empty,.string empty]).cells (n+1-p)++Builtin.zeroCells (Value.agg #[.string empty,.string empty]).cells (G-(n+1)):=by rw[aB];apply JC;simp
 have b7:aA.length=G*2:=by rw[aB];simp only[AF,BC,Array.length_toList,Ic];omega
 have aW:aA.take (p*2)=cur.take (p*2):=by rw[aB,BG];exact GJ (by rw[BC];omega)
 have bC:∀ty,(Builtin.append_ #[46,3] ty #[.slice (some ⟨g,0,none⟩) p n,.int .i64 ((n:Int)+1-(p:Int))]).run prog w=.ok (.slice (some ⟨w.heap.size,0,none⟩) (n+1) G) (w.drew.alloc (.cells aA.toArray 162)):=λty=>by
  have h:=Lib.run_append_grow_zeros (P:=prog) w 46 3 ty 162 i0 _ .i64 .i64 underlying46 underlying3 aY bF (some ⟨g,0,none⟩) p n (cur.take (p*2)) aL (n+1-p) (by omega) (by omega) (by omega) (by omega) (by rw[aS];omega) (by rw[aS,aR];exact growslice_fits (by omega) (by omega));rw[aR,<-hG]at h;rw[aZ,h,aE]
 have bT:G<=9223372036854775807:=aV;have cC:¬(G=p):=by omega
 have bU:¬(G=p+1):=by omega
 clear aZ aR aL aB aE hG;obtain⟨w1,aM⟩:∃w1,w1=w.drew.alloc (.cells aA.toArray 162):=⟨_,rfl⟩;rw[<-aM]at bC;have aC:Below w.heap.size w w1:=by rw[aM];exact(AB _ _).drew.alloc (AA _) _
 have bE:w1.heap.size=w.heap.size+1:=by rw[aM];rw[AU];rfl
 have aP:w1.heap[w.heap.size]?=some (.cells aA.toArray 162 (0,0)):=by rw[aM];exact AY w.drew _
 have aX:w1.heap[gv]?=some (.cells #[.string s0,.string s1] 162 (0,0)):=(aC.block gv cB).j hv;have aT:w1.heap[g]?=some (.cells cur.toArray 162 (0,0)):=(aC.block g cA).j hg;clear aM;obtain⟨c1,aN⟩:∃c1,c1=aA.take (p*2)++[.string s0,.string s1]++aA.drop (p*2+2):=⟨_,rfl⟩;have aF:c1.length=G*2:=by rw[aN];simp only[AF,BC,BU,BY,AR];omega
 have aI:∀ty,(Builtin.copy_ #[46,46] ty #[.slice (some ⟨w.heap.size,p*2,none⟩) (n+1-p) (G-p),.slice (some ⟨gv,0,none⟩) 1 1]).run prog w1=.ok (goInt 1) (w1.setRow w.heap.size c1.toArray):=λty=>by
  have:=dr (P:=prog) w1 46 46 ty 162 2 w.heap.size (p*2) (n+1-p) (G-p) ⟨gv,0,none⟩ 1 1 aA.toArray 162 [.string s0,.string s1] 1 underlying46 az aP (by simp only[KM];split<;>omega) rfl (λj v hj=>by rw[GK,BF];exact WH (cur:=[.string s0,.string s1]) aX hj) (by simp;omega) (VK _ _);rw[this,aN];simp
 obtain⟨w2,aG⟩:∃w2,w2=w1.setRow w.heap.size c1.toArray:=⟨_,rfl⟩;rw[<-aG]at aI;have aQ:w2.heap[w.heap.size]?=some (.cells c1.toArray 162 (0,0)):=by rw[aG];exact IS w1 w.heap.size _ _ 162 (0,0) aP
 have aU:w2.heap[g]?=some (.cells cur.toArray 162 (0,0)):=by rw[aG];exact(LD w1 w.heap.size g _ (by omega)).j aT
 have aH:Below w.heap.size w w2:=by rw[aG];exact below_setRow aC (AA _) _
 have cN:w2.heap.size=w.heap.size+1:=by rw[aG];simpa[World.setRow] using bE
 clear aG;have aJ:(cur.drop (p*2)).length=(n-p)*2:=by rw[BU];omega
 obtain⟨c2,aO⟩:∃c2,c2=c1.take ((p+1)*2)++cur.drop (p*2)++c1.drop ((p+1)*2+(n-p)*2):=⟨_,rfl⟩
 have bP:Hid (∀ty,(Builtin.copy_ #[46,46] ty #[.slice (some ⟨w.heap.size,(p+1)*2,none⟩) (n+1-(p+1)) (G-(p+1)),.slice (some ⟨g,p*2,none⟩) (n-p) (n-p)]).run prog w2.drew=.ok (goInt ((n-p:Nat):Int)) (w2.drew.setRow w.heap.size c2.toArray)):=λty=>by
  have:=dr (P:=prog) w2.drew 46 46 ty 162 2 w.heap.size ((p+1)*2) (n+1-(p+1)) (G-(p+1)) ⟨g,p*2,none⟩ (n-p) (n-p) c1.toArray 162 (cur.drop (p*2)) (n-p) underlying46 az aQ (by simp only[KM];split<;>omega) aJ (λj v hj=>by rw[GK];rw[EV]at hj;exact WH (w:=w2.drew) (cur:=cur) aU hj) (by rw[aJ];simp;omega) (λv hv=>h1 v (by rw[AT (by omega)];exact EW hv));rw[this,aO,aJ]
 have aK:c2.length=G*2/\c2.take ((n+1)*2)=cur.take (p*2)++[.string s0,.string s1]++cur.drop (p*2):=by
  have et:c1.take ((p+1)*2)=cur.take (p*2)++[.string s0,.string s1]:=by
   rw[aN,aW];exact GJ (by simp;omega)
  have el:(c1.take ((p+1)*2)++cur.drop (p*2)).length=(n+1)*2:=by rw[AF,aJ,BC,aF];omega
  refine⟨by rw[aO,AF,el,BU,aF];omega,?_⟩;rw[aO,GJ el,et]
 have HF:=LE aK;have bQ:=LE aQ;have bJ:=LE aH;clear aY bF bI aS b7 aW aN aF aP aX aT aQ aU aC aH bE aJ aO aK hg hv h1;go_enter func283,ntmps283
 go_wp2_with (first
  | (at_builtin;refine Lib.wpList_append_run _ rfl _ _ _ _ rfl _ _ rfl rfl _ _ (bC _) ?_)
  | (at_builtin;refine wpList_copy_runI _ rfl _ _ 46 46 rfl _ _ rfl rfl (aI _) ?_))
 refine AP (S:=λw'=>True) (by kernel_rfl) (trivial) (λaD=>?_);refine TY 0 (.slice (some ⟨w.heap.size,0,none⟩) (n+1) G) rfl aD (TY 1 (.int .i64 (p:Int)) rfl aD (TY 2 (.int .i64 1) rfl aD (TY 3 (.int .i64 ((p:Int)+1)) rfl aD (TY 4 (.slice (some ⟨w.heap.size,(p+1)*2,none⟩) (n+1-(p+1)) (G-(p+1))) rfl aD (TY 5 (.slice (some ⟨g,0,none⟩) n n) rfl aD (TY 6 (.int .i64 (p:Int)) rfl aD (TY 7 (.slice (some ⟨g,p*2,none⟩) (n-p) (n-p)) rfl aD ?_)))))));simp only[PS];refine RD 8 rfl (λK hK=>?_);refine step_copy_runI rfl _ _ 46 46 rfl (.slice (some ⟨w.heap.size,(p+1)*2,none⟩) (n+1-(p+1)) (G-(p+1))) (.slice (some ⟨g,p*2,none⟩) (n-p) (n-p)) (by simp[Act.eval,Act.put]) (by simp[Act.eval,Act.put]) (bP.o _) ?_;refine hK.o _ _ (trivial) (λbW=>?_);clear hK K
 try simp only[PS]
 refine DN ?_;go_wp2_with fail;go_ret;exact⟨G,c2,rfl,bV,aV,HF.o.1,HF.o.2,(below_setRow (bJ.o.drew) (AA _) _),by have:(w2.drew.setRow w.heap.size c2.toArray).heap.size=w2.heap.size:=(by simp[World.setRow]);omega,IS w2.drew _ _ _ 162 (0,0) bQ.o⟩
end
section
open Tryz
open Go.RowKit Go.Lib
variable {cur:List Value}{base n p:Nat}{w:World}
def UH(l:List Pr):(LI l).length=l.length*2:=RC l
def gq{a r:List Pr}(h:cur.take (n*2)=LI (a++r))(hp:a.length=p)(hn:n=p+r.length)(hl:n*2<=cur.length):cur.take (p*2)=LI a/\(cur.drop (p*2)).take ((n-p)*2)=LI r:=by
 rw[QT]at h;have e1:(LI a).length=p*2:=by rw[UH,hp]
 constructor
 ·have:(cur.take (n*2)).take (p*2)=cur.take (p*2):=by rw[GT,show min (p*2) (n*2)=p*2 by omega]
  rw[<-this,h,GJ e1]
 have:(cur.drop (p*2)).take ((n-p)*2)=(cur.take (n*2)).drop (p*2):=by rw[FC];congr 1;omega
 rw[this,h,JV e1]
def Gf{a r:List Pr}{s0 s1:ByteArray}(h:cur.take (n*2)=LI (a++r))(hp:a.length=p)(hn:n=p+r.length)(hl:n*2+2<=cur.length):(XO cur n p s0 s1).take ((n+1)*2)=LI (a++[(s0,s1)]++r)/\(XO cur n p s0 s1).length=cur.length:=by
 obtain⟨h1,h2⟩:=gq h hp hn (by omega);unfold XO;rw[h1,h2];have e:(LI a++[Value.string s0,.string s1]++LI r).length=(n+1)*2:=by simp only[AF,UH,BY,AR];omega
 refine⟨?_,by rw[AF,e,BU];omega⟩;rw[GJ e,QT,QT];rfl
def t6{a r:List Pr}{x:Pr}(h:cur.take (n*2)=LI (a++[x]++r))(hp:a.length=p)(hn:n=p+1+r.length)(hl:n*2<=cur.length):(YD cur n p).take ((n-1)*2)=LI (a++r)/\(YD cur n p).length=cur.length:=by
 obtain⟨h1,_⟩:=gq (a:=a) (r:=[x]++r) (by rw[h,BG]) hp (by simp;omega) hl;obtain⟨_,h2⟩:=gq (a:=a++[x]) (r:=r) (p:=p+1) h (by simp[hp]) hn hl;unfold YD;rw[h1,show p*2+2=(p+1)*2 by omega,show n-p-1=n-(p+1) by omega,h2];have e:(LI a++LI r).length=(n-1)*2:=by simp only[AF,UH];omega
 refine⟨?_,by simp only[AF,UH,BY,AR,BU];omega⟩;rw[BG,GJ e,QT]
def Fw{a r:List Pr}{k v v':ByteArray}(h:cur.take (n*2)=LI (a++[(k,v)]++r))(hp:a.length=p)(hn:n=p+1+r.length):(cur.set (p*2+1) (.string v')).take (n*2)=LI (a++[(k,v')]++r):=by
 rw[List.take_set,h,QT,QT,QT,QT,BG,BG,BV _ _ (by rw[UH];omega),UH,hp,show p*2+1-p*2=1 by omega];rfl
def oq{v:Value}{rs:List Pr}(h:w.ownsRow base 162 2 v rs.length (LI rs))(hn:0<rs.length):∃g cap cur,v=.slice (some ⟨g,0,none⟩) rs.length cap/\base<=g/\w.heap[g]?=some (.cells (List.toArray cur) 162 (0,0))/\rs.length<=cap/\cap<=maxLen/\cur.length=cap*2/\cur.take (rs.length*2)=LI rs:=by
 rcases h.2 with ⟨_,e⟩|⟨g,cap,cur,e1,e2,e3,e4,e5,e6,e7⟩
 ·omega
 exact⟨g,cap,cur.toList,e1,e2,by simpa using e3,e4,e5,by simpa using e6,e7⟩
def ek{g cap:Nat}{rs:List Pr}(hb:base<=g)(hg:w.heap[g]?=some (.cells cur.toArray 162 (0,0)))(hn:n<=cap)(hc:cap<=maxLen)(hl:cur.length=cap*2)(ht:cur.take (n*2)=LI rs)(hr:rs.length=n):w.ownsRow base 162 2 (.slice (some ⟨g,0,none⟩) n cap) rs.length (LI rs):=by
 subst hr;exact⟨UH rs,.inr ⟨g,cap,cur.toArray,rfl,hb,hg,hn,hc,by simpa using hl,by simpa using ht⟩⟩
def ij{v:Value}{rs:List Pr}(h:w.ownsRow base 162 2 v rs.length (LI rs)):∃a c,v=.slice a rs.length c/\Prs w a rs:=by
 rcases MM h with ⟨e1,e2⟩|⟨g,cap,e1,_,_,e4⟩
 ·exact⟨none,0,by rw[e1,e2],.inl (AC e2)⟩
 exact⟨_,cap,e1,e4.prs⟩
def po(l:List Pr):∀u∈LI l,u.oneCell'=true:=λu hu=>by
 unfold LI at hu;rw[EE]at hu;obtain⟨x,_,hx⟩:=hu;exact VK x.1 x.2 u hx
def sG(base:Nat)(a:Option Addr)(c:Nat)(rs:List Pr)(gv:Nat)(s0 s1:ByteArray)(w:World)(own:w.ownsRow base 162 2 (.slice a rs.length c) rs.length (LI rs))(hv:w.heap[gv]?=some (.cells #[.string s0,.string s1] 162 (0,0)))(hl:rs.length<=1000)(hb:base<=w.heap.size):Calls prog 283 #[.slice a rs.length c,.int .i64 (rs.length:Int),.slice (some ⟨gv,0,none⟩) 1 1] w λe w'=>∃v',e=.returned v'/\w'.ownsRow base 162 2 v' (rs++[(s0,s1)]).length (LI (rs++[(s0,s1)]))/\Below base w w':=by
 obtain⟨i0,aH,aI,aJ,aK⟩:=UP ZK;have HI:=LE (AG aH (AG aI (AG aJ aK)));clear aH aI aJ aK;have aN:(0:Int)<=(rs.length:Int):=by omega
 have aL:rs.length<=c:=by
  rcases own.2 with ⟨e1,e2⟩|⟨g,cap,cur,e1,_,_,h3,_⟩
  ·omega
  cases e1;exact h3
 have HN:=LE (λj u (hj:[Value.string s0,.string s1][j]?=some u)=>show w.cell? ((⟨gv,0,none⟩:Addr).add j)=some u by rw[GK,BF];exact WH (cur:=[.string s0,.string s1]) hv hj);have HO:=LE own;clear own
 have aM:∀(A:Option Addr),A=a->Calls prog 283 #[.slice A rs.length c,.int .i64 (rs.length:Int),.slice (some ⟨gv,0,none⟩) 1 1] w λe w'=>∃v',e=.returned v'/\w'.ownsRow base 162 2 v' (rs++[(s0,s1)]).length (LI (rs++[(s0,s1)]))/\Below base w w':=by
  intro A hA;subst hA
  cases A with
  | none =>
   go_enter func283,ntmps283;go_wp2_with (at_builtin;refine PU _ rfl _ _ 46 rfl base underlying46 HI.o rfl (by omega) _ rs.length _ rfl HO.o ⟨gv,0,none⟩ 1 1 [.string s0,.string s1] rfl rfl HN.o (VK _ _) hb w.heap.size rfl ?_;intro g9 aC w9 aB aA aD aG;have aF:=LE aB;have aE:=LE aA;clear aB aA aD)
   all_goals
    go_ret;exact⟨.slice (some ⟨g9,0,none⟩) (rs.length+1) aC,rfl,by simpa only[nh,AF,EQ] using aF.o,WA aE.o hb (λk hk=>(HO.o.lt k hk).1)⟩
  | some ad =>
   go_enter func283,ntmps283;go_wp2_with (at_builtin;refine PU _ rfl _ _ 46 rfl base underlying46 HI.o rfl (by omega) _ rs.length _ rfl HO.o ⟨gv,0,none⟩ 1 1 [.string s0,.string s1] rfl rfl HN.o (VK _ _) hb w.heap.size rfl ?_;intro g9 aC w9 aB aA aD aG;have aF:=LE aB;have aE:=LE aA;clear aB aA aD)
   all_goals
    go_ret;exact⟨.slice (some ⟨g9,0,none⟩) (rs.length+1) aC,rfl,by simpa only[nh,AF,EQ] using aF.o,WA aE.o hb (λk hk=>(HO.o.lt k hk).1)⟩
 exact aM a rfl
def qE(base:Nat)(v:Value)(rs:List Pr)(aA aB:ByteArray)(w:World)(own:w.ownsRow base 162 2 v rs.length (LI rs))(aC:OC rs)(hl:rs.length<=1000)(hb:base<=w.heap.size):Calls prog 281 #[.agg #[.string aA,.string aB],v] w λe w'=>∃v',e=.returned v'/\w'.ownsRow base 162 2 v' (NX (aA,aB,false) rs).length (LI (NX (aA,aB,false) rs))/\OC (NX (aA,aB,false) rs)/\Below base w w':=by
 obtain⟨a,c,rfl,aV⟩:=ij own
 have aI:∀o,Below w.heap.size w (w.alloc o):=λo=>LG _ _
 have HF:=LE (vu a rs c aA _ (aV.I (aI (.cells #[.string aA,.string aB] 281))) (by omega) (oV aC aA));go_enter func281,ntmps281;go_wp2_with fail;refine HF.o.i ?_;rintro e w2 ⟨p,hp,h1,h2,rfl,aP⟩;have hr:=(ME w #[.string aA,.string aB] 281).I aP;have q0:=hr.x 0;have q1:=hr.x 1;have lr:=hr.lt;have aD:=LY own ((aI _).j (aP.i (aI _).size));have aS:Below base w w2:=((aI _).j (aP.i (aI _).size)).i hb;have cA:w.heap.size<w2.heap.size:=lr;clear hr HF aP
 by_cases ht:p<rs.length/\LW (NA rs p) aA=0
 ·obtain⟨e1,e2,e3,e4⟩:=ii aC aA p hp h1 h2 1 (by rw[AK ht])
  have bJ:∃v0,(rs.drop p).take 1=[(aA,v0)]:=e3.resolve_left (by intro h0;have:=BT List.length h0;rw[BC,BU,AR]at this;omega);obtain⟨v0,aW⟩:=bJ;have hF:=dg (aA,aB,false) (rs.take p) ((rs.drop p).take 1) (rs.drop (p+1)) e2 e3 e4;have hA:=ex (aA,aB,false) (rs.take p) ((rs.drop p).take 1) (rs.drop (p+1)) (by rw[<-e1];exact aC) e2 e4;rw[<-e1]at hF;obtain⟨g,cap,cur,ev,aJ,aE,aT,aU,aK,aH⟩:=oq aD (by omega)
  cases ev
  rw[AO ht];have bT:(0:Int)<=(p:Int):=by omega
  have b7:(p:Int)<(rs.length:Int):=by omega
  have aZ:w2.cell? ⟨g,p*2+1,none⟩=some (.string v0):=by
   refine WH aE ?_
   have:(cur.take (rs.length*2))[p*2+1]?=some (.string v0):=by
    rw[aH,e1,aW,QT,QT,BG,CJ (by rw[UH,BC];omega),UH,BC,show p*2+1-min p rs.length*2=1 by rw[Nat.min_eq_left (by omega)];omega];rfl
   rw[FH]at this
   split at this
   ·exact this
   cases this
  have bW:w2.frozen? ⟨g,p*2+1,none⟩=false:=by simp[World.frozen?,aE]
  have aO:=setCell_eq_setRow w2 g (p*2+1) cur.toArray 162 (0,0) (.string aB) aE
  have aM:(w2.setCell ⟨g,p*2+1,none⟩ (.string aB)).ownsRow base 162 2 (.slice (some ⟨g,0,none⟩) rs.length c) (NX (aA,aB,false) rs).length (LI (NX (aA,aB,false) rs)):=by
   rw[hF];unfold VB;simp only[EJ,IX];refine ek (cur:=cur.set (p*2+1) (.string aB)) aJ ?_ aT aU (by simpa using aK) ?_ ?_
   ·rw[aO,IS w2 g _ _ 162 (0,0) aE];simp
   ·rw[show rs.length*2=rs.length*2 from rfl]
    refine Fw (k:=aA) (v:=v0) (by rw[aH];congr 1;rw[<-aW];exact e1) (by rw[BC];omega) (by rw[BU];omega)
   simp only[AF,BC,BU,BY,AR];omega
  have aR:=LE aM;have HA:Hid (OC (NX (aA,aB,false) rs)):=by show OC _;rw[hF];exact hA
  have bQ:g<w2.heap.size:=(AS.1 aE).1;clear aM hA hF e1 e2 e3 e4 aW aO aE aH aC own aD h1 h2;go_wp2_with fail;go_ret;exact⟨_,rfl,aR.o,HA.o,aS.setCell (p:=⟨g,p*2+1,none⟩) aJ _⟩
 obtain⟨e1,e2,e3,e4⟩:=ii aC aA p hp h1 h2 0 (by rw[AE ht])
 have hF:=dg (aA,aB,false) (rs.take p) ((rs.drop p).take 0) (rs.drop (p+0)) e2 e3 e4;have hA:=ex (aA,aB,false) (rs.take p) ((rs.drop p).take 0) (rs.drop (p+0)) (by rw[<-e1];exact aC) e2 e4;rw[<-e1]at hF;rw[AI ht];unfold VB at hF hA;simp only[EJ,IX,GX]at hF hA e1 e4;have aG:NX (aA,aB,false) rs=rs.take p++[(aA,aB)]++rs.drop p:=hF;have bT:(0:Int)<=(p:Int):=by omega
 have aQ:(w2.alloc (.cells #[.string aA,.string aB] 162)).heap[w2.heap.size]?=some (.cells #[.string aA,.string aB] 162 (0,0)):=AY w2 _;have aF:=aD.alloc (.cells #[.string aA,.string aB] 162);have aX:Below base w (w2.alloc (.cells #[.string aA,.string aB] 162)):=aS.alloc (by omega) _
 have bI:Hid (Calls prog 283 #[.slice a rs.length c,.int .i64 (p:Int),.slice (some ⟨w2.heap.size,0,none⟩) 1 1] (w2.alloc (.cells #[.string aA,.string aB] 162)) λe w'=>∃v',e=.returned v'/\w'.ownsRow base 162 2 v' (NX (aA,aB,false) rs).length (LI (NX (aA,aB,false) rs))/\Below base (w2.alloc (.cells #[.string aA,.string aB] 162)) w'):=by
  show Calls _ _ _ _ _;rcases KE hp with bV|bE
  ·subst bV
   rw[DC,List.drop_length,EY]at aG;rw[aG];exact sG base a c rs w2.heap.size aA aB _ aF aQ hl (by simp;omega)
  obtain⟨g,cap,cur,ev,aJ,aE,aT,aU,aK,aH⟩:=oq aF (by omega)
  cases ev
  have aL:∀u∈cur.take (rs.length*2),u.oneCell'=true:=by rw[aH];exact po rs
  have bQ:g<w2.heap.size:=by have:=(aD.lt g rfl).2;exact this
  have hcut:cur.take (rs.length*2)=LI (rs.take p++rs.drop p):=by rw[ES];exact aH
  have aN:(rs.take p).length=p:=by rw[BC];omega
  have bC:rs.length=p+(rs.drop p).length:=by rw[BU];omega
  rcases KE aT with aY|aZ
  ·refine(Di g rs.length p w2.heap.size aA aB cur _ aE aQ (by rw[aK,aY]) (by omega) bE aL).i ?_ |> (λx=>by rw[<-aY];exact x)
   rintro e w' ⟨G,row,rfl,h1,h2,h3,h4,h5,h6,h7⟩;refine⟨_,rfl,?_,h5.i (by simp;omega)⟩;rw[aG];refine ek (cur:=row) (by simp;omega) h7 h1 h2 h3 ?_ (by simp only[AF,BC,BU,BY,AR];omega);rw[h4,QT,QT];obtain⟨c1,c2⟩:=gq hcut aN bC (by omega);rw[c1];rw[AT (by rw[BU];omega)]at c2;rw[c2];rfl
  refine(Fr g rs.length c p w2.heap.size aA aB cur _ aE aQ (by omega) aK aZ (by omega) bE aL).i ?_
  rintro e w' ⟨rfl,h1,h2⟩;obtain⟨t1,t2⟩:=Gf (s0:=aA) (s1:=aB) hcut aN bC (by omega);refine⟨_,rfl,?_,WA h1 (by simp;omega) (λk hk=>by cases hk;exact aJ)⟩;rw[aG];exact ek aJ h2 (by omega) aU (by rw[t2];exact aK) t1 (by simp only[AF,BC,BU,BY,AR];omega)
 have HA:Hid (OC (NX (aA,aB,false) rs)):=by show OC _;rw[aG];exact hA
 have bF:=LE aX;clear hA hF aG e1 e2 e3 e4 aC own aD aF h1 h2 aQ aX aS;go_wp2_with (go_at_call 283;refine bI.o.i ?_;rintro e w5 ⟨v5,rfl,bU,bP⟩);go_ret;exact⟨_,rfl,bU,HA.o,bF.o.j bP⟩
end
section
open Tryz
open Go.RowKit Go.Lib
def nG(base:Nat)(v:Value)(rs:List Pr)(aB aD:ByteArray)(w:World)(own:w.ownsRow base 162 2 v rs.length (LI rs))(aA:OC rs)(hl:rs.length<=1000)(hb:base<=w.heap.size):Calls prog 272 #[.agg #[.string aB],v] w λe w'=>∃v',e=.returned v'/\w'.ownsRow base 162 2 v' (NX (aB,aD,true) rs).length (LI (NX (aB,aD,true) rs))/\OC (NX (aB,aD,true) rs)/\Below base w w':=by
 obtain⟨a,c,rfl,aJ⟩:=ij own
 have aE:∀o,Below w.heap.size w (w.alloc o):=λo=>LG _ _
 have HF:=LE (vu a rs c aB _ (aJ.I (aE (.cells #[.string aB] 279))) (by omega) (oV aA aB));go_enter func272,ntmps272;go_wp2_with fail;refine HF.o.i ?_;rintro e w2 ⟨p,hp,h1,h2,rfl,aG⟩;have lr:w.heap.size<w2.heap.size:=AD (by simp) aG.size;have aC:=LY own ((aE _).j (aG.i (aE _).size));have aK:Below base w w2:=((aE _).j (aG.i (aE _).size)).i hb;clear HF aG
 by_cases ht:p<rs.length/\LW (NA rs p) aB=0
 ·obtain⟨e1,e2,e3,e4⟩:=ii aA aB p hp h1 h2 1 (by rw[AK ht])
  have aQ:∃v0,(rs.drop p).take 1=[(aB,v0)]:=e3.resolve_left (by intro h0;have:=BT List.length h0;rw[BC,BU,AR]at this;omega);obtain⟨v0,aO⟩:=aQ;have hF:=dg (aB,aD,true) (rs.take p) ((rs.drop p).take 1) (rs.drop (p+1)) e2 e3 e4;have hA:=ex (aB,aD,true) (rs.take p) ((rs.drop p).take 1) (rs.drop (p+1)) (by rw[<-e1];exact aA) e2 e4;rw[<-e1]at hF;unfold VB at hF hA;simp only[IK,EY]at hF hA;obtain⟨g,cap,cur,ev,aL,aM,aR,aS,aN,aI⟩:=oq aC (by omega)
  cases ev
  have aF:∀u∈cur.take (rs.length*2),u.oneCell'=true:=by rw[aI];exact po rs
  have hw:IntKind.i64.wrap ((p:Int)+1)=(p:Int)+1:=by simp[IntKind.wrap,IntKind.bits,IntKind.signed];omega
  rw[AO ht];have aP:=LE (uZ g rs.length c p cur w2 aM aN aR (by omega) ht.1 aF);obtain⟨t1,t2⟩:=t6 (x:=(aB,v0)) (a:=rs.take p) (r:=rs.drop (p+1)) (n:=rs.length) (p:=p) (by rw[aI];congr 1;rw[<-aO];exact e1) (by rw[BC];omega) (by rw[BU];omega) (by omega);have HT:=LE (AG t1 t2);have HF:=LE hF;have HA:=LE hA;have aU:=ht.1;clear hF hA e1 e2 e3 e4 aO aM aI aA own aC h1 h2 t1 t2 aF;go_wp2_with (go_at_call 274;refine aP.o.i ?_;rintro e w5 ⟨rfl,aH,aT⟩);go_ret;refine⟨_,rfl,?_,by rw[HF.o];exact HA.o,aK.j (WA aH (by omega) (λk hk=>by cases hk;exact aL))⟩;rw[HF.o];exact ek aL aT (by omega) aS (by rw[HT.o.2];exact aN) HT.o.1 (by rw[AF,BC,BU];omega)
 obtain⟨e1,e2,e3,e4⟩:=ii aA aB p hp h1 h2 0 (by rw[AE ht])
 have hF:=dg (aB,aD,true) (rs.take p) ((rs.drop p).take 0) (rs.drop (p+0)) e2 e3 e4;rw[<-e1]at hF;unfold VB at hF;simp only[IK,EY,GX,ES]at hF;rw[AI ht];have HF:=LE hF;have HO:=LE aC;have HA:=LE aA;clear hF e1 e2 e3 e4 aA own aC h1 h2;go_wp2_with fail;go_ret;exact⟨_,rfl,by rw[HF.o];exact HO.o,by rw[HF.o];exact HA.o,aK⟩
def vr(j:Nat)(v v':Value)(w:World):Sem.run prog (method (j+1) 281 (.agg #[v,v']) "loop.example/kilnstone/impl.apply") w=.ok (281,.agg #[v,v']) w:=by kernel_rfl
def xm(j:Nat)(v:Value)(w:World):Sem.run prog (method (j+1) 279 (.agg #[v]) "loop.example/kilnstone/impl.apply") w=.ok (272,.agg #[v]) w:=by kernel_rfl
def yv(a:Option Addr)(n c:Nat)(h:n<=100)(w:World):Calls prog 219 #[.slice a n c] w λe w'=>(∃x,e=.returned x)/\w'=w:=by
 have h1:((n:Int)<=100):=by omega
 go_enter func219,ntmps219;go_wp2_with fail;go_end0;exact⟨⟨_,rfl⟩,rfl⟩
def ye(a:Option Addr)(n c:Nat)(h:100<n)(w:World):Calls prog 219 #[.slice a n c] w λe w'=>e=.panicked [{ v:=.iface 273 (.int .i64 2),recovered:=false }]/\w'=w:=by
 have h1:((100:Int)<n):=by omega
 go_enter func219,ntmps219;go_wp2_with fail;simp[bodyPost]
def qL(p q:Addr)(w:World):CallsD prog 218 #[.pointer (some p),.pointer (some q)] .returning w λe u' w'=>e=.returned (.tuple #[])/\u'=.returning/\w'=w:=by
 refine callsD_of_wpS func218 rfl λc₀ cs hu=>?_
 apply wpS_seq
 apply wpS_region
 simp[wpOpsS,go_sem,recoverD,hu,ntmps218,Exit.thenS];refine wpS_of_wp ?_;simp only[Array.replicate,List.replicate,BM,CI,CZ,EO,ED,DU];go_wp2
 cases c₀
 simp_all [bodyPostS,results,results218]
def oC(p q:Addr)(aA:List PanicEntry)(w:World)(x:Value)(y:Int)(hp:w.cell? p=some x)(hq:w.cell? q=some (.int .i64 y))(fp:w.frozen? p=false)(fq:w.frozen? q=false)(aB:p≠q):CallsD prog 218 #[.pointer (some p),.pointer (some q)] (.panicking ({ v:=.iface 273 (.int .i64 2),recovered:=false }::aA)) w λe u' w' =>
   e=.returned (.tuple #[])/\u'=.panicking ({ v:=.iface 273 (.int .i64 2),recovered:=true }::aA)/\w'=(w.setCell p (.slice none 0 0)).setCell q (.int .i64 2):=by
 have aC:∀w,(Instr.typeAssert (.iface 273 (.int .i64 2)) 20 273 true).run prog w=.ok (.tuple #[.int .i64 2,.bool true]) w:=λw=>by kernel_rfl
 refine callsD_of_wpS func218 rfl λc₀ cs hu=>?_
 apply wpS_seq
 apply wpS_region
 simp[wpOpsS,go_sem,recoverD,hu,ntmps218,Exit.thenS];refine wpS_of_wp ?_;simp only[Array.replicate,List.replicate,BM,CI,CZ,EO,ED,DU];go_wp2
 cases c₀
 simp_all [bodyPostS,results,results218]
end
section
open Tryz
open Go.RowKit
def Row.below3{w w':World}{N g:Nat}{cs:List Value}(h:Row w g cs)(hg:g<N)(hb:Below N w w'):Row w' g cs :=⟨AD h.lt hb.size,λi v hv=>(hb.cell (p:=⟨g,i,none⟩) hg).j (h.cell i v hv),λi hi=>(hb.frozen (p:=⟨g,i,none⟩) hg).j (h.froz i hi)⟩
def tC{w:World}{b o:Nat}{rs:List Pr}(h:Prs w (some ⟨b,o,none⟩) rs):∀j u,(LI rs)[j]?=some u->w.cell? ((⟨b,o,none⟩:Addr).add j)=some u:=λj u hj=>by
 rw[GK];have hjl:j<rs.length*2:=by have:=(CA.1 hj).1;rw[UH]at this;exact this
 obtain⟨b',o',s0,s1,e,h0,h1,HS⟩:=h.at (k:=j / 2) (by omega)
 cases e
 have hp:=ZR rs (j / 2) (by omega);rcases(show j=j / 2*2\/j=j / 2*2+1 by omega) with e|e
 ·rw[e]at hj⊢
  rw[hp.1,<-HS.o]at hj;rw[<-hj];exact h0
 rw[e]at hj⊢
 rw[hp.2,<-HS.o]at hj;rw[<-hj,<-IE];exact h1
def Cu(t e ty:TypeId)(ht:prog.underlying t=some (.slice e))(hs:((prog.info? e).map (·.size)).isSome=true)(a:Option Addr)(c:Nat)(w:World):(Builtin.append_ #[t,t] ty #[.slice none 0 0,.slice a 0 c]).run prog w=.ok (.slice none 0 0) w:=by
 cases hq:prog.info? e with
 | none=>simp[hq]at hs
 | some i =>
  cases a with
  | none=>simp[Builtin.append_,FO ht,Builtin.lenOf,Builtin.firstCells,sizeOf,typeInfo,hq]
  | some ad=>simp[Builtin.append_,FO ht,Builtin.lenOf,Builtin.firstCells,sizeOf,typeInfo,hq,loadCells,loadCellsFrom]
structure TB(w wr:World)(y:Value)(cur:List Pr):Prop where
 own:wr.ownsRow (w.heap.size+1+1+1) 162 2 y cur.length (LI cur)
 asc:OC cur
 r1:Row wr (w.heap.size+1) [.slice none 0 0]
 r2:Row wr (w.heap.size+1+1) [.int .i64 0]
 bel:Below w.heap.size w wr
def TB.post{w wr:World}{ya:Option Addr}{yc:Nat}{cur:List Pr}{x:Value}(h:TB w wr (.slice ya cur.length yc) cur):WG w ((wr.setCell ⟨w.heap.size+1,0,none⟩ (.slice ya cur.length yc)).setCell ⟨w.heap.size+1+1,0,none⟩ x) (.returned (.tuple #[.agg #[.slice ya cur.length yc],.int .i64 0])) cur 0:=by
 have aB:cur.length<=yc:=by
  rcases h.own.2 with ⟨e1,e2⟩|⟨g,cap,cc,e1,_,_,h3,_⟩
  ·rw[e2];omega
  cases e1;exact h3
 have aD:OwnS wr ya (LI cur):=by
  rcases MM h.own with ⟨_,e2⟩|⟨g,cap,e1,_,_,e4⟩
  ·exact .inl (by rw[AC e2];rfl)
  cases e1;exact .inr ⟨g,rfl,e4⟩
 have aC:∀g,ya=some ⟨g,0,none⟩->LI cur≠[]->w.heap.size+1+1<g:=λg hg aA=>by subst hg;have:=(h.own.lt g rfl).1;omega
 refine⟨ya,yc,rfl,aB,(aD.setA _ (λg hg aA=>by have:=aC g hg aA;show w.heap.size+1≠g;omega) _).setA _ (λg hg aA=>by have:=aC g hg aA;show w.heap.size+1+1≠g;omega) _,λg hg=>?_,(h.bel.setCell (p:=⟨w.heap.size+1,0,none⟩) (by show w.heap.size<=w.heap.size+1;omega) _).setCell (p:=⟨w.heap.size+1+1,0,none⟩) (by show w.heap.size<=w.heap.size+1+1;omega) _⟩;unfold blk at hg
 split at hg
 ·cases hg
 cases ya with
 | none=>cases hg
 | some ad =>
  simp at hg;subst hg;have:=(h.own.lt ad.block rfl).1;omega
def wW(a:Option Addr)(rs:List Pr)(c:Nat)(a2:Option Addr)(b:List Ch)(c2:Nat)(w:World)(h:Prs w a rs)(aX:MA rs=true)(h2:Chs w a2 b)(aQ:OA b=true):Calls prog 178 #[LR a rs.length c,.slice a2 b.length c2] w λe w'=>WG w w' e (OR rs b) (OQ rs b):=by
 obtain⟨i0,cC,cE,cF,cH⟩:=UP ZK;have HI:=LE (AG cC (AG cE (AG cF cH)));clear cC cE cF cH;have cW:rs.length<=100:=(XH aX).1;have cP:b.length<=20:=(VQ aQ).1.2;have aR:=qJ aX;have bV:=LE (jq rs b);unfold LR;unfold OR OQ;rw[aX,aQ];simp only[Bool.and_self,IK]
 have cX:∀(fn:Fn) (first cap:Array Value) (w:World),(Instr.makeFunc fn first cap).run prog w=.ok (.func fn first cap) w:=λ_ _ _ _=>rfl
 obtain⟨wb,aJ⟩:∃wb,wb=((w.alloc (.cells #[.slice a rs.length c] 48)).alloc (.cells #[.slice none 0 0] 48)).alloc (.cells #[.int .i64 0] 3):=⟨_,rfl⟩;have cV:wb.heap.size=w.heap.size+1+1+1:=by rw[aJ];simp
 have bC:Below w.heap.size w wb:=by rw[aJ];exact((LG _ _).alloc (by simp) _).alloc (by simp<;>omega) _
 have r0:Row wb w.heap.size [.slice a rs.length c]:=by rw[aJ];exact((ME w _ _).alloc _).alloc _
 have r1:Row wb (w.heap.size+1) [.slice none 0 0]:=by rw[aJ];exact(ZV (w:=w.alloc _) (by simp)).alloc _
 have r2:Row wb (w.heap.size+1+1) [.int .i64 0]:=by rw[aJ];exact ZV (w:=(w.alloc _).alloc _) (by simp)
 have q0:=r0.x 0;have l0:=r0.lt;have cA:=LE r1;have cB:=LE r2;have bU:=LE bC;have b7:=LE (h.I bC);have bT:=LE aR;clear r0 r1 r2 bC aR aX aQ
 by_cases hz:rs.length=0
 case pos =>
  obtain rfl:=AC hz;have aV:Hid (TB w wb (.slice none 0 0) []):=⟨BZ _ _ _ _,bT.o,cA.o,cB.o,bU.o⟩;go_enter_defers func178,ntmps178;go_wp2_with (at_builtin;refine Lib.wpList_append_run _ rfl _ _ 46 46 rfl _ _ rfl rfl _ _ (Cu _ 162 _ underlying46 (by kernel_rfl) a c _) ?_);simp only[AR]at aJ;rw[<-aJ];clear aJ q0 l0;go_wp2_with fail;go_loopw [6,15] (λy i wr=>∃k:Nat,k<=b.length/\i=.int .i64 (k:Int)/\TB w wr y (MO [] (b.take k))) (λ_ i _=>b.length-(intOf i).toNat)
  case atStart =>
   exact⟨0,AH _,rfl,aV.o⟩
  case round =>
   obtain⟨k,hk,rfl,aC⟩:=hrel;have hN:=bV.o k;have cU:w.heap.size+1<wr.heap.size:=aC.r1.lt;have bJ:w.heap.size+1+1<wr.heap.size:=aC.r2.lt
   by_cases aO:k<b.length
   ·obtain⟨bb,oo,s0,s1,g0,rfl,cL,cM,cN,HS⟩:=(h2.I aC.bel).at aO
    have bF:bb<w.heap.size:=by
     rcases h2 with h|⟨b',o',h1,h2,_⟩
     ·subst h;simp at aO
     cases h1;exact h2
    have bI:(k:Int)<(b.length:Int):=by omega
    have cO:(0:Int)<=(k:Int):=by omega
    have aS:MO [] (b.take (k+1))=NX (s0,s1,g0) (MO [] (b.take k)):=by rw[gm b k (empty,empty,false) aO,ZY,<-HS.o]
    have aL:=LE aS;obtain⟨cur,aG⟩:∃cur,cur=MO [] (b.take k):=⟨_,rfl⟩;rw[<-aG]at aC aL hN;have aA:=LE aC;clear aS aG HS aC;have aT:=vr;have aU:=xm
    cases g0 with
    | false =>
     go_wp2_with (first|(go_at_call 179;refine(jy s0 s1 _).i ?_;rintro e w5 ⟨rfl,aF⟩;have aB:=((AB wr.heap.size wr).alloc (AA _) (.cells #[.string s0,.string s1,.bool false] 127)).j (aF.i (by simp));have aK:=LE (qE (w.heap.size+1+1+1) _ cur s0 s1 w5 (LY aA.o.own aB) aA.o.asc (by omega) (by have:=aB.size;omega));have aD:=LE aB;clear aF aB)|(go_at_call 281;refine aK.o.i ?_;rintro e w6 ⟨v6,rfl,aP,aN,aE⟩))
     refine⟨⟨k+1,by omega,by go_num,?_⟩,by simp[intOf];omega⟩;rw[aL.o];exact⟨aP,aN,(aA.o.r1.I aD.o).below3 (by omega) aE,(aA.o.r2.I aD.o).below3 (by omega) aE,aA.o.bel.j ((aD.o.i aA.o.bel.size).j (aE.i (by omega)))⟩
    | true =>
     go_wp2_with (first|(go_at_call 179;refine(me s0 s1 _).i ?_;rintro e w5 ⟨rfl,aF⟩;have aB:=((AB wr.heap.size wr).alloc (AA _) (.cells #[.string s0,.string s1,.bool true] 127)).j (aF.i (by simp));have aK:=LE (nG (w.heap.size+1+1+1) _ cur s0 s1 w5 (LY aA.o.own aB) aA.o.asc (by omega) (by have:=aB.size;omega));have aD:=LE aB;clear aF aB)|(go_at_call 272;refine aK.o.i ?_;rintro e w6 ⟨v6,rfl,aP,aN,aE⟩))
     refine⟨⟨k+1,by omega,by go_num,?_⟩,by simp[intOf];omega⟩;rw[aL.o];exact⟨aP,aN,(aA.o.r1.I aD.o).below3 (by omega) aE,(aA.o.r2.I aD.o).below3 (by omega) aE,aA.o.bel.j ((aD.o.i aA.o.bel.size).j (aE.i (by omega)))⟩
   have bE:k=b.length:=by omega
   subst bE;rw[DC]at aC;obtain⟨ya,yc,rfl,bP⟩:=ij aC.own;have q1:=aC.r1.x 0;have f1:=aC.r1.q 0;have q2:=aC.r2.x 0;have f2:=aC.r2.q 0;have aA:=LE aC;clear aC bP
   by_cases aM:(MO [] b).length<=100
   focus
    go_wp2_with (go_at_call 219;refine(yv _ _ _ aM _).i ?_;rintro e w5 ⟨⟨x,rfl⟩,rfl⟩)
   rotate_left
   focus
    go_wp2_with (go_at_call 219;refine(ye _ _ _ (by omega) _).i ?_;rintro e w5 ⟨rfl,rfl⟩)
   rotate_left
   all_goals
    refine leaves_cons (f:=218) (args:=#[.pointer (some ⟨w.heap.size+1,0,none⟩),.pointer (some ⟨w.heap.size+1+1,0,none⟩)]) (by simp) (by simp[go_sem]) ?_
   ·refine(qL _ _ _).i ?_
    rintro e u' bQ ⟨rfl,rfl,rfl⟩;simp[Leaves,settle,results,results178,go_sem,q1,q2];exact aA.o.post
   refine(oC _ _ [] _ _ _ q1 q2 f1 f2 (by simp)).i ?_
   rintro e u' bQ ⟨rfl,rfl,rfl⟩;simp[Leaves,settle,results,results178,go_sem,q1,q2];exact YJ rfl ((aA.o.bel.setCell (p:=⟨w.heap.size+1,0,none⟩) (by show w.heap.size<=w.heap.size+1;omega) _).setCell (p:=⟨w.heap.size+1+1,0,none⟩) (by show w.heap.size<=w.heap.size+1+1;omega) _)
 case neg =>
  have cT:=b7.o;rcases cT with h0|⟨ab,ao,rfl,cJ,cI⟩
  ·exact absurd (by rw[h0];rfl) hz
  have bW:=LE (tC b7.o);have cS:0<rs.length:=by omega
  go_enter_defers func178,ntmps178;go_wp2_with (at_builtin;rw[<-aJ];refine wpList_append_lies _ rfl _ _ 46 rfl (w.heap.size+1+1+1) 162 i0 (.agg #[.string empty,.string empty]) 2 32 underlying46 HI.o.1 HI.o.2.1 HI.o.2.2.1 HI.o.2.2.2 rfl (by omega) _ 0 [] rfl (BZ _ _ _ _) ⟨ab,ao,none⟩ rs.length c (LI rs) rfl (UH rs) bW.o (po rs) cS (by unfold maxLen;omega) (by omega) (by omega) wb.heap.size rfl ?_;intro g9 aY w9 aI aH aZ cQ;have aW:Below wb.heap.size wb w9:=WA aH (AA _) (λk hk=>by cases hk);have aV:Hid (TB w w9 (.slice (some ⟨g9,0,none⟩) (0+rs.length) aY) rs):=LE (by rw[BF]at aI;exact⟨by rw[BF];simpa using aI,bT.o,cA.o.I aW,cB.o.I aW,bU.o.j (aW.i (by omega))⟩);clear aI aH aZ aW);clear aJ q0 l0 cJ cI bW;go_wp2_with fail;go_loopw [6,15] (λy i wr=>∃k:Nat,k<=b.length/\i=.int .i64 (k:Int)/\TB w wr y (MO rs (b.take k))) (λ_ i _=>b.length-(intOf i).toNat)
  case atStart =>
   exact⟨0,AH _,rfl,by rw[BF]at aV;exact aV.o⟩
  case round =>
   obtain⟨k,hk,rfl,aC⟩:=hrel;have hN:=bV.o k;have cU:w.heap.size+1<wr.heap.size:=aC.r1.lt;have bJ:w.heap.size+1+1<wr.heap.size:=aC.r2.lt
   by_cases aO:k<b.length
   ·obtain⟨bb,oo,s0,s1,g0,rfl,cL,cM,cN,HS⟩:=(h2.I aC.bel).at aO
    have bF:bb<w.heap.size:=by
     rcases h2 with h|⟨b',o',h1,h2,_⟩
     ·subst h;simp at aO
     cases h1;exact h2
    have bI:(k:Int)<(b.length:Int):=by omega
    have cO:(0:Int)<=(k:Int):=by omega
    have aS:MO rs (b.take (k+1))=NX (s0,s1,g0) (MO rs (b.take k)):=by rw[gm b k (empty,empty,false) aO,ZY,<-HS.o]
    have aL:=LE aS;obtain⟨cur,aG⟩:∃cur,cur=MO rs (b.take k):=⟨_,rfl⟩;rw[<-aG]at aC aL hN;have aA:=LE aC;clear aS aG HS aC;have aT:=vr;have aU:=xm
    cases g0 with
    | false =>
     go_wp2_with (first|(go_at_call 179;refine(jy s0 s1 _).i ?_;rintro e w5 ⟨rfl,aF⟩;have aB:=((AB wr.heap.size wr).alloc (AA _) (.cells #[.string s0,.string s1,.bool false] 127)).j (aF.i (by simp));have aK:=LE (qE (w.heap.size+1+1+1) _ cur s0 s1 w5 (LY aA.o.own aB) aA.o.asc (by omega) (by have:=aB.size;omega));have aD:=LE aB;clear aF aB)|(go_at_call 281;refine aK.o.i ?_;rintro e w6 ⟨v6,rfl,aP,aN,aE⟩))
     refine⟨⟨k+1,by omega,by go_num,?_⟩,by simp[intOf];omega⟩;rw[aL.o];exact⟨aP,aN,(aA.o.r1.I aD.o).below3 (by omega) aE,(aA.o.r2.I aD.o).below3 (by omega) aE,aA.o.bel.j ((aD.o.i aA.o.bel.size).j (aE.i (by omega)))⟩
    | true =>
     go_wp2_with (first|(go_at_call 179;refine(me s0 s1 _).i ?_;rintro e w5 ⟨rfl,aF⟩;have aB:=((AB wr.heap.size wr).alloc (AA _) (.cells #[.string s0,.string s1,.bool true] 127)).j (aF.i (by simp));have aK:=LE (nG (w.heap.size+1+1+1) _ cur s0 s1 w5 (LY aA.o.own aB) aA.o.asc (by omega) (by have:=aB.size;omega));have aD:=LE aB;clear aF aB)|(go_at_call 272;refine aK.o.i ?_;rintro e w6 ⟨v6,rfl,aP,aN,aE⟩))
     refine⟨⟨k+1,by omega,by go_num,?_⟩,by simp[intOf];omega⟩;rw[aL.o];exact⟨aP,aN,(aA.o.r1.I aD.o).below3 (by omega) aE,(aA.o.r2.I aD.o).below3 (by omega) aE,aA.o.bel.j ((aD.o.i aA.o.bel.size).j (aE.i (by omega)))⟩
   have bE:k=b.length:=by omega
   subst bE;rw[DC]at aC;obtain⟨ya,yc,rfl,bP⟩:=ij aC.own;have q1:=aC.r1.x 0;have f1:=aC.r1.q 0;have q2:=aC.r2.x 0;have f2:=aC.r2.q 0;have aA:=LE aC;clear aC bP
   by_cases aM:(MO rs b).length<=100
   focus
    go_wp2_with (go_at_call 219;refine(yv _ _ _ aM _).i ?_;rintro e w5 ⟨⟨x,rfl⟩,rfl⟩)
   rotate_left
   focus
    go_wp2_with (go_at_call 219;refine(ye _ _ _ (by omega) _).i ?_;rintro e w5 ⟨rfl,rfl⟩)
   rotate_left
   all_goals
    refine leaves_cons (f:=218) (args:=#[.pointer (some ⟨w.heap.size+1,0,none⟩),.pointer (some ⟨w.heap.size+1+1,0,none⟩)]) (by simp) (by simp[go_sem]) ?_
   ·refine(qL _ _ _).i ?_
    rintro e u' bQ ⟨rfl,rfl,rfl⟩;simp[Leaves,settle,results,results178,go_sem,q1,q2];exact aA.o.post
   refine(oC _ _ [] _ _ _ q1 q2 f1 f2 (by simp)).i ?_
   rintro e u' bQ ⟨rfl,rfl,rfl⟩;simp[Leaves,settle,results,results178,go_sem,q1,q2];exact YJ rfl ((aA.o.bel.setCell (p:=⟨w.heap.size+1,0,none⟩) (by show w.heap.size<=w.heap.size+1;omega) _).setCell (p:=⟨w.heap.size+1+1,0,none⟩) (by show w.heap.size<=w.heap.size+1+1;omega) _)
def xz(a:Option Addr)(rs:List Pr)(c:Nat)(a2:Option Addr)(b:List Ch)(c2:Nat)(w:World)(h:Prs w a rs)(hl:rs.length<=1048576)(hs:∀x∈rs,x.1.size<=1048576/\x.2.size<=1048576)(h2:Chs w a2 b)(aX:b.length<=1048576)(aZ:∀x∈b,x.1.size<=1048576/\x.2.1.size<=1048576):Calls prog 130 #[LR a rs.length c,.slice a2 b.length c2] w λe w'=>WG w w' e (OR rs b) (OQ rs b):=by
 have aI:=LE (λw' h'=>ig a rs c w' h' hl hs);have aL:=LE (λw' h'=>YY a2 b c2 w' h' aX aZ);have aK:=LE (λw' h' aF aV aA=>wW a rs c a2 b c2 w' h' aF aV aA)
 have aE:∀o1 o2,Below w.heap.size w ((w.alloc o1).alloc o2):=λo1 o2=>(LG _ _).alloc (by simp) _
 obtain⟨R,hR⟩:∃R,R=OR rs b:=⟨_,rfl⟩;obtain⟨C,hC⟩:∃C,C=OQ rs b:=⟨_,rfl⟩;rw[<-hR,<-hC]at aK⊢;unfold WG at aK;unfold LR at aK⊢
 cases aF:MA rs with
 | false =>
  have h1:C=1:=by rw[hC];unfold OQ;rw[aF];rfl
  have h0:R=[]:=by rw[hR];unfold OR;rw[<-hC,h1];rfl
  subst h0 h1;rw[aF]at aI;clear hR hC;go_enter func130,ntmps130;go_wp2_with (go_at_call 118;refine(aI.o _ (h.I (aE _ _))).i ?_;rintro e w3 ⟨rfl,aB⟩;have q1:w3.cell? ⟨w.heap.size+1,0,none⟩=some (.slice none 0 0):=LH aB (by go_simp) (by simp);have f1:w3.frozen? ⟨w.heap.size+1,0,none⟩=false:=LM aB (by go_simp) (by simp);have l1:w.heap.size+1<w3.heap.size:=AD (by simp) aB.size);refine AJ (v:=.tuple #[LR none 0 0,.int .i64 1]) (by simp[results,results130,go_sem,LR,q1]) rfl (YJ rfl ?_);exact((aE _ _).j (aB.i (by simp;omega))).setCell (p:=⟨w.heap.size+1,0,none⟩) (by show w.heap.size<=w.heap.size+1;omega) _
 | true =>
  rw[aF]at aI
  cases aA:OA b with
  | false =>
   have h1:C=1:=by rw[hC];unfold OQ;rw[aF,aA];rfl
   have h0:R=[]:=by rw[hR];unfold OR;rw[<-hC,h1];rfl
   subst h0 h1;rw[aA]at aL;clear hR hC;go_enter func130,ntmps130
   go_wp2_with (first|(go_at_call 118;refine(aI.o _ (h.I (aE _ _))).i ?_;rintro e w3 ⟨rfl,aB⟩;have aG:=LE aB;clear aB)|(go_at_call 129;refine(aL.o _ (h2.I ((aE _ _).j (aG.o.i (by simp;omega))))).i ?_;rintro e w4 ⟨rfl,aM⟩;have aB:=aG.o;have aC:=aB.j (aM.i aB.size);have q1:w4.cell? ⟨w.heap.size+1,0,none⟩=some (.slice none 0 0):=LH aC (by go_simp) (by simp);have f1:w4.frozen? ⟨w.heap.size+1,0,none⟩=false:=LM aC (by go_simp) (by simp);have l1:w.heap.size+1<w4.heap.size:=AD (by simp) aC.size))
   refine AJ (v:=.tuple #[LR none 0 0,.int .i64 1]) (by simp[results,results130,go_sem,LR,q1]) rfl (YJ rfl ?_);exact((aE _ _).j (aC.i (by simp;omega))).setCell (p:=⟨w.heap.size+1,0,none⟩) (by show w.heap.size<=w.heap.size+1;omega) _
  | true =>
   rw[aA]at aL;clear hR hC;have aU:=LE aF;have aN:=LE aA;clear aF aA;go_enter func130,ntmps130
   go_wp2_with (first|(go_at_call 118;refine(aI.o _ (h.I (aE _ _))).i ?_;rintro e w3 ⟨rfl,aB⟩;have aG:=LE aB;clear aB)|(go_at_call 129;refine(aL.o _ (h2.I ((aE _ _).j (aG.o.i (by simp;omega))))).i ?_;rintro e w4 ⟨rfl,aM⟩;have aH:=LE (aG.o.j (aM.i aG.o.size));clear aM;have q0:w4.cell? ⟨w.heap.size,0,none⟩=some (.slice a rs.length c):=LH aH.o (by go_simp) (by simp;omega))|(go_at_call 178;have aJ:Below w.heap.size w w4:=(aE _ _).j (aH.o.i (by simp;omega));refine(aK.o _ (h.I aJ) aU.o (h2.I aJ) aN.o).i ?_;rintro e w5 ⟨a5,c5,rfl,aW,aR,aQ,aO⟩;have aD:=aH.o.j (aO.i aH.o.size);have q1:w5.cell? ⟨w.heap.size+1,0,none⟩=some (.slice none 0 0):=LH aD (by go_simp) (by simp);have f1:w5.frozen? ⟨w.heap.size+1,0,none⟩=false:=LM aD (by go_simp) (by simp);have l1:w.heap.size+1<w5.heap.size:=AD (by simp) aD.size;have bC:w.heap.size+1<w4.heap.size:=AD (by simp) aH.o.size;have aT:=LE aR;have aP:=LE aQ;have aS:=LE (aJ.j (aO.i aJ.size));clear aR aQ aO aD aJ))
   refine AJ (v:=.tuple #[LR a5 R.length c5,.int .i64 C]) (by simp[results,results130,go_sem,LR,q1]) rfl ⟨a5,c5,rfl,aW,?_,λg hg=>by have:=aP.o g hg;omega,?_⟩
   ·exact aT.o.setA _ (λg hg aY=>by have:=aP.o g (by subst hg;exact MI _ _ _ (ks aY));show w.heap.size+1≠g;omega) _
   exact aS.o.setCell (p:=⟨w.heap.size+1,0,none⟩) (by show w.heap.size<=w.heap.size+1;omega) _
