import Derived.Shelf.Spec.SlicesInsert
import Derived.Lib.AppendZerosOnto
import Derived.Lib.Overlaps
import Derived.Laws.Externs
import Derived.Laws.CopyRow
import Derived.Laws.CopyOwn
import Derived.Recover
import Derived.Defers
import Derived.Test.YtjdmogljfdffeaaGreatDoorPrG39
set_option maxHeartbeats 16000000
set_option maxRecDepth 8000
set_option linter.all false
namespace Go.Proofs.YtjdmogljfdffeaaGreatDoor
open _root_.ByteArray(empty)
section
open Tryz
open Go.RowKit Go.Lib
variable {P:Program}{w:World}
theorem jp(w:World)(l B C d:TypeId)(k g o e p:Nat)(a:Addr)(f s:Nat)(b:Array Value)(t:TypeId)(c:List Value)(n:Nat)
  (A:P.underlying l=some (.slice d))(m:(P.info? d).map (·.size)=some k)
  (y:w.heap[g]?=some (.cells b t (0,0)))(z:Nat.min f e=n)(x:c.length=n*k)
  (r:∀j v,c[j]?=some v->w.cell? (a.add j)=some v)(q:o+c.length<=b.size)(u:∀v∈c,v.oneCell'=true):(Builtin.copy_ #[l,B] C #[.slice (some ⟨g,o,none⟩) e p,.slice (some a) f s]).run P w =
   .ok (goInt n) (w.setRow g (b.toList.take o++c++b.toList.drop (o+c.length)).toArray):=by
 have j:=run_loadCells_list (P:=P) w a c r;have h:=KG P g o t c 0 b w y (by simpa using q) u
 cases hq:P.info? d with
 | none=>simp[hq]at m
 | some i =>
  have v:i.size=k:=by simpa[hq] using m
  simp only[FX]at h;rw[x]at j;simp[Builtin.copy_,FZ A,Builtin.lenOf,Builtin.firstCells,sizeOf,typeInfo,hq,v,z,j,h]
theorem Ci(w:World)(t A e:TypeId)(k g d h:Nat)(a:Addr)(n c:Nat)(b:Array Value)(o:TypeId)(f:List Value)
  (z:P.underlying t=some (.slice e))(m:(P.info? e).map (·.size)=some k)
  (y:w.heap[g]?=some (.cells b o (0,0)))(p:d+n<=h)(x:f.length=n*k)
  (s:∀j v,f[j]?=some v->w.cell? (a.add j)=some v)(r:d*k+f.length<=b.size)(u:∀v∈f,v.oneCell'=true):(Builtin.append_ #[t,t] A #[.slice (some ⟨g,0,none⟩) d h,.slice (some a) n c]).run P w =
   .ok (.slice (some ⟨g,0,none⟩) (d+n) h) (w.setRow g (b.toList.take (d*k)++f++b.toList.drop (d*k+f.length)).toArray):=by
 have l:=run_loadCells_list (P:=P) w a f s;have j:=KG P g (d*k) o f 0 b w y (by simpa using r) u;have q:(⟨g,0,none⟩:Addr).add (d*k)=⟨g,d*k,none⟩:=by rw[GO];simp
 cases hq:P.info? e with
 | none=>simp[hq]at m
 | some i =>
  have v:i.size=k:=by simpa[hq] using m
  simp only[FX]at j;rw[x]at l;simp[Builtin.append_,FZ z,Builtin.lenOf,Builtin.firstCells,sizeOf,typeInfo,hq,v,l,j,p,q]
theorem B1(w:World)(t p e:TypeId)(z:Value)(l:P.underlying t=some (.slice e))(hv:∀w,(zeroValue e).run P w=.ok z w)(g o n c:Nat)(q:0<n)(a:Array Value)(f:TypeId)(b:List Value)
  (k:w.heap[g]?=some (.cells a f (0,0)))(i:(Builtin.zeroCells z.cells n).toList=b)(h:o+b.length<=a.size)(j:∀v∈b,v.oneCell'=true):(Builtin.clear_ #[t] p #[.slice (some ⟨g,o,none⟩) n c]).run P w=.ok (.tuple #[]) (w.setRow g (a.toList.take o++b++a.toList.drop (o+b.length)).toArray):=by
 have d:=KG P g o f b 0 a w k (by simpa using h) j;simp only[FX]at d;obtain⟨m,rfl⟩:∃m,n=m+1:=⟨n-1,ω⟩;simp[Builtin.clear_,FZ l,hv,i,d]
theorem kr(w:World)(g:Nat)(a:Array Value):w.grownBy (w.setRow g a) (some g):=⟨rfl,rfl,rfl,by simp[World.setRow],λk _ b=>KR w g k a (λe=>b (by rw[e]))⟩
theorem tF{c d:World}{r:Option Nat}(h:w.grownBy c r)(k:c.grownBy d r):w.grownBy d r :=⟨k.os.j h.os,k.tape.j h.tape,k.output.j h.output,AL h.size k.size,λj b a=>(k.block j (AD b h.size) a).j (h.block j b a)⟩
theorem YW{g:Nat}{cur:List Value}{t:TypeId}{a:Nat×Nat}(h:w.heap[g]?=some (.cells cur.toArray t a)){j:Nat}{v:Value}(hv:cur[j]?=some v):w.cell? ⟨g,j,none⟩=some v:=by
 simp[World.cell?,h,hv]
theorem pB{b:Array Oper}{o:Oper}{a:Act}{K:Act->World->Prop}{Q:Exit->Act->World->Prop}{E:Prop}
  (k:o.guard=none)(d x:Operand)(c e:TypeId)(h:o.op=Op.call { callee:=Callee.builtin Builtin.append,args:=#[d,x],argTypes:=#[c,e] })
  (v u:Value)(j:a.eval d=v)(n:a.eval x=u){f:Value}{g:World}(l:(Builtin.append_ #[c,e] o.type #[v,u]).run P w=.ok f g)(i:K (a.put o.dst f) g):if Region.wanted o (yielded b a.tmps)=true then Oper.wp P o a w K Q else E:=by
 have m:Region.wanted o (yielded b a.tmps)=true:=by simp[Region.wanted,k]
 rw[AF m];unfold Oper.wp;simp[execOp,h,resolve,invoke,builtin,j,n,l,Result.andThen];exact i
end
section
open Tryz
open Go.RowKit Go.Lib
theorem gt:(prog.info? 136).map (·.size)=some 2:=κ
theorem wU(w:World):(zeroValue 136).run prog w=.ok (.agg #[.string empty,.string empty]) w:=κ
def br(a:List Value)(n p:Nat):List Value:=a.take (p*2)++(a.drop (p*2+2)).take ((n-p-1)*2)++[.string empty,.string empty]++a.drop (n*2)
theorem Do(a:List Value)(n p:Nat)(h:n*2<=a.length)(i:p<n)(b c:List Value)(g:b=(a.drop (p*2+2)).take ((n-p-1)*2))(f:c=a.take (p*2)++b++a.drop (p*2+b.length)):b.length=(n-p-1)*2/\c.length=a.length/\c.take ((n-1)*2)++[.string empty,.string empty]++c.drop ((n-1)*2+2)=br a n p:=by
 have d:b.length=(n-p-1)*2:=by rw[g,BF,BV];omega
 have e:(a.take (p*2)++b).length=(n-1)*2:=by rw[AE,BF,d];omega
 refine⟨d,by rw[f,AE,e,BV,d];omega,?_⟩;unfold br;rw[<-g,f,EK e,List.drop_append,EI (by rw[e];omega),e,DQ,FO,d]
 congr 2
 omega
theorem yV(g n a p:Nat)(b:List Value)(w:World)(k:w.heap[g]?=some (.cells b.toArray 136 (0,0)))(O:b.length=a*2)(P:n<=a)(N:n<=100000)(B:p<n)(u:∀v∈b.take (n*2),v.oneCell'=true):Calls prog 226 #[.slice (some ⟨g,0,none⟩) n a,.int .i64 (p:Int),.int .i64 ((p:Int)+1)] w λe q=>e=.returned (.slice (some ⟨g,0,none⟩) (n-1) a)/\w.grownBy q (some g) /\
   q.heap[g]?=some (.cells (br b n p).toArray 136 (0,0)):=by
 have M:¬((p:Int)=(p:Int)+1):=ω
 have E:(p:Int)<=(p:Int)+1:=ω
 have F:(p:Int)+1<=(n:Int):=ω
 have C:(0:Int)<=(p:Int):=ω
 have G:(0:Int)<=(p:Int)+1:=ω
 have H:(n:Int)<=(a:Int):=ω
 have I:(p:Int)<=(a:Int):=ω
 have L:((p:Int)+1).toNat=p+1:=ω
 have z:p+(n-(p+1))=n-1:=ω
 obtain⟨d,l⟩:∃d,d=(b.drop (p*2+2)).take ((n-p-1)*2):=⟨_,rfl⟩;obtain⟨e,o⟩:∃e,e=b.take (p*2)++d++b.drop (p*2+d.length):=⟨_,rfl⟩;obtain⟨m,A,t⟩:=Do b n p ω B d e l o
 have s:∀v∈d,v.oneCell'=true:=λv hv=>u v (by rw[l,show(n-p-1)*2=n*2-(p*2+2) by omega,<-FP]at hv;exact EU hv)
 have r:∀(D:Addr),(D=⟨g,(p+1)*2,none⟩\/d=[])->∀j v,d[j]?=some v->w.drew.cell? (D.add j)=some v:=λD i j v c=>by
  rcases i with rfl|f
  ·rw[GO]
   refine YW (w:=w.drew) (cur:=b) k ?_;rw[l,FR]at c
   split at c
   ·rw[FK]at c
    rw[<-c];congr 1;omega
   cases c
  rw[f]at c;cases c
 have j:Hid (∀D c f,(D=⟨g,(p+1)*2,none⟩\/d=[])->(Builtin.append_ #[29,29] f #[.slice (some ⟨g,0,none⟩) p a,.slice (some D) (n-(p+1)) c]).run prog w.drew=.ok (.slice (some ⟨g,0,none⟩) (n-1) a) (w.drew.setRow g e.toArray)):=λD c f i=>by
  have:=Ci (P:=prog) w.drew 29 f 136 2 g p a D (n-(p+1)) c b.toArray 136 d underlying29 gt k ω (by rw[m];omega) (r D i) (by rw[m];simp;omega) s;rw[z]at this;rw[this,o]
 have x:Hid (∀c f,(Builtin.clear_ #[29] f #[.slice (some ⟨g,(n-1)*2,none⟩) (n-(n-1)) c]).run prog (w.drew.setRow g e.toArray)=.ok (.tuple #[]) ((w.drew.setRow g e.toArray).setRow g (br b n p).toArray)):=λc f=>by
  rw[show n-(n-1)=1 by omega];have:=B1 (P:=prog) (w.drew.setRow g e.toArray) 29 f 136 _ underlying29 wU g ((n-1)*2) 1 c ω e.toArray 136 [.string empty,.string empty] (IK w.drew g b.toArray e.toArray 136 (0,0) k) κ τ (XP _ _);rw[this,<-t];simp
 have c:a=p+1->d=[]:=λh=>AB (by rw[m];omega)
 have y:=Z c;have v:=Z k;clear c r l o m A t s u k;go_enter func226,ntmps226
 by_cases l:a=p+1
 focus
  have i:(⟨g,0,none⟩:Addr)=⟨g,(p+1)*2,none⟩\/d=[]:=.inr (y.l l)
 rotate_left
 rotate_left
 all_goals
  go_wp2_with fail;refine AN (S:=λq=>True) κ (trivial) (λf=>?_);refine V 0 (.slice (some ⟨g,0,none⟩) n a) rfl f (V 1 (.int .i64 (p:Int)) rfl f (V 2 (.slice (some ⟨g,0,none⟩) p a) rfl f (V 3 (.slice (some ⟨g,0,none⟩) n a) rfl f (V 4 (.int .i64 ((p:Int)+1)) rfl f ?_))));simp only[J]
 focus
  refine V 5 (.slice (some ⟨g,0,none⟩) (n-(p+1)) (a-(p+1))) rfl f ?_;simp only[J];refine RD 6 rfl (λK c=>?_);refine pB rfl _ _ 29 29 rfl (.slice (some ⟨g,0,none⟩) p a) (.slice (some ⟨g,0,none⟩) (n-(p+1)) (a-(p+1))) (by simp[Act.eval,Act.put]) (by simp[Act.eval,Act.put]) (j.l _ _ _ i) ?_;refine c.l _ _ (trivial) (λh=>?_);clear c K
  try simp only[J]
  refine DH (rs:=[7]) κ σ ?_
 rotate_left
 focus
  refine V 5 (.slice (some ⟨g,(p+1)*2,none⟩) (n-(p+1)) (a-(p+1))) rfl f ?_;simp only[J];refine RD 6 rfl (λK c=>?_);refine pB rfl _ _ 29 29 rfl (.slice (some ⟨g,0,none⟩) p a) (.slice (some ⟨g,(p+1)*2,none⟩) (n-(p+1)) (a-(p+1))) (by simp[Act.eval,Act.put]) (by simp[Act.eval,Act.put]) (j.l _ _ _ (.inl rfl)) ?_;refine c.l _ _ (trivial) (λh=>?_);clear c K
  try simp only[J]
  refine DH (rs:=[7]) κ σ ?_
 rotate_left
 all_goals
  refine AY rfl (λK c=>?_) DE;go_simp;refine c.l _ _ h (λ_=>?_);clear c K
  try simp only[J]
  refine DN ?_;have c:=x.l;go_wp2_with fail;go_ret
  exact⟨by first|rfl|(rw[l];rfl),tF (qY (kr w.drew g _)) (kr _ g _),IK _ g _ _ 136 (0,0) (IK w.drew g b.toArray e.toArray 136 (0,0) v.l)⟩
end
section
open Tryz
open Go.RowKit Go.Lib
def af(a:List Value)(n p:Nat)(b c:ByteArray):List Value:=a.take (p*2)++[.string b,.string c]++(a.drop (p*2)).take ((n-p)*2)++a.drop (n*2+2)
theorem Ar(a:List Value)(n p:Nat)(h i:ByteArray)(j:n*2+2<=a.length)(k:p<n)(b c:List Value)(g:b=(a.drop (p*2)).take ((n-p)*2))(f:c=a.take ((p+1)*2)++b++a.drop ((p+1)*2+b.length)):b.length=(n-p)*2/\c.length=a.length/\c.take (p*2)++[.string h,.string i]++c.drop (p*2+2)=af a n p h i:=by
 have e:b.length=(n-p)*2:=by rw[g,BF,BV];omega
 have d:(a.take ((p+1)*2)).length=(p+1)*2:=by rw[BF];omega
 refine⟨e,by rw[f,AE,AE,d,BV,e];omega,?_⟩;unfold af;rw[<-g,f,BN (a.take ((p+1)*2)),JO (by rw[d];omega),GM,show min (p*2) ((p+1)*2)=p*2 by omega];rw[show p*2+2=(p+1)*2 by omega,EY d,e];rw[show(p+1)*2+(n-p)*2=n*2+2 by omega];simp
theorem Hm(g n a p c:Nat)(h i:ByteArray)(b:List Value)(w:World)(l:w.heap[g]?=some (.cells b.toArray 136 (0,0)))(hv:w.heap[c]?=some (.cells #[.string h,.string i] 136 (0,0)))(u:c≠g)(F:b.length=a*2)(hn:n<a)(hc:n<=100000)(G:p<n)(y:∀v∈b.take (n*2),v.oneCell'=true):Calls prog 235 #[.slice (some ⟨g,0,none⟩) n a,.int .i64 (p:Int),.slice (some ⟨c,0,none⟩) 1 1] w λe r=>e=.returned (.slice (some ⟨g,0,none⟩) (n+1) a)/\w.grownBy r (some g) /\
   r.heap[g]?=some (.cells (af b n p h i).toArray 136 (0,0)):=by
 have bE:¬((p:Int)=(n:Int)):=ω
 have I:(0:Int)<=(p:Int):=ω
 have L:(p:Int)<=(n:Int):=ω
 have M:(p:Int)<=(n:Int)+1:=ω
 have N:(p:Int)+1<=(n:Int)+1:=ω
 have O:(0:Int)<=(p:Int)+1:=ω
 have P:¬((a:Int)<(n:Int)+1):=ω
 have Q:(n:Int)+1<=(a:Int):=ω
 have R:(0:Int)<=(n:Int)+1:=ω
 have S:¬(a=p):=ω
 have T:¬(a=p+1):=ω
 have U:((p:Int)+1).toNat=p+1:=ω
 have X:IntKind.i64.wrap ((p:Int)+1)=(p:Int)+1:=by simp[IntKind.wrap,IntKind.bits,IntKind.signed];omega
 have H:((n:Int)+1).toNat=n+1:=ω
 have B:∀e d,(callFunc 236 #[.slice (some ⟨c,0,none⟩) 1 1,.slice (some ⟨g,(p+1)*2,none⟩) e d]).run prog w=.ok (.value (.bool false)) w:=λe d=>by
  rw[EJ func236 κ κ κ (e:=Extern.SlicesOverlaps.overlaps #[29,29] #[4]) κ,
   Lib.run_overlaps_apart w 29 4 136 underlying29 2 sizeOf136 ⟨c,0,none⟩ ⟨g,(p+1)*2,none⟩ 1 1 e d u 136 136 2 (a*2) (by simp[World.shape?,hv]) (by simp[World.shape?,l,F]) ω (by simp[World.frozen?,hv]) (by simp[World.frozen?,hv])]
  rfl
 obtain⟨f,m⟩:∃f,f=(b.drop (p*2)).take ((n-p)*2):=⟨_,rfl⟩;obtain⟨e,o⟩:∃e,e=b.take ((p+1)*2)++f++b.drop ((p+1)*2+f.length):=⟨_,rfl⟩;obtain⟨q,C,x⟩:=Ar b n p h i ω G f e m o
 have t:∀v∈f,v.oneCell'=true:=λv hv=>y v (by rw[m,show(n-p)*2=n*2-p*2 by omega,<-FP]at hv;exact EU hv)
 have s:∀j v,f[j]?=some v->w.drew.cell? ((⟨g,p*2,none⟩:Addr).add j)=some v:=λj v d=>by
  rw[GO];refine YW (w:=w.drew) (cur:=b) l ?_;rw[m,FR]at d
  split at d
  ·rw[FK]at d;exact d
  cases d
 have z:Hid (∀k,(Builtin.copy_ #[29,29] k #[.slice (some ⟨g,(p+1)*2,none⟩) (n+1-(p+1)) (a-(p+1)),.slice (some ⟨g,p*2,none⟩) (n+1-p) (a-p)]).run prog w.drew=.ok (goInt ((n-p:Nat):Int)) (w.drew.setRow g e.toArray)):=λk=>by
  have:=jp (P:=prog) w.drew 29 29 k 136 2 g ((p+1)*2) (n+1-(p+1)) (a-(p+1)) ⟨g,p*2,none⟩ (n+1-p) (a-p) b.toArray 136 f (n-p) underlying29 gt l (by simp only[KD];split<;>omega) q s (by rw[q];simp;omega) t;rw[this,o]
 have A:Hid (∀W:World,W.heap[g]?=some (.cells e.toArray 136 (0,0))->W.heap[c]?=some (.cells #[.string h,.string i] 136 (0,0))->∀k,(Builtin.copy_ #[29,29] k #[.slice (some ⟨g,p*2,none⟩) (n+1-p) (a-p),.slice (some ⟨c,0,none⟩) 1 1]).run prog W=.ok (goInt 1) (W.setRow g (af b n p h i).toArray)):=λW E D k=>by
  have:=jp (P:=prog) W 29 29 k 136 2 g (p*2) (n+1-p) (a-p) ⟨c,0,none⟩ 1 1 e.toArray 136 [.string h,.string i] 1 underlying29 gt E (by simp only[KD];split<;>omega) rfl (λj v d=>by rw[GO,BH];exact YW (cur:=[.string h,.string i]) D d) τ (XP _ _);rw[this,<-x];simp
 have k:=Z l;have v:=Z hv;clear s m o q C x t y l hv;go_enter func235,ntmps235;go_wp2_with (simp only[B]);refine AN (S:=λr=>True) κ (trivial) (λd=>?_);refine V 0 (.slice (some ⟨g,0,none⟩) (n+1) a) rfl d (V 1 (.int .i64 (p:Int)) rfl d (V 2 (.int .i64 1) rfl d (V 3 (.int .i64 ((p:Int)+1)) rfl d (V 4 (.slice (some ⟨g,(p+1)*2,none⟩) (n+1-(p+1)) (a-(p+1))) rfl d (V 5 (.slice (some ⟨g,0,none⟩) (n+1) a) rfl d (V 6 (.int .i64 (p:Int)) rfl d (V 7 (.slice (some ⟨g,p*2,none⟩) (n+1-p) (a-p)) rfl d ?_)))))));simp only[J];refine RD 8 rfl (λK j=>?_);refine step_copy_runI rfl _ _ 29 29 rfl (.slice (some ⟨g,(p+1)*2,none⟩) (n+1-(p+1)) (a-(p+1))) (.slice (some ⟨g,p*2,none⟩) (n+1-p) (a-p)) (by simp[Act.eval,Act.put]) (by simp[Act.eval,Act.put]) (z.l _) ?_;refine j.l _ _ (trivial) (λm=>?_);clear j K
 try simp only[J]
 refine DN ?_;have j:=IK w.drew g b.toArray e.toArray 136 (0,0) k.l;have o:(w.drew.setRow g e.toArray).heap[c]?=some (.cells #[.string h,.string i] 136 (0,0)):=(KR w.drew g c _ u).j v.l;have q:=A.l _ j o;clear d m;go_wp2_with fail;go_ret;exact⟨rfl,tF (qY (kr w.drew g _)) (kr _ g _),IK _ g _ _ 136 (0,0) j⟩
theorem Jf(n:Nat):(Builtin.zeroCells (Value.agg #[.string empty,.string empty]).cells n).size=n*2:=by simp[Builtin.zeroCells,Value.cells]
theorem Fi(g n p m:Nat)(k l:ByteArray)(a:List Value)(w:World)(u:w.heap[g]?=some (.cells a.toArray 136 (0,0)))(hv:w.heap[m]?=some (.cells #[.string k,.string l] 136 (0,0)))(hl:a.length=n*2)(hc:n<=100000)(hp:p<n)(Q:∀v∈a.take (n*2),v.oneCell'=true):Calls prog 235 #[.slice (some ⟨g,0,none⟩) n n,.int .i64 (p:Int),.slice (some ⟨m,0,none⟩) 1 1] w λe x=>∃(G:Nat) (o:List Value),e=.returned (.slice (some ⟨w.heap.size,0,none⟩) (n+1) G)/\n+1<=G/\G<=maxLen/\o.length=G*2/\o.take ((n+1)*2)=a.take (p*2)++[.string k,.string l]++a.drop (p*2)/\Below w.heap.size w x/\w.heap.size<x.heap.size /\
   x.heap[w.heap.size]?=some (.cells o.toArray 136 (0,0)):=by
 obtain⟨R,L,O,P,B⟩:=WP eo;have X:g<w.heap.size:=(AT.1 u).1;have cC:m<w.heap.size:=(AT.1 hv).1;have cU:¬((p:Int)=(n:Int)):=ω
 have cF:(0:Int)<=(p:Int):=ω
 have cH:(p:Int)<=(n:Int):=ω
 have cI:(p:Int)<=(n:Int)+1:=ω
 have cJ:(p:Int)+1<=(n:Int)+1:=ω
 have cL:(0:Int)<=(p:Int)+1:=ω
 have cO:(n:Int)<(n:Int)+1:=ω
 have cP:¬(n=p):=ω
 have cS:((p:Int)+1).toNat=p+1:=ω
 have cT:IntKind.i64.wrap ((p:Int)+1)=(p:Int)+1:=by simp[IntKind.wrap,IntKind.bits,IntKind.signed];omega
 have s:(n:Int)+1-(p:Int)=((n+1-p:Nat):Int):=ω
 have e:p+(n+1-p)=n+1:=ω
 have r:(Builtin.firstCells R.size p (.slice (some ⟨g,0,none⟩) p n)).run prog w.drew=.ok (a.take (p*2)).toArray w.drew:=by
  rw[P]
  exact GC w.drew 2 p ⟨g,0,none⟩ p n (a.take (p*2)) (by rw[BF];omega) (λj v i=>by
   rw[GO,BH];rw[FR]at i
   split at i
   ·exact YW (w:=w.drew) (cur:=a) u i
   ·cases i)
 obtain⟨G,c⟩:∃G,G=grownCap w (n+1) n 136:=⟨_,rfl⟩;have U:n+1<=G:=by rw[c];exact JA w _ _ _
 have H:G<=maxLen:=by rw[c];exact GY w (n+1) n _ (by unfold maxLen;omega)
 obtain⟨d,b⟩:∃d:List Value,d=a.take (p*2)++(Builtin.zeroCells (Value.agg #[.string empty,.string empty]).cells (n+1-p)).toList++(Builtin.zeroCells (Value.agg #[.string empty,.string empty]).cells (G-(n+1))).toList:=⟨_,rfl⟩;have q:d.toArray=(a.take (p*2)).toArray++Builtin.zeroCells (Value.agg #[.string empty,.string empty]).cells (n+1-p)++Builtin.zeroCells (Value.agg #[.string empty,.string empty]).cells (G-(n+1)):=by rw[b];apply IU;simp
 have W:d.length=G*2:=by rw[b];simp only[AE,BF,Array.length_toList,Jf];omega
 have I:d.take (p*2)=a.take (p*2):=by rw[b,BN];exact EK (by rw[BF];omega)
 have M:∀f,(Builtin.append_ #[29,3] f #[.slice (some ⟨g,0,none⟩) p n,.int .i64 ((n:Int)+1-(p:Int))]).run prog w=.ok (.slice (some ⟨w.heap.size,0,none⟩) (n+1) G) (w.drew.alloc (.cells d.toArray 136)):=λf=>by
  have h:=Lib.run_append_grow_zeros (P:=prog) w 29 3 f 136 R _ .i64 .i64 underlying29 underlying3 L O (some ⟨g,0,none⟩) p n (a.take (p*2)) r (n+1-p) ω ω ω ω (by rw[B];omega) (by rw[B,e];exact growslice_fits ω ω);rw[e,<-c]at h;rw[s,h,q]
 have bU:G<=9223372036854775807:=H;have cE:¬(G=p):=ω
 have bV:¬(G=p+1):=ω
 clear s e r b q c;obtain⟨b,c⟩:∃b,b=w.drew.alloc (.cells d.toArray 136):=⟨_,rfl⟩;rw[<-c]at M;have r:Below w.heap.size w b:=by rw[c];exact(AC _ _).drew.alloc (Y _) _
 have N:b.heap.size=w.heap.size+1:=by rw[c];rw[BB];rfl
 have z:b.heap[w.heap.size]?=some (.cells d.toArray 136 (0,0)):=by rw[c];exact AW w.drew _
 have K:b.heap[m]?=some (.cells #[.string k,.string l] 136 (0,0)):=(r.block m cC).j hv;have E:b.heap[g]?=some (.cells a.toArray 136 (0,0)):=(r.block g X).j u;clear c;obtain⟨e,s⟩:∃e,e=d.take (p*2)++[.string k,.string l]++d.drop (p*2+2):=⟨_,rfl⟩;have y:e.length=G*2:=by rw[s];simp only[AE,BF,BV,CA,AR];omega
 have D:∀f,(Builtin.copy_ #[29,29] f #[.slice (some ⟨w.heap.size,p*2,none⟩) (n+1-p) (G-p),.slice (some ⟨m,0,none⟩) 1 1]).run prog b=.ok (goInt 1) (b.setRow w.heap.size e.toArray):=λf=>by
  have:=jp (P:=prog) b 29 29 f 136 2 w.heap.size (p*2) (n+1-p) (G-p) ⟨m,0,none⟩ 1 1 d.toArray 136 [.string k,.string l] 1 underlying29 gt z (by simp only[KD];split<;>omega) rfl (λj v i=>by rw[GO,BH];exact YW (cur:=[.string k,.string l]) K i) τ (XP _ _);rw[this,s];simp
 obtain⟨c,h⟩:∃c,c=b.setRow w.heap.size e.toArray:=⟨_,rfl⟩;rw[<-h]at D;have A:c.heap[w.heap.size]?=some (.cells e.toArray 136 (0,0)):=by rw[h];exact IK b w.heap.size _ _ 136 (0,0) z
 have F:c.heap[g]?=some (.cells a.toArray 136 (0,0)):=by rw[h];exact(KR b w.heap.size g _ ω).j E
 have C:Below w.heap.size w c:=by rw[h];exact below_setRow r (Y _) _
 have cQ:c.heap.size=w.heap.size+1:=by rw[h];simpa[World.setRow] using N
 clear h;have q:(a.drop (p*2)).length=(n-p)*2:=by rw[BV];omega
 obtain⟨h,t⟩:∃h,h=e.take ((p+1)*2)++a.drop (p*2)++e.drop ((p+1)*2+(n-p)*2):=⟨_,rfl⟩
 have S:Hid (∀f,(Builtin.copy_ #[29,29] f #[.slice (some ⟨w.heap.size,(p+1)*2,none⟩) (n+1-(p+1)) (G-(p+1)),.slice (some ⟨g,p*2,none⟩) (n-p) (n-p)]).run prog c.drew=.ok (goInt ((n-p:Nat):Int)) (c.drew.setRow w.heap.size h.toArray)):=λf=>by
  have:=jp (P:=prog) c.drew 29 29 f 136 2 w.heap.size ((p+1)*2) (n+1-(p+1)) (G-(p+1)) ⟨g,p*2,none⟩ (n-p) (n-p) e.toArray 136 (a.drop (p*2)) (n-p) underlying29 gt A (by simp only[KD];split<;>omega) q (λj v i=>by rw[GO];rw[FK]at i;exact YW (w:=c.drew) (cur:=a) F i) (by rw[q];simp;omega) (λv hv=>Q v (by rw[AV ω];exact EU hv));rw[this,t,q]
 have f:h.length=G*2/\h.take ((n+1)*2)=a.take (p*2)++[.string k,.string l]++a.drop (p*2):=by
  have j:e.take ((p+1)*2)=a.take (p*2)++[.string k,.string l]:=by
   rw[s,I];exact EK τ
  have i:(e.take ((p+1)*2)++a.drop (p*2)).length=(n+1)*2:=by rw[AE,q,BF,y];omega
  refine⟨by rw[t,AE,i,BV,y];omega,?_⟩;rw[t,EK i,j]
 have i:=Z f;have T:=Z A;have v:=Z C;clear L O P B W I s y z K E A F r C N q t f u hv Q;go_enter func235,ntmps235
 go_wp2_with (first
  | (at_builtin;refine Lib.wpList_append_run _ rfl _ _ _ _ rfl _ _ rfl rfl _ _ (M _) ?_)
  | (at_builtin;refine wpList_copy_runI _ rfl _ _ 29 29 rfl _ _ rfl rfl (D _) ?_))
 refine AN (S:=λx=>True) κ (trivial) (λf=>?_);refine V 0 (.slice (some ⟨w.heap.size,0,none⟩) (n+1) G) rfl f (V 1 (.int .i64 (p:Int)) rfl f (V 2 (.int .i64 1) rfl f (V 3 (.int .i64 ((p:Int)+1)) rfl f (V 4 (.slice (some ⟨w.heap.size,(p+1)*2,none⟩) (n+1-(p+1)) (G-(p+1))) rfl f (V 5 (.slice (some ⟨g,0,none⟩) n n) rfl f (V 6 (.int .i64 (p:Int)) rfl f (V 7 (.slice (some ⟨g,p*2,none⟩) (n-p) (n-p)) rfl f ?_)))))));simp only[J];refine RD 8 rfl (λK j=>?_);refine step_copy_runI rfl _ _ 29 29 rfl (.slice (some ⟨w.heap.size,(p+1)*2,none⟩) (n+1-(p+1)) (G-(p+1))) (.slice (some ⟨g,p*2,none⟩) (n-p) (n-p)) (by simp[Act.eval,Act.put]) (by simp[Act.eval,Act.put]) (S.l _) ?_;refine j.l _ _ (trivial) (λq=>?_);clear j K
 try simp only[J]
 refine DN ?_;go_wp2_with fail;go_ret;exact⟨G,h,rfl,U,H,i.l.1,i.l.2,(below_setRow (v.l.drew) (Y _) _),by have:(c.drew.setRow w.heap.size h.toArray).heap.size=c.heap.size:=(by simp[World.setRow]);omega,IK c.drew _ _ _ 136 (0,0) T.l⟩
end
section
open Tryz
open Go.RowKit Go.Lib
variable {cur:List Value}{base n p:Nat}{w:World}
theorem WC(l:List Pr):(LH l).length=l.length*2:=XL l
theorem mp{a r:List Pr}(h:cur.take (n*2)=LH (a++r))(c:a.length=p)(e:n=p+r.length)(d:n*2<=cur.length):cur.take (p*2)=LH a/\(cur.drop (p*2)).take ((n-p)*2)=LH r:=by
 rw[VB]at h;have b:(LH a).length=p*2:=by rw[WC,c]
 constructor
 ·have:(cur.take (n*2)).take (p*2)=cur.take (p*2):=by rw[GM,show min (p*2) (n*2)=p*2 by omega]
  rw[<-this,h,EK b]
 have:(cur.drop (p*2)).take ((n-p)*2)=(cur.take (n*2)).drop (p*2):=by rw[FP];congr 1;omega
 rw[this,h,EY b]
theorem H5{a r:List Pr}{s0 s1:ByteArray}(h:cur.take (n*2)=LH (a++r))(f:a.length=p)(d:n=p+r.length)(g:n*2+2<=cur.length):(af cur n p s0 s1).take ((n+1)*2)=LH (a++[(s0,s1)]++r)/\(af cur n p s0 s1).length=cur.length:=by
 obtain⟨b,c⟩:=mp h f d ω;unfold af;rw[b,c];have e:(LH a++[Value.string s0,.string s1]++LH r).length=(n+1)*2:=by simp only[AE,WC,CA,AR];omega
 refine⟨?_,by rw[AE,e,BV];omega⟩;rw[EK e,VB,VB];rfl
theorem yF{a r:List Pr}{x:Pr}(h:cur.take (n*2)=LH (a++[x]++r))(c:a.length=p)(g:n=p+1+r.length)(b:n*2<=cur.length):(br cur n p).take ((n-1)*2)=LH (a++r)/\(br cur n p).length=cur.length:=by
 obtain⟨d,_⟩:=mp (a:=a) (r:=[x]++r) (by rw[h,BN]) c τ b;obtain⟨_,f⟩:=mp (a:=a++[x]) (r:=r) (p:=p+1) h (by simp[c]) g b;unfold br;rw[d,show p*2+2=(p+1)*2 by omega,show n-p-1=n-(p+1) by omega,f];have e:(LH a++LH r).length=(n-1)*2:=by simp only[AE,WC];omega
 refine⟨?_,by simp only[AE,WC,CA,AR,BV];omega⟩;rw[BN,EK e,VB]
theorem Hq{a r:List Pr}{k v b:ByteArray}(h:cur.take (n*2)=LH (a++[(k,v)]++r))(c:a.length=p)(d:n=p+1+r.length):(cur.set (p*2+1) (.string b)).take (n*2)=LH (a++[(k,b)]++r):=by
 rw[List.take_set,h,VB,VB,VB,VB,BN,BN,JF _ _ (by rw[WC];omega),WC,c,show p*2+1-p*2=1 by omega];rfl
theorem wn{v:Value}{b:List Pr}(h:w.ownsRow base 136 2 v b.length (LH b))(m:0<b.length):∃g a cur,v=.slice (some ⟨g,0,none⟩) b.length a/\base<=g/\w.heap[g]?=some (.cells (List.toArray cur) 136 (0,0))/\b.length<=a/\a<=maxLen/\cur.length=a*2/\cur.take (b.length*2)=LH b:=by
 rcases h.2 with ⟨_,e⟩|⟨g,a,cur,c,d,f,i,j,k,l⟩
 ·omega
 exact⟨g,a,cur.toList,c,d,by simpa using f,i,j,by simpa using k,l⟩
theorem ki{g a:Nat}{b:List Pr}(c:base<=g)(e:w.heap[g]?=some (.cells cur.toArray 136 (0,0)))(h:n<=a)(d:a<=maxLen)(f:cur.length=a*2)(j:cur.take (n*2)=LH b)(i:b.length=n):w.ownsRow base 136 2 (.slice (some ⟨g,0,none⟩) n a) b.length (LH b):=by
 subst i;exact⟨WC b,.inr ⟨g,a,cur.toArray,rfl,c,e,h,d,by simpa using f,by simpa using j⟩⟩
theorem nz{v:Value}{b:List Pr}(h:w.ownsRow base 136 2 v b.length (LH b)):∃a c,v=.slice a b.length c/\Prs w a b:=by
 rcases MO h with ⟨c,d⟩|⟨g,a,c,_,_,e⟩
 ·exact⟨none,0,by rw[c,d],.inl (AB d)⟩
 exact⟨_,a,c,e.prs⟩
theorem xf(l:List Pr):∀u∈LH l,u.oneCell'=true:=λu a=>by
 unfold LH at a;rw[IL]at a;obtain⟨x,_,b⟩:=a;exact XP x.1 x.2 u b
theorem wW(base:Nat)(a:Option Addr)(c:Nat)(b:List Pr)(h:Nat)(d f:ByteArray)(w:World)(own:w.ownsRow base 136 2 (.slice a b.length c) b.length (LH b))(hv:w.heap[h]?=some (.cells #[.string d,.string f] 136 (0,0)))(H:b.length<=1000)(m:base<=w.heap.size):Calls prog 235 #[.slice a b.length c,.int .i64 (b.length:Int),.slice (some ⟨h,0,none⟩) 1 1] w λe k=>∃i,e=.returned i/\k.ownsRow base 136 2 i (b++[(d,f)]).length (LH (b++[(d,f)]))/\Below base w k:=by
 obtain⟨I,g,l,o,q⟩:=WP eo;have v:=Z (AH g (AH l (AH o q)));clear g l o q;have F:(0:Int)<=(b.length:Int):=ω
 have E:b.length<=c:=by
  rcases own.2 with ⟨l,r⟩|⟨g,o,cur,l,_,_,q,_⟩
  ·omega
  cases l;exact q
 have x:=Z (λj u (C:[Value.string d,.string f][j]?=some u)=>show w.cell? ((⟨h,0,none⟩:Addr).add j)=some u by rw[GO,BH];exact YW (cur:=[.string d,.string f]) hv C);have l:=Z own;clear own
 have z:∀(A:Option Addr),A=a->Calls prog 235 #[.slice A b.length c,.int .i64 (b.length:Int),.slice (some ⟨h,0,none⟩) 1 1] w λe k=>∃i,e=.returned i/\k.ownsRow base 136 2 i (b++[(d,f)]).length (LH (b++[(d,f)]))/\Below base w k:=by
  intro A B;subst B
  cases A with
  | none =>
   go_enter func235,ntmps235;go_wp2_with (at_builtin;refine QN _ rfl _ _ 29 rfl base underlying29 v.l rfl ω _ b.length _ rfl l.l ⟨h,0,none⟩ 1 1 [.string d,.string f] rfl rfl x.l (XP _ _) m w.heap.size rfl ?_;intro s i D g e o y;have r:=Z g;have q:=Z e;clear g e o)
   all_goals
    go_ret;exact⟨.slice (some ⟨s,0,none⟩) (b.length+1) i,rfl,by simpa only[vf,AE,EQ] using r.l,YL q.l m (λk t=>(l.l.lt k t).1)⟩
  | some G =>
   go_enter func235,ntmps235;go_wp2_with (at_builtin;refine QN _ rfl _ _ 29 rfl base underlying29 v.l rfl ω _ b.length _ rfl l.l ⟨h,0,none⟩ 1 1 [.string d,.string f] rfl rfl x.l (XP _ _) m w.heap.size rfl ?_;intro s i D g e o y;have r:=Z g;have q:=Z e;clear g e o)
   all_goals
    go_ret;exact⟨.slice (some ⟨s,0,none⟩) (b.length+1) i,rfl,by simpa only[vf,AE,EQ] using r.l,YL q.l m (λk t=>(l.l.lt k t).1)⟩
 exact z a rfl
theorem vC(base:Nat)(v:Value)(b:List Pr)(d f:ByteArray)(w:World)(own:w.ownsRow base 136 2 v b.length (LH b))(q:OK b)(hl:b.length<=1000)(hb:base<=w.heap.size):Calls prog 233 #[.agg #[.string d,.string f],v] w λe t=>∃k,e=.returned k/\t.ownsRow base 136 2 k (ON (d,f,false) b).length (LH (ON (d,f,false) b))/\OK (ON (d,f,false) b)/\Below base w t:=by
 obtain⟨a,c,rfl,X⟩:=nz own
 have C:∀o,Below w.heap.size w (w.alloc o):=λo=>KW _ _
 have j:=Z (pE a b c d _ (X.z (C (.cells #[.string d,.string f] 170))) ω (tQ q d));go_enter func233,ntmps233;go_wp2_with fail;refine j.l.A ?_;rintro e h ⟨p,P,m,o,rfl,g⟩;have i:=(LU w #[.string d,.string f] 170).z g;have q0:=i.y 0;have q1:=i.y 1;have lr:=i.lt;have B:=LR own ((C _).j (g.A (C _).size));have K:Below base w h:=((C _).j (g.A (C _).size)).A hb;have cA:w.heap.size<h.heap.size:=lr;clear i j g
 by_cases H:p<b.length/\LY (NM b p) d=0
 ·obtain⟨i,r,A,l⟩:=nu q d p P m o 1 (by rw[AF H])
  have Q:∃u,(b.drop p).take 1=[(d,u)]:=A.resolve_left (by intro R;have:=BY List.length R;rw[BF,BV,AR]at this;omega);obtain⟨u,y⟩:=Q;have hF:=cq (d,f,false) (b.take p) ((b.drop p).take 1) (b.drop (p+1)) r A l;have s:=ko (d,f,false) (b.take p) ((b.drop p).take 1) (b.drop (p+1)) (by rw[<-i];exact q) r l;rw[<-i]at hF;obtain⟨g,N,cur,O,D,j,L,M,E,z⟩:=wn B ω
  cases O
  rw[AM H];have bU:(0:Int)<=(p:Int):=ω
  have U:(p:Int)<(b.length:Int):=ω
  have T:h.cell? ⟨g,p*2+1,none⟩=some (.string u):=by
   refine YW j ?_
   have:(cur.take (b.length*2))[p*2+1]?=some (.string u):=by
    rw[z,i,y,VB,VB,BN,CX (by rw[WC,BF];omega),WC,BF,show p*2+1-min p b.length*2=1 by rw[Nat.min_eq_left ω];omega];rfl
   rw[FR]at this
   split at this
   ·exact this
   cases this
  have S:h.frozen? ⟨g,p*2+1,none⟩=false:=by simp[World.frozen?,j]
  have G:=setCell_eq_setRow h g (p*2+1) cur.toArray 136 (0,0) (.string f) j
  have F:(h.setCell ⟨g,p*2+1,none⟩ (.string f)).ownsRow base 136 2 (.slice (some ⟨g,0,none⟩) b.length c) (ON (d,f,false) b).length (LH (ON (d,f,false) b)):=by
   rw[hF];unfold VL;simp only[EW,IJ];refine ki (cur:=cur.set (p*2+1) (.string f)) D ?_ L M (by simpa using E) ?_ ?_
   ·rw[G,IK h g _ _ 136 (0,0) j];simp
   ·rw[show b.length*2=b.length*2 from rfl]
    refine Hq (k:=d) (v:=u) (by rw[z];congr 1;rw[<-y];exact i) (by rw[BF];omega) (by rw[BV];omega)
   simp only[AE,BF,BV,CA,AR];omega
  have I:=Z F;have x:Hid (OK (ON (d,f,false) b)):=by show OK _;rw[hF];exact s
  have bT:g<h.heap.size:=(AT.1 j).1;clear F s hF i r A l y G j z q own B m o;go_wp2_with fail;go_ret;exact⟨_,rfl,I.l,x.l,K.setCell (p:=⟨g,p*2+1,none⟩) D _⟩
 obtain⟨i,r,A,l⟩:=nu q d p P m o 0 (by rw[AG H])
 have hF:=cq (d,f,false) (b.take p) ((b.drop p).take 0) (b.drop (p+0)) r A l;have s:=ko (d,f,false) (b.take p) ((b.drop p).take 0) (b.drop (p+0)) (by rw[<-i];exact q) r l;rw[<-i]at hF;rw[AJ H];unfold VL at hF s;simp only[EW,IJ,FX]at hF s i l;have y:ON (d,f,false) b=b.take p++[(d,f)]++b.drop p:=hF;have bU:(0:Int)<=(p:Int):=ω
 have F:(h.alloc (.cells #[.string d,.string f] 136)).heap[h.heap.size]?=some (.cells #[.string d,.string f] 136 (0,0)):=AW h _;have I:=B.alloc (.cells #[.string d,.string f] 136);have R:Below base w (h.alloc (.cells #[.string d,.string f] 136)):=K.alloc ω _
 have bI:Hid (Calls prog 235 #[.slice a b.length c,.int .i64 (p:Int),.slice (some ⟨h.heap.size,0,none⟩) 1 1] (h.alloc (.cells #[.string d,.string f] 136)) λe t=>∃k,e=.returned k/\t.ownsRow base 136 2 k (ON (d,f,false) b).length (LH (ON (d,f,false) b))/\Below base (h.alloc (.cells #[.string d,.string f] 136)) t):=by
  show Calls _ _ _ _ _;rcases JX P with bW|W
  ·subst bW
   rw[DA,List.drop_length,EA]at y;rw[y];exact wW base a c b h.heap.size d f _ I F hl τ
  obtain⟨g,N,cur,O,D,j,L,M,E,z⟩:=wn I ω
  cases O
  have Q:∀u∈cur.take (b.length*2),u.oneCell'=true:=by rw[z];exact xf b
  have bT:g<h.heap.size:=by have:=(B.lt g rfl).2;exact this
  have hcut:cur.take (b.length*2)=LH (b.take p++b.drop p):=by rw[FN];exact z
  have u:(b.take p).length=p:=by rw[BF];omega
  have U:b.length=p+(b.drop p).length:=by rw[BV];omega
  rcases JX L with S|T
  ·refine(Fi g b.length p h.heap.size d f cur _ j F (by rw[E,S]) ω W Q).A ?_ |> (λx=>by rw[<-S];exact x)
   rintro e t ⟨G,k,rfl,m,o,h3,h4,h5,h6,h7⟩;refine⟨_,rfl,?_,h5.A τ⟩;rw[y];refine ki (cur:=k) τ h7 m o h3 ?_ (by simp only[AE,BF,BV,CA,AR];omega);rw[h4,VB,VB];obtain⟨c1,x⟩:=mp hcut u U ω;rw[c1];rw[AV (by rw[BV];omega)]at x;rw[x];rfl
  refine(Hm g b.length c p h.heap.size d f cur _ j F ω E T ω W Q).A ?_
  rintro e t ⟨rfl,m,o⟩;obtain⟨G,t2⟩:=H5 (s0:=d) (s1:=f) hcut u U ω;refine⟨_,rfl,?_,YL m τ (λk x=>by cases x;exact D)⟩;rw[y];exact ki D o ω M (by rw[t2];exact E) G (by simp only[AE,BF,BV,CA,AR];omega)
 have x:Hid (OK (ON (d,f,false) b)):=by show OK _;rw[y];exact s
 have g:=Z R;clear s hF y i r A l q own B I m o F R K;go_wp2_with (go_at_call 235;refine bI.l.A ?_;rintro e l ⟨k,rfl,j,i⟩);go_ret;exact⟨_,rfl,j,x.l,g.l.j i⟩
end
section
open Tryz
open Go.RowKit Go.Lib
theorem rO(d:Nat)(v:Value)(b:List Pr)(f l:ByteArray)(w:World)(own:w.ownsRow d 136 2 v b.length (LH b))(i:OK b)(hl:b.length<=1000)(W:d<=w.heap.size):Calls prog 224 #[.agg #[.string f],v] w λe c=>∃a,e=.returned a/\c.ownsRow d 136 2 a (ON (f,l,true) b).length (LH (ON (f,l,true) b))/\OK (ON (f,l,true) b)/\Below d w c:=by
 obtain⟨a,c,rfl,N⟩:=nz own
 have q:∀o,Below w.heap.size w (w.alloc o):=λo=>KW _ _
 have h:=Z (pE a b c f _ (N.z (q (.cells #[.string f] 168))) ω (tQ i f));go_enter func224,ntmps224;go_wp2_with fail;refine h.l.A ?_;rintro e B ⟨p,K,t,x,rfl,g⟩;have lr:w.heap.size<B.heap.size:=AD σ g.size;have s:=LR own ((q _).j (g.A (q _).size));have E:Below d w B:=((q _).j (g.A (q _).size)).A W;clear h g
 by_cases o:p<b.length/\LY (NM b p) f=0
 ·obtain⟨j,k,m,n⟩:=nu i f p K t x 1 (by rw[AF o])
  have P:∃A,(b.drop p).take 1=[(f,A)]:=m.resolve_left (by intro U;have:=BY List.length U;rw[BF,BV,AR]at this;omega);obtain⟨A,I⟩:=P;have hF:=cq (f,l,true) (b.take p) ((b.drop p).take 1) (b.drop (p+1)) k m n;have y:=ko (f,l,true) (b.take p) ((b.drop p).take 1) (b.drop (p+1)) (by rw[<-j];exact i) k n;rw[<-j]at hF;unfold VL at hF y;simp only[GZ,EA]at hF y;obtain⟨g,S,r,T,F,G,Q,R,H,z⟩:=wn s ω
  cases T
  have D:∀u∈r.take (b.length*2),u.oneCell'=true:=by rw[z];exact xf b
  have hw:IntKind.i64.wrap ((p:Int)+1)=(p:Int)+1:=by simp[IntKind.wrap,IntKind.bits,IntKind.signed];omega
  rw[AM o];have O:=Z (yV g b.length c p r B G H Q ω o.1 D);obtain⟨L,M⟩:=yF (x:=(f,A)) (a:=b.take p) (r:=b.drop (p+1)) (n:=b.length) (p:=p) (by rw[z];congr 1;rw[<-I];exact j) (by rw[BF];omega) (by rw[BV];omega) ω;have C:=Z (AH L M);have h:=Z hF;have u:=Z y;have X:=o.1;clear hF y j k m n I G z i own s t x L M D;go_wp2_with (go_at_call 226;refine O.l.A ?_;rintro e y ⟨rfl,j,m⟩);go_ret;refine⟨_,rfl,?_,by rw[h.l];exact u.l,E.j (YL j ω (λk n=>by cases n;exact F))⟩;rw[h.l];exact ki F m ω R (by rw[C.l.2];exact H) C.l.1 (by rw[AE,BF,BV];omega)
 obtain⟨j,k,m,n⟩:=nu i f p K t x 0 (by rw[AG o])
 have hF:=cq (f,l,true) (b.take p) ((b.drop p).take 0) (b.drop (p+0)) k m n;rw[<-j]at hF;unfold VL at hF;simp only[GZ,EA,FX,FN]at hF;rw[AJ o];have h:=Z hF;have g:=Z s;have u:=Z i;clear hF j k m n i own s t x;go_wp2_with fail;go_ret;exact⟨_,rfl,by rw[h.l];exact g.l,by rw[h.l];exact u.l,E⟩
theorem pD(j:Nat)(v a:Value)(w:World):Sem.run prog (method (j+1) 170 (.agg #[v,a]) "loop.example/kilnstone/impl.apply") w=.ok (233,.agg #[v,a]) w:=κ
theorem pU(j:Nat)(v:Value)(w:World):Sem.run prog (method (j+1) 168 (.agg #[v]) "loop.example/kilnstone/impl.apply") w=.ok (224,.agg #[v]) w:=κ
theorem qN(a:Option Addr)(n c:Nat)(h:n<=100)(w:World):Calls prog 113 #[.slice a n c] w λe b=>(∃x,e=.returned x)/\b=w:=by
 have b:((n:Int)<=100):=ω
 go_enter func113,ntmps113;go_wp2_with fail;go_end0;exact⟨⟨_,rfl⟩,rfl⟩
theorem p9(a:Option Addr)(n c:Nat)(h:100<n)(w:World):Calls prog 113 #[.slice a n c] w λe b=>e=.panicked [{ v:=.iface 162 (.int .i64 2),recovered:=false }]/\b=w:=by
 have b:((100:Int)<n):=ω
 go_enter func113,ntmps113;go_wp2_with fail;simp[bodyPost]
theorem vJ(p q:Addr)(w:World):CallsD prog 112 #[.pointer (some p),.pointer (some q)] .returning w λe a b=>e=.returned (.tuple #[])/\a=.returning/\b=w:=by
 refine callsD_of_wpS func112 rfl λc₀ b a=>?_
 apply wpS_seq
 apply wpS_region
 simp[wpOpsS,go_sem,recoverD,a,ntmps112,Exit.thenS];refine wpS_of_wp ?_;simp only[Array.replicate,List.replicate,BT,DC,DG,FE,DZ,DQ];go_wp2
 cases c₀
 simp_all [bodyPostS,results,results112]
theorem tA(p q:Addr)(a:List PanicEntry)(w:World)(x:Value)(y:Int)(h:w.cell? p=some x)(i:w.cell? q=some (.int .i64 y))(f:w.frozen? p=false)(g:w.frozen? q=false)(d:p≠q):CallsD prog 112 #[.pointer (some p),.pointer (some q)] (.panicking ({ v:=.iface 162 (.int .i64 2),recovered:=false }::a)) w λe b c =>
   e=.returned (.tuple #[])/\b=.panicking ({ v:=.iface 162 (.int .i64 2),recovered:=true }::a)/\c=(w.setCell p (.slice none 0 0)).setCell q (.int .i64 2):=by
 have c:∀w,(Instr.typeAssert (.iface 162 (.int .i64 2)) 20 162 true).run prog w=.ok (.tuple #[.int .i64 2,.bool true]) w:=λw=>κ
 refine callsD_of_wpS func112 rfl λc₀ e b=>?_
 apply wpS_seq
 apply wpS_region
 simp[wpOpsS,go_sem,recoverD,b,ntmps112,Exit.thenS];refine wpS_of_wp ?_;simp only[Array.replicate,List.replicate,BT,DC,DG,FE,DZ,DQ];go_wp2
 cases c₀
 simp_all [bodyPostS,results,results112]
end
section
open Tryz
open Go.RowKit
theorem Row.below3{w d:World}{N g:Nat}{b:List Value}(h:Row w g b)(c:g<N)(a:Below N w d):Row d g b :=⟨AD h.lt a.size,λi v hv=>(a.cell (p:=⟨g,i,none⟩) c).j (h.cell i v hv),λi e=>(a.frozen (p:=⟨g,i,none⟩) c).j (h.froz i e)⟩
theorem xM{w:World}{b o:Nat}{c:List Pr}(h:Prs w (some ⟨b,o,none⟩) c):∀j u,(LH c)[j]?=some u->w.cell? ((⟨b,o,none⟩:Addr).add j)=some u:=λj u a=>by
 rw[GO];have k:j<c.length*2:=by have:=(CW.1 a).1;rw[WC]at this;exact this
 obtain⟨l,m,n,p,e,g,i,d⟩:=h.at (k:=j / 2) ω
 cases e
 have f:=ja c (j / 2) ω;rcases(show j=j / 2*2\/j=j / 2*2+1 by omega) with e|e
 ·rw[e]at a⊢
  rw[f.1,<-d.l]at a;rw[<-a];exact g
 rw[e]at a⊢
 rw[f.2,<-d.l]at a;rw[<-a,<-KO];exact i
theorem Eu(t e f:TypeId)(b:prog.underlying t=some (.slice e))(d:((prog.info? e).map (·.size)).isSome=true)(a:Option Addr)(c:Nat)(w:World):(Builtin.append_ #[t,t] f #[.slice none 0 0,.slice a 0 c]).run prog w=.ok (.slice none 0 0) w:=by
 cases hq:prog.info? e with
 | none=>simp[hq]at d
 | some i =>
  cases a with
  | none=>simp[Builtin.append_,FZ b,Builtin.lenOf,Builtin.firstCells,sizeOf,typeInfo,hq]
  | some g=>simp[Builtin.append_,FZ b,Builtin.lenOf,Builtin.firstCells,sizeOf,typeInfo,hq,loadCells,loadCellsFrom]
structure TB(w wr:World)(y:Value)(cur:List Pr):Prop where
 own:wr.ownsRow (w.heap.size+1+1+1) 136 2 y cur.length (LH cur)
 asc:OK cur
 r1:Row wr (w.heap.size+1) [.slice none 0 0]
 r2:Row wr (w.heap.size+1+1) [.int .i64 0]
 bel:Below w.heap.size w wr
theorem TB.post{w wr:World}{c:Option Addr}{d:Nat}{a:List Pr}{x:Value}(h:TB w wr (.slice c a.length d) a):YU w ((wr.setCell ⟨w.heap.size+1,0,none⟩ (.slice c a.length d)).setCell ⟨w.heap.size+1+1,0,none⟩ x) (.returned (.tuple #[.agg #[.slice c a.length d],.int .i64 0])) a 0:=by
 have i:a.length<=d:=by
  rcases h.own.2 with ⟨b,f⟩|⟨g,e,k,b,_,_,j,_⟩
  ·rw[f];omega
  cases b;exact j
 have j:OwnS wr c (LH a):=by
  rcases MO h.own with ⟨_,f⟩|⟨g,e,b,_,_,k⟩
  ·exact .inl (by rw[AB f];rfl)
  cases b;exact .inr ⟨g,rfl,k⟩
 have f:∀g,c=some ⟨g,0,none⟩->LH a≠[]->w.heap.size+1+1<g:=λg b e=>by subst b;have:=(h.own.lt g rfl).1;omega
 refine⟨c,d,rfl,i,(j.setA _ (λg b e=>by have:=f g b e;show w.heap.size+1≠g;omega) _).setA _ (λg b e=>by have:=f g b e;show w.heap.size+1+1≠g;omega) _,λg b=>?_,(h.bel.setCell (p:=⟨w.heap.size+1,0,none⟩) (by show w.heap.size<=w.heap.size+1;omega) _).setCell (p:=⟨w.heap.size+1+1,0,none⟩) (by show w.heap.size<=w.heap.size+1+1;omega) _⟩;unfold blk at b
 split at b
 ·cases b
 cases c with
 | none=>cases b
 | some e =>
  simp at b;subst b;have:=(h.own.lt e.block rfl).1;omega
theorem Ap(a:Option Addr)(g:List Pr)(c:Nat)(O:Option Addr)(b:List Ch)(c2:Nat)(w:World)(h:Prs w a g)(G:LV g=true)(u:Chs w O b)(H:NL b=true):Calls prog 74 #[LQ a g.length c,.slice O b.length c2] w λe d=>YU w d e (OA g b) (OE g b):=by
 obtain⟨i0,d,f,i,j⟩:=WP eo;have E:=Z (AH d (AH f (AH i j)));clear d f i j;have dH:g.length<=100:=(ZT G).1;have cT:b.length<=20:=(WO H).1.2;have i:=vG G;have R:=Z (re g b);unfold LQ;unfold OA OE;rw[G,H];simp only[Bool.and_self,GZ]
 have dL:∀(W:Fn) (first C:Array Value) (w:World),(Instr.makeFunc W first C).run prog w=.ok (.func W first C) w:=λ_ _ _ _=>rfl
 obtain⟨s,t⟩:∃s,s=((w.alloc (.cells #[.slice a g.length c] 31)).alloc (.cells #[.slice none 0 0] 31)).alloc (.cells #[.int .i64 0] 3):=⟨_,rfl⟩;have cZ:s.heap.size=w.heap.size+1+1+1:=by rw[t];simp
 have d:Below w.heap.size w s:=by rw[t];exact((KW _ _).alloc σ _).alloc ξ _
 have f:Row s w.heap.size [.slice a g.length c]:=by rw[t];exact((LU w _ _).alloc _).alloc _
 have j:Row s (w.heap.size+1) [.slice none 0 0]:=by rw[t];exact(fj (w:=w.alloc _) σ).alloc _
 have k:Row s (w.heap.size+1+1) [.int .i64 0]:=by rw[t];exact fj (w:=(w.alloc _).alloc _) σ
 have q0:=f.y 0;have l0:=f.lt;have T:=Z j;have U:=Z k;have Q:=Z d;have S:=Z (h.z d);have P:=Z i;clear f j k d i G H
 by_cases X:g.length=0
 case pos =>
  obtain rfl:=AB X;have F:Hid (TB w s (.slice none 0 0) []):=⟨CE _ _ _ _,P.l,T.l,U.l,Q.l⟩;go_enter_defers func74,ntmps74;go_wp2_with (at_builtin;refine Lib.wpList_append_run _ rfl _ _ 29 29 rfl _ _ rfl rfl _ _ (Eu _ 136 _ underlying29 κ a c _) ?_);simp only[AR]at t;rw[<-t];clear t q0 l0;go_wp2_with fail;go_loopw [6,15] (λy i wr=>∃k:Nat,k<=b.length/\i=.int .i64 (k:Int)/\TB w wr y (ML [] (b.take k))) (λ_ i _=>b.length-(intOf i).toNat)
  case atStart =>
   exact⟨0,AO _,rfl,F.l⟩
  case round =>
   obtain⟨k,L,rfl,f⟩:=hrel;have K:=R.l k;have cY:w.heap.size+1<wr.heap.size:=f.r1.lt;have bJ:w.heap.size+1+1<wr.heap.size:=f.r2.lt
   by_cases A:k<b.length
   ·obtain⟨I,oo,o,p,D,rfl,cO,cP,cQ,j⟩:=(u.z f.bel).at A
    have bH:I<w.heap.size:=by
     rcases u with h|⟨l,m,d,u,_⟩
     ·subst h;simp at A
     cases d;exact u
    have bI:(k:Int)<(b.length:Int):=ω
    have cS:(0:Int)<=(k:Int):=ω
    have n:ML [] (b.take (k+1))=ON (o,p,D) (ML [] (b.take k)):=by rw[mi b k (empty,empty,false) A,db,<-j.l]
    have x:=Z n;obtain⟨l,m⟩:∃l,l=ML [] (b.take k):=⟨_,rfl⟩;rw[<-m]at f x K;have d:=Z f;clear n m j f;have aT:=pD;have aU:=pU
    cases D with
    | false =>
     go_wp2_with (first|(go_at_call 76;refine(rm o p _).A ?_;rintro e r ⟨rfl,q⟩;have j:=((AC wr.heap.size wr).alloc (Y _) (.cells #[.string o,.string p,.bool false] 45)).j (q.A σ);have v:=Z (vC (w.heap.size+1+1+1) _ l o p r (LR d.l.own j) d.l.asc ω (by have:=j.size;omega));have m:=Z j;clear q j)|(go_at_call 233;refine v.l.A ?_;rintro e N ⟨M,rfl,B,z,n⟩))
     refine⟨⟨k+1,ω,ν,?_⟩,by simp[intOf];omega⟩;rw[x.l];exact⟨B,z,(d.l.r1.z m.l).below3 ω n,(d.l.r2.z m.l).below3 ω n,d.l.bel.j ((m.l.A d.l.bel.size).j (n.A ω))⟩
    | true =>
     go_wp2_with (first|(go_at_call 76;refine(tk o p _).A ?_;rintro e r ⟨rfl,q⟩;have j:=((AC wr.heap.size wr).alloc (Y _) (.cells #[.string o,.string p,.bool true] 45)).j (q.A σ);have v:=Z (rO (w.heap.size+1+1+1) _ l o p r (LR d.l.own j) d.l.asc ω (by have:=j.size;omega));have m:=Z j;clear q j)|(go_at_call 224;refine v.l.A ?_;rintro e N ⟨M,rfl,B,z,n⟩))
     refine⟨⟨k+1,ω,ν,?_⟩,by simp[intOf];omega⟩;rw[x.l];exact⟨B,z,(d.l.r1.z m.l).below3 ω n,(d.l.r2.z m.l).below3 ω n,d.l.bel.j ((m.l.A d.l.bel.size).j (n.A ω))⟩
   have m:k=b.length:=ω
   subst m;rw[DA]at f;obtain⟨v,z,rfl,n⟩:=nz f.own;have j:=f.r1.y 0;have o:=f.r1.E 0;have l:=f.r2.y 0;have p:=f.r2.E 0;have d:=Z f;clear f n
   by_cases f:(ML [] b).length<=100
   focus
    go_wp2_with (go_at_call 113;refine(qN _ _ _ f _).A ?_;rintro e r ⟨⟨x,rfl⟩,rfl⟩)
   rotate_left
   focus
    go_wp2_with (go_at_call 113;refine(p9 _ _ _ ω _).A ?_;rintro e r ⟨rfl,rfl⟩)
   rotate_left
   all_goals
    refine leaves_cons (f:=112) (args:=#[.pointer (some ⟨w.heap.size+1,0,none⟩),.pointer (some ⟨w.heap.size+1+1,0,none⟩)]) σ (by simp[go_sem]) ?_
   ·refine(vJ _ _ _).A ?_
    rintro e q n ⟨rfl,rfl,rfl⟩;simp[Leaves,settle,results,results74,go_sem,j,l];exact d.l.post
   refine(tA _ _ [] _ _ _ j l o p σ).A ?_
   rintro e q n ⟨rfl,rfl,rfl⟩;simp[Leaves,settle,results,results74,go_sem,j,l];exact cd rfl ((d.l.bel.setCell (p:=⟨w.heap.size+1,0,none⟩) (by show w.heap.size<=w.heap.size+1;omega) _).setCell (p:=⟨w.heap.size+1+1,0,none⟩) (by show w.heap.size<=w.heap.size+1+1;omega) _)
 case neg =>
  have cW:=S.l;rcases cW with h0|⟨ab,ao,rfl,o,n⟩
  ·exact absurd (by rw[h0];rfl) X
  have l:=Z (xM S.l);have cV:0<g.length:=ω
  go_enter_defers func74,ntmps74;go_wp2_with (at_builtin;rw[<-t];refine wpList_append_lies _ rfl _ _ 29 rfl (w.heap.size+1+1+1) 136 i0 (.agg #[.string empty,.string empty]) 2 32 underlying29 E.l.1 E.l.2.1 E.l.2.2.1 E.l.2.2.2 rfl ω _ 0 [] rfl (CE _ _ _ _) ⟨ab,ao,none⟩ g.length c (LH g) rfl (WC g) l.l (xf g) cV (by unfold maxLen;omega) ω ω s.heap.size rfl ?_;intro g9 aY w9 f j m cU;have d:Below s.heap.size s w9:=YL j (Y _) (λk L=>by cases L);have F:Hid (TB w w9 (.slice (some ⟨g9,0,none⟩) (0+g.length) aY) g):=Z (by rw[BH]at f;exact⟨by rw[BH];simpa using f,P.l,T.l.z d,U.l.z d,Q.l.j (d.A ω)⟩);clear f j m d);clear t q0 l0 o n l;go_wp2_with fail;go_loopw [6,15] (λy i wr=>∃k:Nat,k<=b.length/\i=.int .i64 (k:Int)/\TB w wr y (ML g (b.take k))) (λ_ i _=>b.length-(intOf i).toNat)
  case atStart =>
   exact⟨0,AO _,rfl,by rw[BH]at F;exact F.l⟩
  case round =>
   obtain⟨k,L,rfl,f⟩:=hrel;have K:=R.l k;have cY:w.heap.size+1<wr.heap.size:=f.r1.lt;have bJ:w.heap.size+1+1<wr.heap.size:=f.r2.lt
   by_cases A:k<b.length
   ·obtain⟨I,oo,o,p,D,rfl,cO,cP,cQ,j⟩:=(u.z f.bel).at A
    have bH:I<w.heap.size:=by
     rcases u with h|⟨l,m,d,u,_⟩
     ·subst h;simp at A
     cases d;exact u
    have bI:(k:Int)<(b.length:Int):=ω
    have cS:(0:Int)<=(k:Int):=ω
    have n:ML g (b.take (k+1))=ON (o,p,D) (ML g (b.take k)):=by rw[mi b k (empty,empty,false) A,db,<-j.l]
    have x:=Z n;obtain⟨l,m⟩:∃l,l=ML g (b.take k):=⟨_,rfl⟩;rw[<-m]at f x K;have d:=Z f;clear n m j f;have aT:=pD;have aU:=pU
    cases D with
    | false =>
     go_wp2_with (first|(go_at_call 76;refine(rm o p _).A ?_;rintro e r ⟨rfl,q⟩;have j:=((AC wr.heap.size wr).alloc (Y _) (.cells #[.string o,.string p,.bool false] 45)).j (q.A σ);have v:=Z (vC (w.heap.size+1+1+1) _ l o p r (LR d.l.own j) d.l.asc ω (by have:=j.size;omega));have m:=Z j;clear q j)|(go_at_call 233;refine v.l.A ?_;rintro e N ⟨M,rfl,B,z,n⟩))
     refine⟨⟨k+1,ω,ν,?_⟩,by simp[intOf];omega⟩;rw[x.l];exact⟨B,z,(d.l.r1.z m.l).below3 ω n,(d.l.r2.z m.l).below3 ω n,d.l.bel.j ((m.l.A d.l.bel.size).j (n.A ω))⟩
    | true =>
     go_wp2_with (first|(go_at_call 76;refine(tk o p _).A ?_;rintro e r ⟨rfl,q⟩;have j:=((AC wr.heap.size wr).alloc (Y _) (.cells #[.string o,.string p,.bool true] 45)).j (q.A σ);have v:=Z (rO (w.heap.size+1+1+1) _ l o p r (LR d.l.own j) d.l.asc ω (by have:=j.size;omega));have m:=Z j;clear q j)|(go_at_call 224;refine v.l.A ?_;rintro e N ⟨M,rfl,B,z,n⟩))
     refine⟨⟨k+1,ω,ν,?_⟩,by simp[intOf];omega⟩;rw[x.l];exact⟨B,z,(d.l.r1.z m.l).below3 ω n,(d.l.r2.z m.l).below3 ω n,d.l.bel.j ((m.l.A d.l.bel.size).j (n.A ω))⟩
   have m:k=b.length:=ω
   subst m;rw[DA]at f;obtain⟨v,z,rfl,n⟩:=nz f.own;have j:=f.r1.y 0;have o:=f.r1.E 0;have l:=f.r2.y 0;have p:=f.r2.E 0;have d:=Z f;clear f n
   by_cases f:(ML g b).length<=100
   focus
    go_wp2_with (go_at_call 113;refine(qN _ _ _ f _).A ?_;rintro e r ⟨⟨x,rfl⟩,rfl⟩)
   rotate_left
   focus
    go_wp2_with (go_at_call 113;refine(p9 _ _ _ ω _).A ?_;rintro e r ⟨rfl,rfl⟩)
   rotate_left
   all_goals
    refine leaves_cons (f:=112) (args:=#[.pointer (some ⟨w.heap.size+1,0,none⟩),.pointer (some ⟨w.heap.size+1+1,0,none⟩)]) σ (by simp[go_sem]) ?_
   ·refine(vJ _ _ _).A ?_
    rintro e q n ⟨rfl,rfl,rfl⟩;simp[Leaves,settle,results,results74,go_sem,j,l];exact d.l.post
   refine(tA _ _ [] _ _ _ j l o p σ).A ?_
   rintro e q n ⟨rfl,rfl,rfl⟩;simp[Leaves,settle,results,results74,go_sem,j,l];exact cd rfl ((d.l.bel.setCell (p:=⟨w.heap.size+1,0,none⟩) (by show w.heap.size<=w.heap.size+1;omega) _).setCell (p:=⟨w.heap.size+1+1,0,none⟩) (by show w.heap.size<=w.heap.size+1+1;omega) _)
theorem p5(a:Option Addr)(f:List Pr)(c:Nat)(s:Option Addr)(b:List Ch)(y:Nat)(w:World)(h:Prs w a f)(P:f.length<=1048576)(Q:∀x∈f,x.1.size<=1048576/\x.2.size<=1048576)(A:Chs w s b)(N:b.length<=1048576)(O:∀x∈b,x.1.size<=1048576/\x.2.1.size<=1048576):Calls prog 30 #[LQ a f.length c,.slice s b.length y] w λe d=>YU w d e (OA f b) (OE f b):=by
 have o:=Z (λd i=>nn a f c d i P Q);have v:=Z (λd i=>dk s b y d i N O);have u:=Z (λd i g j k=>Ap a f c s b y d i g j k)
 have i:∀d j,Below w.heap.size w ((w.alloc d).alloc j):=λd j=>(KW _ _).alloc σ _
 obtain⟨R,n⟩:∃R,R=OA f b:=⟨_,rfl⟩;obtain⟨C,j⟩:∃C,C=OE f b:=⟨_,rfl⟩;rw[<-n,<-j]at u⊢;unfold YU at u;unfold LQ at u⊢
 cases g:LV f with
 | false =>
  have p:C=1:=by rw[j];unfold OE;rw[g];rfl
  have z:R=[]:=by rw[n];unfold OA;rw[<-j,p];rfl
  subst z p;rw[g]at o;clear n j;go_enter func30,ntmps30;go_wp2_with (go_at_call 71;refine(o.l _ (h.z (i _ _))).A ?_;rintro e r ⟨rfl,d⟩;have q:r.cell? ⟨w.heap.size+1,0,none⟩=some (.slice none 0 0):=NX d γ σ;have F:r.frozen? ⟨w.heap.size+1,0,none⟩=false:=SC d γ σ;have G:w.heap.size+1<r.heap.size:=AD σ d.size);refine AI (v:=.tuple #[LQ none 0 0,.int .i64 1]) (by simp[results,results30,go_sem,LQ,q]) rfl (cd rfl ?_);exact((i _ _).j (d.A τ)).setCell (p:=⟨w.heap.size+1,0,none⟩) (by show w.heap.size<=w.heap.size+1;omega) _
 | true =>
  rw[g]at o
  cases k:NL b with
  | false =>
   have p:C=1:=by rw[j];unfold OE;rw[g,k];rfl
   have z:R=[]:=by rw[n];unfold OA;rw[<-j,p];rfl
   subst z p;rw[k]at v;clear n j;go_enter func30,ntmps30
   go_wp2_with (first|(go_at_call 71;refine(o.l _ (h.z (i _ _))).A ?_;rintro e r ⟨rfl,d⟩;have m:=Z d;clear d)|(go_at_call 29;refine(v.l _ (A.z ((i _ _).j (m.l.A τ)))).A ?_;rintro e l ⟨rfl,x⟩;have d:=m.l;have t:=d.j (x.A d.size);have q:l.cell? ⟨w.heap.size+1,0,none⟩=some (.slice none 0 0):=NX t γ σ;have F:l.frozen? ⟨w.heap.size+1,0,none⟩=false:=SC t γ σ;have G:w.heap.size+1<l.heap.size:=AD σ t.size))
   refine AI (v:=.tuple #[LQ none 0 0,.int .i64 1]) (by simp[results,results30,go_sem,LQ,q]) rfl (cd rfl ?_);exact((i _ _).j (t.A τ)).setCell (p:=⟨w.heap.size+1,0,none⟩) (by show w.heap.size<=w.heap.size+1;omega) _
  | true =>
   rw[k]at v;clear n j;have L:=Z g;have H:=Z k;clear g k;go_enter func30,ntmps30
   go_wp2_with (first|(go_at_call 71;refine(o.l _ (h.z (i _ _))).A ?_;rintro e r ⟨rfl,d⟩;have m:=Z d;clear d)|(go_at_call 29;refine(v.l _ (A.z ((i _ _).j (m.l.A τ)))).A ?_;rintro e l ⟨rfl,x⟩;have j:=Z (m.l.j (x.A m.l.size));clear x;have T:l.cell? ⟨w.heap.size,0,none⟩=some (.slice a f.length c):=NX j.l γ τ)|(go_at_call 74;have g:Below w.heap.size w l:=(i _ _).j (j.l.A τ);refine(u.l _ (h.z g) L.l (A.z g) H.l).A ?_;rintro e p ⟨t,E,rfl,M,D,B,n⟩;have k:=j.l.j (n.A j.l.size);have q:p.cell? ⟨w.heap.size+1,0,none⟩=some (.slice none 0 0):=NX k γ σ;have F:p.frozen? ⟨w.heap.size+1,0,none⟩=false:=SC k γ σ;have G:w.heap.size+1<p.heap.size:=AD σ k.size;have S:w.heap.size+1<l.heap.size:=AD σ j.l.size;have K:=Z D;have z:=Z B;have I:=Z (g.j (n.A g.size));clear D B n k g))
   refine AI (v:=.tuple #[LQ t R.length E,.int .i64 C]) (by simp[results,results30,go_sem,LQ,q]) rfl ⟨t,E,rfl,M,?_,λg d=>by have:=z.l g d;omega,?_⟩
   ·exact K.l.setA _ (λg d k=>by have:=z.l g (by subst d;exact MS _ _ _ (sp k));show w.heap.size+1≠g;omega) _
   exact I.l.setCell (p:=⟨w.heap.size+1,0,none⟩) (by show w.heap.size<=w.heap.size+1;omega) _
theorem It(a:Option Addr)(d:List ByteArray)(c:Nat)(w:World)(h:Strs w a d)(hl:d.length<=1000)(hs:∀e∈d,e.size<=1048576):Calls prog 95 #[.slice a d.length c] w λe b=>pz w b e (MX d []):=by
 obtain⟨r,U⟩:∃r,Hid (r=MX d []):=⟨_,Z rfl⟩;rw[<-U.l];have HH:=Z h;have HS:=Z hs;clear h hs;go_enter func95,ntmps95;go_wp2;go_loopw [13] (λb wr=>∃(i:Nat) (f:List Pr) (A:Option Addr) (B:Nat) (W:World),W=wr/\b=.int .i64 (i:Int)/\i<=d.length/\LV f=true/\Hid (MX (d.drop i) f=r)/\FdB w W f A B) (λb _=>((d.length:Int)-intOf b).toNat)
 case atStart =>
  exact⟨0,[],none,0,_,rfl,rfl,AO _,TQ,by show _=_;rw[U.l];rfl,FdB.new w⟩
 case round =>
  obtain⟨i,f,A,B,wr,rfl,rfl,hi,g,v,D⟩:=hrel;have p:=Z D;have S:=D.st.y 0;have P:=D.st.lt;have I:=D.rb.y 0;have O:=D.rb.lt;have N:=D.rb.E 0;have b:=VS g;have cA:=b.1;have bU:=Z g;have bE:=Z b.2;clear g b D
  by_cases R:i<d.length
  ·have aU:(i:Int)<(d.length:Int):=ω
   have bY:(0:Int)<=(i:Int):=ω
   have cC:IntKind.i64.wrap ((i:Int)+1)=(i:Int)+1:=by simp[IntKind.wrap,IntKind.bits,IntKind.signed];omega
   obtain⟨b,o,s,rfl,K,T⟩:=(HH.l.z p.l.be).at R;have bI:s.size<=1048576:=HS.l s (by rw[T.l];simp[List.getD,R]);have g:d.drop i=s::d.drop (i+1):=by rw[T.l];simp[List.getD,R]
   have bV:b<wr.heap.size:=by have:=DI wr _ K;simpa using this
   have y:=Z (λj=>By s j bI);rw[pP]at y;rw[g]at v;have bT:=Z g;clear g
   cases hR:RU s with
   | none =>
    rw[hR]at y;have q:Hid (r=none):=by show _=_;rw[<-v.l];exact ud hR
    clear hR;go_wp2_with fail;refine(y.l _).A ?_;rintro e w5 ⟨ab,cb,rfl,_,_,t⟩;simp only[JJ,IV,AR];have j:=p.l.z t;have x:=Z j;have z:=j.rb.y 0;have Q:=j.rb.lt;have F:=j.rb.E 0;clear S P I O N j t K;go_wp2;refine AI (v:=.tuple #[LQ none 0 0,.bool false]) (by simp[results,results95,go_sem,z,LQ]) rfl ?_;rw[q.l];exact⟨none,0,rfl,Y _,.inl rfl,λg n=>(by cases n),x.l.be.setCell (by show w.heap.size<=w.heap.size;omega) _⟩
   | some m =>
    rw[hR]at y;have j:=qp (qI hR);have aY:=Z j.2;have bG:=j.1;clear j
    by_cases l:OE f m=0
    focus
     have q:Hid (MX (d.drop (i+1)) (ML f m)=r):=by show _=_;rw[<-v.l];exact(kf hR l).symm
     have z:OA f m=ML f m:=by unfold OA;rw[AF l]
     have aZ:=Z (ed l)
    rotate_left
    focus
     have q:Hid (r=none):=by show _=_;rw[<-v.l];exact vi hR l
     have z:OA f m=[]:=by unfold OA;rw[AG l]
     have bW:(OE f m == 0)=false:=by simp[l]
     have bH:(OE f m != 0)=true:=by simp[l]
    rotate_left
    all_goals
     clear hR;go_wp2_with fail;refine(y.l _).A ?_;rintro e w5 ⟨ab,cb,rfl,F,Q,t⟩;simp only[GF,IW]at F Q⊢;have j:=p.l.z t;have x:=Z j;have r1:=j.st.y 0;have aX:=j.st.lt;have D:=Z (p5 A f B ab m cb w5 j.own.prs ω bE.l (vF F) ω aY.l)
    ·rw[z,l]at D
     clear S P I O N j t K F Q;go_wp2_with fail;refine D.l.A ?_;rintro e L ⟨C,H,rfl,X,G,E,u⟩;have k:=(x.l.z u).z (MF L (.cells #[.slice C (ML f m).length H] 31));have M:=Z (k.set G X (λg n=>by have:=E g n;omega));have x1:=k.st.y 0;have cE:=k.st.E 0;have cF:=k.st.lt;have x6:L.heap.size≠w.heap.size+1:=by have:=(x.l.z u).st.lt;omega
     clear r1 aX k u G E l z;go_wp2;exact⟨⟨i+1,_,C,H,_,rfl,σ,ω,aZ.l,q,M.l⟩,by simp[intOf];omega⟩
    rw[z]at D
    clear S P I O N j t K F Q z;go_wp2_with fail;refine D.l.A ?_;rintro e L ⟨C,H,rfl,X,G,E,u⟩;have k:=(x.l.z u).z (MF L (.cells #[.slice C 0 H] 31));have M:=Z k;have z:=k.rb.y 0;have Q:=k.rb.lt;have F:=k.rb.E 0;clear r1 aX k u G E;go_wp2;refine AI (v:=.tuple #[LQ none 0 0,.bool false]) (by simp[results,results95,go_sem,z,LQ]) rfl ?_;rw[q.l];exact⟨none,0,rfl,Y _,.inl rfl,λg n=>(by cases n),M.l.be.setCell (by show w.heap.size<=w.heap.size;omega) _⟩
  have q:Hid (r=some f):=by show _=_;rw[<-v.l,EI ω];rfl
  have aU:¬((i:Int)<(d.length:Int)):=ω
  have j:¬(w.heap.size=w.heap.size+1):=ω
  go_wp2;refine AI (v:=.tuple #[LQ A f.length B,.bool true]) (by simp[results,results95,go_sem,I,LQ]) rfl ?_;rw[q.l];refine⟨A,B,rfl,p.l.cap,OwnS.setF p.l.own ⟨w.heap.size,0,none⟩ (λg n b=>?_) _,λg n=>by have:=p.l.lo g n;omega,p.l.be.setCell (by show w.heap.size<=w.heap.size;omega) _⟩;have:=p.l.lo g (by subst n;exact MS _ _ _ (tm b));show w.heap.size≠g;omega
end
section
open Tryz
open Go.RowKit Go.Shelf
variable {g1 g2 n3:Nat}{A B:World}
attribute [local go_sem] Oper.semAt_some
@[reducible] def un(x:Int×Int×Int×ByteArray):Value:=NK x.1 x.2.1 x.2.2.1 x.2.2.2
@[reducible] def mu{a:Nat->ByteArray}{b:Nat}{c:Int}{N:Nat}(x:Pgs a b c N):Array Value:=#[.int .i64 (x.1:Int),un (TF a b c x.1)]
def KpP(n3 g1 g2:Nat)(A B:World):Prop:=Below n3 A B/\B.heap[g1]?=A.heap[g1]?/\B.heap[g2]?=A.heap[g2]?
theorem KpP.t{C:World}(h:KpP n3 g1 g2 A B)(k:KpP n3 g1 g2 B C):KpP n3 g1 g2 A C:=⟨h.1.j k.1,k.2.1.j h.2.1,k.2.2.j h.2.2⟩
theorem KpP.b{w:World}(d:n3<=w.heap.size)(f:g1<w.heap.size)(g:g2<w.heap.size)(W:World)(l:Nat)(o a:Obj)(c:w.heap.size<=l)(h:W.heap[l]?=some o)(b:o.isCells=false)(e:o.isWalk=false):KpP n3 g1 g2 W (W.putObj l a) :=⟨belowK_b d W l o a c h b e,World.putObj_heap_other ω,World.putObj_heap_other ω⟩
theorem KpP.I{C:World}(h:KpP n3 g1 g2 A B)(a:Below B.heap.size B C)(b:n3<=B.heap.size)(c:g1<B.heap.size)(d:g2<B.heap.size):KpP n3 g1 g2 A C :=⟨h.1.j (a.A b),(a.block g1 c).j h.2.1,(a.block g2 d).j h.2.2⟩
def sL{b:Nat->ByteArray}{c:Nat}{d:Int}{N:Nat}(u:Nat)(a:List (Pgs b c d N)):Prop:=Good u a/\(N<=u+a.length\/MI (b (c+(u+a.length))) d=none)
theorem QZ{w:World}{g:Nat}{a:Array Value}{t:TypeId}{z:Nat×Nat}(h:w.heap[g]?=some (.cells a t z))(i:Nat)(v:Value)(hv:a[i]?=some v):w.cell? ⟨g,i,none⟩=some v:=by
 simp[World.cell?,h,hv]
theorem ks(h:Below A.heap.size A B):A.grownBy B none:=⟨h.os,h.tape,h.output,h.size,λk a _=>h.block k a⟩
theorem Eg(n:Nat)(hn:1<=n)(l g1 g2 d N u:Nat)(o:Nat->ByteArray)(g:Int)(w y:Value)(j:World)(hN:N<=200)(hu:u<=N)
  (aZ:Hid (∀a,Below j.heap.size j a->∀m:Nat,m<N->Calls prog 165 #[jc w y (d:Int) (N:Int) g,.int .i64 (m:Int)] a λe b=>e=.returned (VC (MI (o (d+m)) g))/\Below a.heap.size a b))
  (a G:List (Pgs o d g N)->World->Prop)
  (R:∀b x f,a b f->b.length<N->YieldAt Fence.wide (n-1) prog l (mu x) f λe c=>(e=.returned (.bool true)/\a (b++[x]) c/\KpP j.heap.size g1 g2 f c)\/(e=.returned (.bool false)/\G (b++[x]) c))
  (W:World)(Q:Below j.heap.size j W)(I:W.heap[g1]?=some (.cells #[.iface 219 (.agg #[w,y]),.int .i64 (d:Int),.int .i64 (N:Int),.int .i64 g] 186 (0,0)))(K:W.heap[g2]?=some (.cells #[.int .i64 (u:Int)] 3 (0,0)))
  (O:a [] W)(P:∀s A B,a s A->A.grownBy B none->a s B):CallsIn Fence.wide n prog 164 #[.func (.yield l) #[] #[],.pointer (some ⟨g2,0,none⟩),.pointer (some ⟨g1,0,none⟩)] W λe c=>(∃v,e=.returned v) /\
   ((∃f,sL u f/\a f c)\/(∃b,Good u b/\G b c)):=by
 refine JM func164 rfl trivial ?_ rfl;simp only[ntmps164,GK,CA,AR,Nat.reduceAdd,Nat.reduceSub,FT,FU,GJ,FE,DQ,DZ];have U:=Z R;have E:=Z P;clear R P;have b:=QZ K 0 (.int .i64 (u:Int)) rfl
 gi_wp2
 clear b
 gi_loopw [4] (λi wr=>∃(k:Nat) (b:List (Pgs o d g N)),b.length=k/\Good u b/\u+k<=N/\i=.int .i64 ((u+k:Nat):Int)/\a b wr/\Below j.heap.size j wr/\wr.heap[g1]?=some (.cells #[.iface 219 (.agg #[w,y]),.int .i64 (d:Int),.int .i64 (N:Int),.int .i64 g] 186 (0,0))) (λi _=>N-(intOf i).toNat)
 case atStart=>exact⟨0,[],rfl,Good.nil u,hu,rfl,O,Q,I⟩
 case round =>
  obtain⟨k,b,r,h,s,rfl,f,L,c⟩:=hrel;obtain⟨q,e⟩:∃q,q=u+k:=⟨_,rfl⟩;rw[<-e];have i:=Z e;have m:=Z r;have p:=Z h;have C:=Z f;have z:=Z L;have bT:q<=N:=ω
  have aW:=Z c;have bH:=(AT.1 c).1;clear r h f s;have c0:=QZ c 0 (.iface 219 (.agg #[w,y])) rfl;have c1:=QZ c 1 (.int .i64 (d:Int)) rfl;have c2:=QZ c 2 (.int .i64 (N:Int)) rfl;have c3:=QZ c 3 (.int .i64 g) rfl;clear c e I K Q O
  by_cases M:q<N
  ·have bI:(q:Int)<(N:Int):=ω
   have bU:IntKind.i64.wrap ((q:Int)+1)=(q:Int)+1:=by simp[IntKind.wrap,IntKind.bits,IntKind.signed];omega
   have h:=aZ.l wr z.l q M;clear L
   cases hR:MI (o (d+q)) g with
   | none =>
    rw[hR]at h;simp only[VC]at h;have F:=Z hR;have x:=Z h;clear hR h
    gi_wp2_with (refine⟨trivial,?_⟩;gi_at_call 165;refine(EX.2 x.l).A ?_;rintro e T ⟨rfl,c⟩)
    refine⟨λf r=>(by cases r),?_⟩
    gi_wp2
    refine AI (JU rfl _ _ _) rfl ?_;refine⟨⟨_,rfl⟩,.inl ⟨b,⟨p.l,.inr ?_⟩,E.l _ _ _ C.l (ks (c.alloc c.size _))⟩⟩;rw[m.l,<-i.l];exact F.l
   | some pg =>
    obtain⟨r,s,t,v⟩:=pg;rw[hR]at h;simp only[VC]at h;obtain⟨f,c⟩:∃f:Pgs o d g N,f.1=q:=⟨⟨q,M,by rw[hR];rfl⟩,rfl⟩;have e:mu f=#[.int .i64 (q:Int),.agg #[.int .i64 r,.int .i64 s,.int .i64 t,.string v]]:=by unfold mu un TF;rw[c,hR];rfl
    have bE:=Z e;have H:=Z c;have F:=Z hR;have x:=Z h;clear hR h e c
    gi_wp2_with (refine⟨trivial,?_⟩;gi_at_call 165;refine(EX.2 x.l).A ?_;rintro e T ⟨rfl,c⟩)
    obtain⟨fn,S,aI,bG,h,D⟩:=U.l b f (T.alloc (.cells #[.int .i64 r,.int .i64 s,.int .i64 t,.string v] 119)) (E.l _ _ _ C.l (ks (c.alloc c.size _))) (by rw[m.l];have:=i.l;omega);rw[bE.l]at h;have bQ:=c.size;have aX:=Z ((c.alloc c.size (.cells #[.int .i64 r,.int .i64 s,.int .i64 t,.string v] 119)).block _ bH);have X:=Z (z.l.j ((c.alloc c.size (.cells #[.int .i64 r,.int .i64 s,.int .i64 t,.string v] 119)).A z.l.size));clear c;rw[h,Oper.uponIn_round];refine⟨λ_=>hn,?_⟩;refine D.A ?_;rintro e W6 (⟨rfl,hJ6,hk6⟩|⟨rfl,hJx6⟩)
    ·have aY:=Z (hk6.2.1.j (aX.l.j aW.l))
     have aV:=Z (X.l.j hk6.1);have c:=Z hJ6;clear hJ6 hk6 D h
     gi_wp2
     go_roundw
     case rel=>exact⟨k+1,b++[f],by rw[AE,m.l];rfl,p.l.push (by rw[H.l,m.l,i.l]),by have:=i.l;omega,by have:=i.l;simp;omega,c.l,aV.l,aY.l⟩
     case measure=>simp[intOf];omega
    have c:=Z hJx6
    clear hJx6 D h
    gi_wp2
    refine AI (JU rfl _ _ _) rfl ?_;exact⟨⟨_,rfl⟩,.inr ⟨b++[f],p.l.push (by rw[H.l,m.l,i.l]),c.l⟩⟩
  gi_wp2
  go_end0;exact⟨⟨_,rfl⟩,.inl ⟨b,⟨p.l,.inl (by rw[m.l,<-i.l];omega)⟩,C.l⟩⟩
theorem Iy(n:Nat)(b c:Value)(a N:Int)(d:Int)(u:Int)(w:World):CallsIn Fence.wide n prog 130 #[jc b c a N d,.int .i64 u] w λe f=>e=.returned (.func (.func 164) #[] #[.pointer (some ⟨w.heap.size+1,0,none⟩),.pointer (some ⟨w.heap.size,0,none⟩)])/\f=(w.alloc (.cells #[.iface 219 (.agg #[b,c]),.int .i64 a,.int .i64 N,.int .i64 d] 186)).alloc (.cells #[.int .i64 u] 3):=by
 refine JM func130 rfl trivial ?_ rfl;simp only[ntmps130,GK,CA,AR,Nat.reduceAdd,Nat.reduceSub,FT,FU,GJ,FE,DQ,DZ]
 gi_wp2
 go_ret;exact⟨rfl,rfl⟩
theorem wI(n:Nat)(C:1<=n)(g1 g2 c N u:Nat)(f:Nat->ByteArray)(d:Int)(h i:Value)(b w:World)(y:N<=200)(D:u<=N)(o:Below b.heap.size b w)
  (q:Hid (∀a,Below b.heap.size b a->∀m:Nat,m<N->Calls prog 165 #[jc h i (c:Int) (N:Int) d,.int .i64 (m:Int)] a λe g=>e=.returned (VC (MI (f (c+m)) d))/\Below a.heap.size a g))
  (j:w.heap[g1]?=some (.cells #[.iface 219 (.agg #[h,i]),.int .i64 (c:Int),.int .i64 (N:Int),.int .i64 d] 186 (0,0)))(k:w.heap[g2]?=some (.cells #[.int .i64 (u:Int)] 3 (0,0))):SeqStopsK Fence.wide n prog 164 #[.pointer (some ⟨g2,0,none⟩),.pointer (some ⟨g1,0,none⟩)] (λx:Pgs f c d N=>mu x) (KpP b.heap.size g1 g2) (sL u) (Good u) N w:=λl a p W g v r z t =>
 Eg n C l g1 g2 c N u f d h i b y D q a p z W (o.j (g.A o.size)) ((g.block _ (AT.1 j).1).j j) ((g.block _ (AT.1 k).1).j k) t (λs A B x m=>v s A B none x m (λr e=>(by cases e)))
