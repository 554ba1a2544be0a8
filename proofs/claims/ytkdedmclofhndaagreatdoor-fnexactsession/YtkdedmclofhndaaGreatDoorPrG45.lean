import Derived.Shelf.Spec.SlicesInsert
import Derived.Lib.AppendZerosOnto
import Derived.Lib.Overlaps
import Derived.Laws.Externs
import Derived.Laws.CopyRow
import Derived.Laws.CopyOwn
import Derived.Recover
import Derived.Defers
import Derived.Test.YtkdedmclofhndaaGreatDoorPrG42
set_option maxHeartbeats 16000000
set_option maxRecDepth 8000
set_option linter.all false
namespace Go.Proofs.YtkdedmclofhndaaGreatDoor
open _root_.ByteArray(empty)
section
open Tryz
open Go.RowKit Go.Lib
variable {P:Program}{w:xV}
theorem jr(w:xV)(l B C d:TypeId)(k g o e p:Nat)(a:Addr)(f s:Nat)(b:Array qD)(t:TypeId)(c:List qD)(n:Nat)
  (A:P.underlying l=some (.slice d))(m:(P.info? d).map (·.size)=some k)
  (y:w.heap[g]?=some (.cells b t (0,0)))(z:Nat.min f e=n)(x:c.length=n*k)
  (r:∀j v,c[j]?=some v->w.cell? (a.add j)=some v)(q:o+c.length<=b.size)(u:∀v∈c,v.oneCell'=true):(Builtin.copy_ #[l,B] C #[yI (zY g o) e p,yI (some a) f s]).run P w =
   .ok (goInt n) (w.setRow g (b.toList.take o++c++b.toList.drop (o+c.length)).toArray):=by
 have j:=run_loadCells_list (P:=P) w a c r;have h:=KR P g o t c 0 b w y (by simpa using q) u
 cases hq:P.info? d with
 | none=>simp[hq]at m
 | some i =>
  have v:i.size=k:=by simpa[hq] using m
  simp only[IN]at h;rw[x]at j;simp[Builtin.copy_,GG A,Builtin.lenOf,Builtin.firstCells,sizeOf,typeInfo,hq,v,z,j,h]
theorem G0(w:xV)(t A e:TypeId)(k g d h:Nat)(a:Addr)(n c:Nat)(b:Array qD)(o:TypeId)(f:List qD)
  (z:P.underlying t=some (.slice e))(m:(P.info? e).map (·.size)=some k)
  (y:w.heap[g]?=some (.cells b o (0,0)))(p:d+n<=h)(x:f.length=n*k)
  (s:∀j v,f[j]?=some v->w.cell? (a.add j)=some v)(r:d*k+f.length<=b.size)(u:∀v∈f,v.oneCell'=true):(Builtin.append_ #[t,t] A #[yI (zY g 0) d h,yI (some a) n c]).run P w =
   .ok (yI (zY g 0) (d+n) h) (w.setRow g (b.toList.take (d*k)++f++b.toList.drop (d*k+f.length)).toArray):=by
 have l:=run_loadCells_list (P:=P) w a f s;have j:=KR P g (d*k) o f 0 b w y (by simpa using r) u;have q:((yA g 0):Addr).add (d*k)=(yA g (d*k)):=by rw[GY];simp
 cases hq:P.info? e with
 | none=>simp[hq]at m
 | some i =>
  have v:i.size=k:=by simpa[hq] using m
  simp only[IN]at j;rw[x]at l;simp[Builtin.append_,GG z,Builtin.lenOf,Builtin.firstCells,sizeOf,typeInfo,hq,v,l,j,p,q]
theorem Gk(w:xV)(t p e:TypeId)(z:qD)(l:P.underlying t=some (.slice e))(hv:∀w,(zeroValue e).run P w=.ok z w)(g o n c:Nat)(q:0<n)(a:Array qD)(f:TypeId)(b:List qD)
  (k:w.heap[g]?=some (.cells a f (0,0)))(i:(Builtin.zeroCells z.cells n).toList=b)(h:o+b.length<=a.size)(j:∀v∈b,v.oneCell'=true):(Builtin.clear_ #[t] p #[yI (zY g o) n c]).run P w=.ok (.tuple #[]) (w.setRow g (a.toList.take o++b++a.toList.drop (o+b.length)).toArray):=by
 have d:=KR P g o f b 0 a w k (by simpa using h) j;simp only[IN]at d;obtain⟨m,rfl⟩:∃m,n=m+1:=⟨n-1,ω⟩;simp[Builtin.clear_,GG l,hv,i,d]
theorem kt(w:xV)(g:Nat)(a:Array qD):w.grownBy (w.setRow g a) (some g):=⟨rfl,rfl,rfl,by simp[World.setRow],λk _ b=>LD w g k a (λe=>b (by rw[e]))⟩
theorem vW{c d:xV}{r:Option Nat}(h:w.grownBy c r)(k:c.grownBy d r):w.grownBy d r :=⟨k.os.E h.os,k.tape.E h.tape,k.output.E h.output,AJ h.size k.size,λj b a=>(k.block j (AC b h.size) a).E (h.block j b a)⟩
theorem YM{g:Nat}{cur:List qD}{t:TypeId}{a:Nat×Nat}(h:w.heap[g]?=some (.cells cur.toArray t a)){j:Nat}{v:qD}(hv:cur[j]?=some v):w.cell? (yA g j)=some v:=by
 simp[World.cell?,h,hv]
theorem qW{b:Array Oper}{o:Oper}{a:Act}{K:Act->xV->Prop}{Q:Exit->Act->xV->Prop}{E:Prop}
  (k:o.guard=none)(d x:Operand)(c e:TypeId)(h:o.op=Op.call { callee:=Callee.builtin Builtin.append,args:=#[d,x],argTypes:=#[c,e] })
  (v u:qD)(j:a.eval d=v)(n:a.eval x=u){f:qD}{g:xV}(l:(Builtin.append_ #[c,e] o.type #[v,u]).run P w=.ok f g)(i:K (a.put o.dst f) g):if Region.wanted o (yielded b a.tmps)=true then Oper.wp P o a w K Q else E:=by
 have m:Region.wanted o (yielded b a.tmps)=true:=by simp[Region.wanted,k]
 rw[AI m];unfold Oper.wp;simp[execOp,h,resolve,invoke,builtin,j,n,l,Result.andThen];exact i
end
section
open Tryz
open Go.RowKit Go.Lib
theorem gz:(prog.info? 122).map (·.size)=some 2:=κ
theorem Am(w:xV):(zeroValue 122).run prog w=.ok (.agg #[yQ empty,yQ empty]) w:=κ
def an(a:List qD)(n p:Nat):List qD:=a.take (p*2)++(a.drop (p*2+2)).take ((n-p-1)*2)++[yQ empty,yQ empty]++a.drop (n*2)
theorem Ip(a:List qD)(n p:Nat)(h:n*2<=a.length)(i:p<n)(b c:List qD)(g:b=(a.drop (p*2+2)).take ((n-p-1)*2))(f:c=a.take (p*2)++b++a.drop (p*2+b.length)):b.length=(n-p-1)*2/\c.length=a.length/\c.take ((n-1)*2)++[yQ empty,yQ empty]++c.drop ((n-1)*2+2)=an a n p:=by
 have d:b.length=(n-p-1)*2:=by rw[g,AX,BQ];omega
 have e:(a.take (p*2)++b).length=(n-1)*2:=by rw[AK,AX,d];omega
 refine⟨d,by rw[f,AK,e,BQ,d];omega,?_⟩;unfold an;rw[<-g,f,GX e,List.drop_append,DY (by rw[e];omega),e,EK,GN,d]
 congr 2
 omega
theorem Dl(g n a p:Nat)(b:List qD)(w:xV)(k:w.heap[g]?=some (.cells b.toArray 122 (0,0)))(N:b.length=a*2)(O:n<=a)(M:n<=100000)(B:p<n)(u:∀v∈b.take (n*2),v.oneCell'=true):Calls prog 345 #[yI (zY g 0) n a,Z (p:Int),Z ((p:Int)+1)] w λe q=>e=yT (yI (zY g 0) (n-1) a)/\w.grownBy q (some g) /\
   q.heap[g]?=some (.cells (an b n p).toArray 122 (0,0)):=by
 have L:¬((p:Int)=(p:Int)+1):=ω
 have E:(p:Int)<=(p:Int)+1:=ω
 have F:(p:Int)+1<=(n:Int):=ω
 have C:(0:Int)<=(p:Int):=ω
 have G:(0:Int)<=(p:Int)+1:=ω
 have H:(n:Int)<=(a:Int):=ω
 have I:(p:Int)<=(a:Int):=ω
 have J:((p:Int)+1).toNat=p+1:=ω
 have z:p+(n-(p+1))=n-1:=ω
 obtain⟨d,l⟩:∃d,d=(b.drop (p*2+2)).take ((n-p-1)*2):=⟨_,rfl⟩;obtain⟨e,o⟩:∃e,e=b.take (p*2)++d++b.drop (p*2+d.length):=⟨_,rfl⟩;obtain⟨m,A,t⟩:=Ip b n p ω B d e l o
 have s:∀v∈d,v.oneCell'=true:=λv hv=>u v (by rw[l,show(n-p-1)*2=n*2-(p*2+2) by omega,<-FT]at hv;exact EY hv)
 have r:∀(D:Addr),(D=(yA g ((p+1)*2))\/d=[])->∀j v,d[j]?=some v->w.drew.cell? (D.add j)=some v:=λD i j v c=>by
  rcases i with rfl|f
  ·rw[GY]
   refine YM (w:=w.drew) (cur:=b) k ?_;rw[l,FO]at c
   split at c
   ·rw[FC]at c
    rw[<-c];congr 1;omega
   cases c
  rw[f]at c;cases c
 have j:Hid (∀D c f,(D=(yA g ((p+1)*2))\/d=[])->(Builtin.append_ #[35,35] f #[yI (zY g 0) p a,yI (some D) (n-(p+1)) c]).run prog w.drew=.ok (yI (zY g 0) (n-1) a) (w.drew.setRow g e.toArray)):=λD c f i=>by
  have:=G0 (P:=prog) w.drew 35 f 122 2 g p a D (n-(p+1)) c b.toArray 122 d underlying35 gz k ω (by rw[m];omega) (r D i) (by rw[m];simp;omega) s;rw[z]at this;rw[this,o]
 have x:Hid (∀c f,(Builtin.clear_ #[35] f #[yI (zY g ((n-1)*2)) (n-(n-1)) c]).run prog (w.drew.setRow g e.toArray)=.ok (.tuple #[]) ((w.drew.setRow g e.toArray).setRow g (an b n p).toArray)):=λc f=>by
  rw[show n-(n-1)=1 by omega];have:=Gk (P:=prog) (w.drew.setRow g e.toArray) 35 f 122 _ underlying35 Am g ((n-1)*2) 1 c ω e.toArray 122 [yQ empty,yQ empty] (IY w.drew g b.toArray e.toArray 122 (0,0) k) κ τ (XJ _ _);rw[this,<-t];simp
 have c:a=p+1->d=[]:=λh=>AD (by rw[m];omega)
 have y:=Y c;have v:=Y k;clear c r l o m A t s u k;go_enter func345,ntmps345
 by_cases l:a=p+1
 focus
  have i:((yA g 0):Addr)=(yA g ((p+1)*2))\/d=[]:=.inr (y.j l)
 rotate_left
 rotate_left
 all_goals
  go_wp2_with fail;refine AN (S:=λq=>True) κ (trivial) (λf=>?_);refine TY 0 (yI (zY g 0) n a) rfl f (TY 1 (Z (p:Int)) rfl f (TY 2 (yI (zY g 0) p a) rfl f (TY 3 (yI (zY g 0) n a) rfl f (TY 4 (Z ((p:Int)+1)) rfl f ?_))));simp only[PS]
 focus
  refine TY 5 (yI (zY g 0) (n-(p+1)) (a-(p+1))) rfl f ?_;simp only[PS];refine RD 6 rfl (λK c=>?_);refine qW rfl _ _ 35 35 rfl (yI (zY g 0) p a) (yI (zY g 0) (n-(p+1)) (a-(p+1))) (by simp[Act.eval,Act.put]) (by simp[Act.eval,Act.put]) (j.j _ _ _ i) ?_;refine c.j _ _ (trivial) (λh=>?_);clear c K
  try simp only[PS]
  refine ET (rs:=[7]) κ σ ?_
 rotate_left
 focus
  refine TY 5 (yI (zY g ((p+1)*2)) (n-(p+1)) (a-(p+1))) rfl f ?_;simp only[PS];refine RD 6 rfl (λK c=>?_);refine qW rfl _ _ 35 35 rfl (yI (zY g 0) p a) (yI (zY g ((p+1)*2)) (n-(p+1)) (a-(p+1))) (by simp[Act.eval,Act.put]) (by simp[Act.eval,Act.put]) (j.j _ _ _ (.inl rfl)) ?_;refine c.j _ _ (trivial) (λh=>?_);clear c K
  try simp only[PS]
  refine ET (rs:=[7]) κ σ ?_
 rotate_left
 all_goals
  refine DC rfl (λK c=>?_) EP;go_simp;refine c.j _ _ h (λ_=>?_);clear c K
  try simp only[PS]
  refine DN ?_;have c:=x.j;go_wp2_with fail;go_ret
  exact⟨by first|rfl|(rw[l];rfl),vW (Ua (kt w.drew g _)) (kt _ g _),IY _ g _ _ 122 (0,0) (IY w.drew g b.toArray e.toArray 122 (0,0) v.j)⟩
end
section
open Tryz
open Go.RowKit Go.Lib
def ZU(a:List qD)(n p:Nat)(b c:yZ):List qD:=a.take (p*2)++[yQ b,yQ c]++(a.drop (p*2)).take ((n-p)*2)++a.drop (n*2+2)
theorem Fd(a:List qD)(n p:Nat)(h i:yZ)(j:n*2+2<=a.length)(k:p<n)(b c:List qD)(g:b=(a.drop (p*2)).take ((n-p)*2))(f:c=a.take ((p+1)*2)++b++a.drop ((p+1)*2+b.length)):b.length=(n-p)*2/\c.length=a.length/\c.take (p*2)++[yQ h,yQ i]++c.drop (p*2+2)=ZU a n p h i:=by
 have e:b.length=(n-p)*2:=by rw[g,AX,BQ];omega
 have d:(a.take ((p+1)*2)).length=(p+1)*2:=by rw[AX];omega
 refine⟨e,by rw[f,AK,AK,d,BQ,e];omega,?_⟩;unfold ZU;rw[<-g,f,BV (a.take ((p+1)*2)),JW (by rw[d];omega),II,show min (p*2) ((p+1)*2)=p*2 by omega];rw[show p*2+2=(p+1)*2 by omega,KA d,e];rw[show(p+1)*2+(n-p)*2=n*2+2 by omega];simp
theorem Mc(g n a p c:Nat)(h i:yZ)(b:List qD)(w:xV)(l:w.heap[g]?=some (.cells b.toArray 122 (0,0)))(hv:w.heap[c]?=some (.cells #[yQ h,yQ i] 122 (0,0)))(u:c≠g)(F:b.length=a*2)(hn:n<a)(X:n<=100000)(G:p<n)(y:∀v∈b.take (n*2),v.oneCell'=true):Calls prog 349 #[yI (zY g 0) n a,Z (p:Int),yI (zY c 0) 1 1] w λe r=>e=yT (yI (zY g 0) (n+1) a)/\w.grownBy r (some g) /\
   r.heap[g]?=some (.cells (ZU b n p h i).toArray 122 (0,0)):=by
 have V:¬((p:Int)=(n:Int)):=ω
 have I:(0:Int)<=(p:Int):=ω
 have J:(p:Int)<=(n:Int):=ω
 have L:(p:Int)<=(n:Int)+1:=ω
 have M:(p:Int)+1<=(n:Int)+1:=ω
 have N:(0:Int)<=(p:Int)+1:=ω
 have O:¬((a:Int)<(n:Int)+1):=ω
 have P:(n:Int)+1<=(a:Int):=ω
 have Q:(0:Int)<=(n:Int)+1:=ω
 have R:¬(a=p):=ω
 have S:¬(a=p+1):=ω
 have T:((p:Int)+1).toNat=p+1:=ω
 have U:IntKind.i64.wrap ((p:Int)+1)=(p:Int)+1:=by simp[IntKind.wrap,IntKind.bits,IntKind.signed];omega
 have H:((n:Int)+1).toNat=n+1:=ω
 have B:∀e d,(callFunc 350 #[yI (zY c 0) 1 1,yI (zY g ((p+1)*2)) e d]).run prog w=.ok (.value (yR false)) w:=λe d=>by
  rw[EF func350 κ κ κ (e:=Extern.SlicesOverlaps.overlaps #[35,35] #[4]) κ,
   Lib.run_overlaps_apart w 35 4 122 underlying35 2 sizeOf122 (yA c 0) (yA g ((p+1)*2)) 1 1 e d u 122 122 2 (a*2) (by simp[World.shape?,hv]) (by simp[World.shape?,l,F]) ω (by simp[World.frozen?,hv]) (by simp[World.frozen?,hv])]
  rfl
 obtain⟨f,m⟩:∃f,f=(b.drop (p*2)).take ((n-p)*2):=⟨_,rfl⟩;obtain⟨e,o⟩:∃e,e=b.take ((p+1)*2)++f++b.drop ((p+1)*2+f.length):=⟨_,rfl⟩;obtain⟨q,C,x⟩:=Fd b n p h i ω G f e m o
 have t:∀v∈f,v.oneCell'=true:=λv hv=>y v (by rw[m,show(n-p)*2=n*2-p*2 by omega,<-FT]at hv;exact EY hv)
 have s:∀j v,f[j]?=some v->w.drew.cell? (((yA g (p*2)):Addr).add j)=some v:=λj v d=>by
  rw[GY];refine YM (w:=w.drew) (cur:=b) l ?_;rw[m,FO]at d
  split at d
  ·rw[FC]at d;exact d
  cases d
 have z:Hid (∀k,(Builtin.copy_ #[35,35] k #[yI (zY g ((p+1)*2)) (n+1-(p+1)) (a-(p+1)),yI (zY g (p*2)) (n+1-p) (a-p)]).run prog w.drew=.ok (goInt ((n-p:Nat):Int)) (w.drew.setRow g e.toArray)):=λk=>by
  have:=jr (P:=prog) w.drew 35 35 k 122 2 g ((p+1)*2) (n+1-(p+1)) (a-(p+1)) (yA g (p*2)) (n+1-p) (a-p) b.toArray 122 f (n-p) underlying35 gz l (by simp only[KP];split<;>omega) q s (by rw[q];simp;omega) t;rw[this,o]
 have A:Hid (∀W:xV,W.heap[g]?=some (.cells e.toArray 122 (0,0))->W.heap[c]?=some (.cells #[yQ h,yQ i] 122 (0,0))->∀k,(Builtin.copy_ #[35,35] k #[yI (zY g (p*2)) (n+1-p) (a-p),yI (zY c 0) 1 1]).run prog W=.ok (goInt 1) (W.setRow g (ZU b n p h i).toArray)):=λW E D k=>by
  have:=jr (P:=prog) W 35 35 k 122 2 g (p*2) (n+1-p) (a-p) (yA c 0) 1 1 e.toArray 122 [yQ h,yQ i] 1 underlying35 gz E (by simp only[KP];split<;>omega) rfl (λj v d=>by rw[GY,BK];exact YM (cur:=[yQ h,yQ i]) D d) τ (XJ _ _);rw[this,<-x];simp
 have k:=Y l;have v:=Y hv;clear s m o q C x t y l hv;go_enter func349,ntmps349;go_wp2_with (simp only[B]);refine AN (S:=λr=>True) κ (trivial) (λd=>?_);refine TY 0 (yI (zY g 0) (n+1) a) rfl d (TY 1 (Z (p:Int)) rfl d (TY 2 (Z 1) rfl d (TY 3 (Z ((p:Int)+1)) rfl d (TY 4 (yI (zY g ((p+1)*2)) (n+1-(p+1)) (a-(p+1))) rfl d (TY 5 (yI (zY g 0) (n+1) a) rfl d (TY 6 (Z (p:Int)) rfl d (TY 7 (yI (zY g (p*2)) (n+1-p) (a-p)) rfl d ?_)))))));simp only[PS];refine RD 8 rfl (λK j=>?_);refine step_copy_runI rfl _ _ 35 35 rfl (yI (zY g ((p+1)*2)) (n+1-(p+1)) (a-(p+1))) (yI (zY g (p*2)) (n+1-p) (a-p)) (by simp[Act.eval,Act.put]) (by simp[Act.eval,Act.put]) (z.j _) ?_;refine j.j _ _ (trivial) (λm=>?_);clear j K
 try simp only[PS]
 refine DN ?_;have j:=IY w.drew g b.toArray e.toArray 122 (0,0) k.j;have o:(w.drew.setRow g e.toArray).heap[c]?=some (.cells #[yQ h,yQ i] 122 (0,0)):=(LD w.drew g c _ u).E v.j;have q:=A.j _ j o;clear d m;go_wp2_with fail;go_ret;exact⟨rfl,vW (Ua (kt w.drew g _)) (kt _ g _),IY _ g _ _ 122 (0,0) j⟩
theorem N8(n:Nat):(Builtin.zeroCells (Value.agg #[yQ empty,yQ empty]).cells n).size=n*2:=by simp[Builtin.zeroCells,Value.cells]
theorem Kc(g n p m:Nat)(k l:yZ)(a:List qD)(w:xV)(u:w.heap[g]?=some (.cells a.toArray 122 (0,0)))(hv:w.heap[m]?=some (.cells #[yQ k,yQ l] 122 (0,0)))(hl:a.length=n*2)(hc:n<=100000)(hp:p<n)(P:∀v∈a.take (n*2),v.oneCell'=true):Calls prog 349 #[yI (zY g 0) n n,Z (p:Int),yI (zY m 0) 1 1] w λe x=>∃(G:Nat) (o:List qD),e=yT (yI (zY w.heap.size 0) (n+1) G)/\n+1<=G/\G<=maxLen/\o.length=G*2/\o.take ((n+1)*2)=a.take (p*2)++[yQ k,yQ l]++a.drop (p*2)/\yX w x/\w.heap.size<x.heap.size /\
   x.heap[w.heap.size]?=some (.cells o.toArray 122 (0,0)):=by
 obtain⟨Q,K,N,O,B⟩:=WE ed;have V:g<w.heap.size:=(AP.1 u).1;have W:m<w.heap.size:=(AP.1 hv).1;have cM:¬((p:Int)=(n:Int)):=ω
 have bY:(0:Int)<=(p:Int):=ω
 have bZ:(p:Int)<=(n:Int):=ω
 have cA:(p:Int)<=(n:Int)+1:=ω
 have cC:(p:Int)+1<=(n:Int)+1:=ω
 have cE:(0:Int)<=(p:Int)+1:=ω
 have cF:(n:Int)<(n:Int)+1:=ω
 have cH:¬(n=p):=ω
 have cJ:((p:Int)+1).toNat=p+1:=ω
 have cL:IntKind.i64.wrap ((p:Int)+1)=(p:Int)+1:=by simp[IntKind.wrap,IntKind.bits,IntKind.signed];omega
 have s:(n:Int)+1-(p:Int)=((n+1-p:Nat):Int):=ω
 have e:p+(n+1-p)=n+1:=ω
 have r:(Builtin.firstCells Q.size p (yI (zY g 0) p n)).run prog w.drew=.ok (a.take (p*2)).toArray w.drew:=by
  rw[O]
  exact GI w.drew 2 p (yA g 0) p n (a.take (p*2)) (by rw[AX];omega) (λj v i=>by
   rw[GY,BK];rw[FO]at i
   split at i
   ·exact YM (w:=w.drew) (cur:=a) u i
   ·cases i)
 obtain⟨G,c⟩:∃G,G=grownCap w (n+1) n 122:=⟨_,rfl⟩;have T:n+1<=G:=by rw[c];exact JL w _ _ _
 have H:G<=maxLen:=by rw[c];exact IQ w (n+1) n _ (by unfold maxLen;omega)
 obtain⟨d,b⟩:∃d:List qD,d=a.take (p*2)++(Builtin.zeroCells (Value.agg #[yQ empty,yQ empty]).cells (n+1-p)).toList++(Builtin.zeroCells (Value.agg #[yQ empty,yQ empty]).cells (G-(n+1))).toList:=⟨_,rfl⟩;have q:d.toArray=(a.take (p*2)).toArray++Builtin.zeroCells (Value.agg #[yQ empty,yQ empty]).cells (n+1-p)++Builtin.zeroCells (Value.agg #[yQ empty,yQ empty]).cells (G-(n+1)):=by rw[b];apply IE;simp
 have U:d.length=G*2:=by rw[b];simp only[AK,AX,Array.length_toList,N8];omega
 have I:d.take (p*2)=a.take (p*2):=by rw[b,BV];exact GX (by rw[AX];omega)
 have L:∀f,(Builtin.append_ #[35,3] f #[yI (zY g 0) p n,Z ((n:Int)+1-(p:Int))]).run prog w=.ok (yI (zY w.heap.size 0) (n+1) G) (w.drew.alloc (.cells d.toArray 122)):=λf=>by
  have h:=Lib.run_append_grow_zeros (P:=prog) w 35 3 f 122 Q _ .i64 .i64 underlying35 underlying3 K N (zY g 0) p n (a.take (p*2)) r (n+1-p) ω ω ω ω (by rw[B];omega) (by rw[B,e];exact growslice_fits ω ω);rw[e,<-c]at h;rw[s,h,q]
 have X:G<=9223372036854775807:=H;have bW:¬(G=p):=ω
 have bP:¬(G=p+1):=ω
 clear s e r b q c;obtain⟨b,c⟩:∃b,b=w.drew.alloc (.cells d.toArray 122):=⟨_,rfl⟩;rw[<-c]at L;have r:yX w b:=by show Below (w.heap.size) w b;rw[c];exact(AB _ _).drew.alloc (AA _) _
 have M:b.heap.size=w.heap.size+1:=by rw[c];rw[BE];rfl
 have z:b.heap[w.heap.size]?=some (.cells d.toArray 122 (0,0)):=by rw[c];exact AU w.drew _
 have J:b.heap[m]?=some (.cells #[yQ k,yQ l] 122 (0,0)):=(r.block m W).E hv;have E:b.heap[g]?=some (.cells a.toArray 122 (0,0)):=(r.block g V).E u;clear c;obtain⟨e,s⟩:∃e,e=d.take (p*2)++[yQ k,yQ l]++d.drop (p*2+2):=⟨_,rfl⟩;have y:e.length=G*2:=by rw[s];simp only[AK,AX,BQ,BJ,AT];omega
 have D:∀f,(Builtin.copy_ #[35,35] f #[yI (zY w.heap.size (p*2)) (n+1-p) (G-p),yI (zY m 0) 1 1]).run prog b=.ok (goInt 1) (b.setRow w.heap.size e.toArray):=λf=>by
  have:=jr (P:=prog) b 35 35 f 122 2 w.heap.size (p*2) (n+1-p) (G-p) (yA m 0) 1 1 d.toArray 122 [yQ k,yQ l] 1 underlying35 gz z (by simp only[KP];split<;>omega) rfl (λj v i=>by rw[GY,BK];exact YM (cur:=[yQ k,yQ l]) J i) τ (XJ _ _);rw[this,s];simp
 obtain⟨c,h⟩:∃c,c=b.setRow w.heap.size e.toArray:=⟨_,rfl⟩;rw[<-h]at D;have A:c.heap[w.heap.size]?=some (.cells e.toArray 122 (0,0)):=by rw[h];exact IY b w.heap.size _ _ 122 (0,0) z
 have F:c.heap[g]?=some (.cells a.toArray 122 (0,0)):=by rw[h];exact(LD b w.heap.size g _ ω).E E
 have C:yX w c:=by show Below (w.heap.size) w c;rw[h];exact below_setRow r (AA _) _
 have cI:c.heap.size=w.heap.size+1:=by rw[h];simpa[World.setRow] using M
 clear h;have q:(a.drop (p*2)).length=(n-p)*2:=by rw[BQ];omega
 obtain⟨h,t⟩:∃h,h=e.take ((p+1)*2)++a.drop (p*2)++e.drop ((p+1)*2+(n-p)*2):=⟨_,rfl⟩
 have R:Hid (∀f,(Builtin.copy_ #[35,35] f #[yI (zY w.heap.size ((p+1)*2)) (n+1-(p+1)) (G-(p+1)),yI (zY g (p*2)) (n-p) (n-p)]).run prog c.drew=.ok (goInt ((n-p:Nat):Int)) (c.drew.setRow w.heap.size h.toArray)):=λf=>by
  have:=jr (P:=prog) c.drew 35 35 f 122 2 w.heap.size ((p+1)*2) (n+1-(p+1)) (G-(p+1)) (yA g (p*2)) (n-p) (n-p) e.toArray 122 (a.drop (p*2)) (n-p) underlying35 gz A (by simp only[KP];split<;>omega) q (λj v i=>by rw[GY];rw[FC]at i;exact YM (w:=c.drew) (cur:=a) F i) (by rw[q];simp;omega) (λv hv=>P v (by rw[AR ω];exact EY hv));rw[this,t,q]
 have f:h.length=G*2/\h.take ((n+1)*2)=a.take (p*2)++[yQ k,yQ l]++a.drop (p*2):=by
  have j:e.take ((p+1)*2)=a.take (p*2)++[yQ k,yQ l]:=by
   rw[s,I];exact GX τ
  have i:(e.take ((p+1)*2)++a.drop (p*2)).length=(n+1)*2:=by rw[AK,q,AX,y];omega
  refine⟨by rw[t,AK,i,BQ,y];omega,?_⟩;rw[t,GX i,j]
 have i:=Y f;have S:=Y A;have v:=Y C;clear K N O B U I s y z J E A F r C M q t f u hv P;go_enter func349,ntmps349
 go_wp2_with (first
  | (at_builtin;refine Lib.wpList_append_run _ rfl _ _ _ _ rfl _ _ rfl rfl _ _ (L _) ?_)
  | (at_builtin;refine wpList_copy_runI _ rfl _ _ 35 35 rfl _ _ rfl rfl (D _) ?_))
 refine AN (S:=λx=>True) κ (trivial) (λf=>?_);refine TY 0 (yI (zY w.heap.size 0) (n+1) G) rfl f (TY 1 (Z (p:Int)) rfl f (TY 2 (Z 1) rfl f (TY 3 (Z ((p:Int)+1)) rfl f (TY 4 (yI (zY w.heap.size ((p+1)*2)) (n+1-(p+1)) (G-(p+1))) rfl f (TY 5 (yI (zY g 0) n n) rfl f (TY 6 (Z (p:Int)) rfl f (TY 7 (yI (zY g (p*2)) (n-p) (n-p)) rfl f ?_)))))));simp only[PS];refine RD 8 rfl (λK j=>?_);refine step_copy_runI rfl _ _ 35 35 rfl (yI (zY w.heap.size ((p+1)*2)) (n+1-(p+1)) (G-(p+1))) (yI (zY g (p*2)) (n-p) (n-p)) (by simp[Act.eval,Act.put]) (by simp[Act.eval,Act.put]) (R.j _) ?_;refine j.j _ _ (trivial) (λq=>?_);clear j K
 try simp only[PS]
 refine DN ?_;go_wp2_with fail;go_ret;exact⟨G,h,rfl,T,H,i.j.1,i.j.2,(below_setRow (v.j.drew) (AA _) _),by have:(c.drew.setRow w.heap.size h.toArray).heap.size=c.heap.size:=(by simp[World.setRow]);omega,IY c.drew _ _ _ 122 (0,0) S.j⟩
end
section
open Tryz
open Go.RowKit Go.Lib
variable {cur:List qD}{base n p:Nat}{w:xV}
theorem VZ(l:List Pr):(LN l).length=l.length*2:=WY l
theorem mt{a r:List Pr}(h:cur.take (n*2)=LN (a++r))(c:a.length=p)(e:n=p+r.length)(d:n*2<=cur.length):cur.take (p*2)=LN a/\(cur.drop (p*2)).take ((n-p)*2)=LN r:=by
 rw[UV]at h;have b:(LN a).length=p*2:=by rw[VZ,c]
 constructor
 ·have:(cur.take (n*2)).take (p*2)=cur.take (p*2):=by rw[II,show min (p*2) (n*2)=p*2 by omega]
  rw[<-this,h,GX b]
 have:(cur.drop (p*2)).take ((n-p)*2)=(cur.take (n*2)).drop (p*2):=by rw[FT];congr 1;omega
 rw[this,h,KA b]
theorem Mv{a r:List Pr}{s0 s1:yZ}(h:cur.take (n*2)=LN (a++r))(f:a.length=p)(d:n=p+r.length)(g:n*2+2<=cur.length):(ZU cur n p s0 s1).take ((n+1)*2)=LN (a++[(s0,s1)]++r)/\(ZU cur n p s0 s1).length=cur.length:=by
 obtain⟨b,c⟩:=mt h f d ω;unfold ZU;rw[b,c];have e:(LN a++[yQ s0,yQ s1]++LN r).length=(n+1)*2:=by simp only[AK,VZ,BJ,AT];omega
 refine⟨?_,by rw[AK,e,BQ];omega⟩;rw[GX e,UV,UV];rfl
theorem Cj{a r:List Pr}{x:Pr}(h:cur.take (n*2)=LN (a++[x]++r))(c:a.length=p)(g:n=p+1+r.length)(b:n*2<=cur.length):(an cur n p).take ((n-1)*2)=LN (a++r)/\(an cur n p).length=cur.length:=by
 obtain⟨d,_⟩:=mt (a:=a) (r:=[x]++r) (by rw[h,BV]) c τ b;obtain⟨_,f⟩:=mt (a:=a++[x]) (r:=r) (p:=p+1) h (by simp[c]) g b;unfold an;rw[d,show p*2+2=(p+1)*2 by omega,show n-p-1=n-(p+1) by omega,f];have e:(LN a++LN r).length=(n-1)*2:=by simp only[AK,VZ];omega
 refine⟨?_,by simp only[AK,VZ,BJ,AT,BQ];omega⟩;rw[BV,GX e,UV]
theorem Mg{a r:List Pr}{k v b:yZ}(h:cur.take (n*2)=LN (a++[(k,v)]++r))(c:a.length=p)(d:n=p+1+r.length):(cur.set (p*2+1) (yQ b)).take (n*2)=LN (a++[(k,b)]++r):=by
 rw[List.take_set,h,UV,UV,UV,UV,BV,BV,IR _ _ (by rw[VZ];omega),VZ,c,show p*2+1-p*2=1 by omega];rfl
theorem xj{v:qD}{b:List Pr}(h:w.ownsRow base 122 2 v b.length (LN b))(m:0<b.length):∃g a cur,v=yI (zY g 0) b.length a/\base<=g/\w.heap[g]?=some (.cells (List.toArray cur) 122 (0,0))/\b.length<=a/\a<=maxLen/\cur.length=a*2/\cur.take (b.length*2)=LN b:=by
 rcases h.2 with ⟨_,e⟩|⟨g,a,cur,c,d,f,i,j,k,l⟩
 ·omega
 exact⟨g,a,cur.toList,c,d,by simpa using f,i,j,by simpa using k,l⟩
theorem ko{g a:Nat}{b:List Pr}(c:base<=g)(e:w.heap[g]?=some (.cells cur.toArray 122 (0,0)))(h:n<=a)(d:a<=maxLen)(f:cur.length=a*2)(j:cur.take (n*2)=LN b)(i:b.length=n):w.ownsRow base 122 2 (yI (zY g 0) n a) b.length (LN b):=by
 subst i;exact⟨VZ b,.inr ⟨g,a,cur.toArray,rfl,c,e,h,d,by simpa using f,by simpa using j⟩⟩
theorem ou{v:qD}{b:List Pr}(h:w.ownsRow base 122 2 v b.length (LN b)):∃a c,v=yI a b.length c/\Prs w a b:=by
 rcases MC h with ⟨c,d⟩|⟨g,a,c,_,_,e⟩
 ·exact⟨none,0,by rw[c,d],.inl (AD d)⟩
 exact⟨_,a,c,e.prs⟩
theorem yi(l:List Pr):∀u∈LN l,u.oneCell'=true:=λu a=>by
 unfold LN at a;rw[JQ]at a;obtain⟨x,_,b⟩:=a;exact XJ x.1 x.2 u b
theorem Ao(base:Nat)(a:xA)(c:Nat)(b:List Pr)(h:Nat)(d f:yZ)(w:xV)(own:w.ownsRow base 122 2 (yI a b.length c) b.length (LN b))(hv:w.heap[h]?=some (.cells #[yQ d,yQ f] 122 (0,0)))(H:b.length<=1000)(m:base<=w.heap.size):Calls prog 349 #[yI a b.length c,Z (b.length:Int),yI (zY h 0) 1 1] w λe k=>∃i,e=yT i/\k.ownsRow base 122 2 i (b++[(d,f)]).length (LN (b++[(d,f)]))/\Below base w k:=by
 obtain⟨I,g,l,o,q⟩:=WE ed;have v:=Y (AG g (AG l (AG o q)));clear g l o q;have F:(0:Int)<=(b.length:Int):=ω
 have E:b.length<=c:=by
  rcases own.2 with ⟨l,r⟩|⟨g,o,cur,l,_,_,q,_⟩
  ·omega
  cases l;exact q
 have x:=Y (λj u (C:[yQ d,yQ f][j]?=some u)=>show w.cell? (((yA h 0):Addr).add j)=some u by rw[GY,BK];exact YM (cur:=[yQ d,yQ f]) hv C);have l:=Y own;clear own
 have z:∀(A:xA),A=a->Calls prog 349 #[yI A b.length c,Z (b.length:Int),yI (zY h 0) 1 1] w λe k=>∃i,e=yT i/\k.ownsRow base 122 2 i (b++[(d,f)]).length (LN (b++[(d,f)]))/\Below base w k:=by
  intro A B;subst B
  cases A with
  | none =>
   go_enter func349,ntmps349;go_wp2_with (at_builtin;refine QS _ rfl _ _ 35 rfl base underlying35 v.j rfl ω _ b.length _ rfl l.j (yA h 0) 1 1 [yQ d,yQ f] rfl rfl x.j (XJ _ _) m w.heap.size rfl ?_;intro s i D g e o y;have r:=Y g;have q:=Y e;clear g e o)
   all_goals
    go_ret;exact⟨yI (zY s 0) (b.length+1) i,rfl,by simpa only[vu,AK,EI] using r.j,Ow q.j m (λk t=>(l.j.lt k t).1)⟩
  | some G =>
   go_enter func349,ntmps349;go_wp2_with (at_builtin;refine QS _ rfl _ _ 35 rfl base underlying35 v.j rfl ω _ b.length _ rfl l.j (yA h 0) 1 1 [yQ d,yQ f] rfl rfl x.j (XJ _ _) m w.heap.size rfl ?_;intro s i D g e o y;have r:=Y g;have q:=Y e;clear g e o)
   all_goals
    go_ret;exact⟨yI (zY s 0) (b.length+1) i,rfl,by simpa only[vu,AK,EI] using r.j,Ow q.j m (λk t=>(l.j.lt k t).1)⟩
 exact z a rfl
theorem yP(base:Nat)(v:qD)(b:List Pr)(d f:yZ)(w:xV)(own:w.ownsRow base 122 2 v b.length (LN b))(q:Ph b)(hl:b.length<=1000)(hb:base<=w.heap.size):Calls prog 347 #[.agg #[yQ d,yQ f],v] w λe t=>∃k,e=yT k/\t.ownsRow base 122 2 k (OJ (d,f,false) b).length (LN (OJ (d,f,false) b))/\Ph (OJ (d,f,false) b)/\Below base w t:=by
 obtain⟨a,c,rfl,V⟩:=ou own
 have C:∀o,yX w (w.alloc o):=λo=>LG _ _
 have j:=Y (Tm a b c d _ (V.I (C (.cells #[yQ d,yQ f] 343))) ω (St q d));go_enter func347,ntmps347;go_wp2_with fail;refine j.j.J ?_;rintro e h ⟨p,O,m,o,rfl,g⟩;have i:=(LS w #[yQ d,yQ f] 343).I g;have q0:=i.y 0;have q1:=i.y 1;have lr:=i.lt;have B:=LZ own ((C _).E (g.J (C _).size));have J:Below base w h:=((C _).E (g.J (C _).size)).J hb;have bU:w.heap.size<h.heap.size:=lr;clear i j g
 by_cases H:p<b.length/\Ou (ME b p) d=0
 ·obtain⟨i,r,A,l⟩:=Rn q d p O m o 1 (by rw[AI H])
  have P:∃u,(b.drop p).take 1=[(d,u)]:=A.resolve_left (by intro Q;have:=BC List.length Q;rw[AX,BQ,AT]at this;omega);obtain⟨u,y⟩:=P;have hF:=Rp (d,f,false) (b.take p) ((b.drop p).take 1) (b.drop (p+1)) r A l;have s:=Qz (d,f,false) (b.take p) ((b.drop p).take 1) (b.drop (p+1)) (by rw[<-i];exact q) r l;rw[<-i]at hF;obtain⟨g,M,cur,N,D,j,K,L,E,z⟩:=xj B ω
  cases N
  rw[AM H];have bJ:(0:Int)<=(p:Int):=ω
  have T:(p:Int)<(b.length:Int):=ω
  have S:h.cell? (yA g (p*2+1))=some (yQ u):=by
   refine YM j ?_
   have:(cur.take (b.length*2))[p*2+1]?=some (yQ u):=by
    rw[z,i,y,UV,UV,BV,DW (by rw[VZ,AX];omega),VZ,AX,show p*2+1-min p b.length*2=1 by rw[Nat.min_eq_left ω];omega];rfl
   rw[FO]at this
   split at this
   ·exact this
   cases this
  have R:h.frozen? (yA g (p*2+1))=false:=by simp[World.frozen?,j]
  have G:=setCell_eq_setRow h g (p*2+1) cur.toArray 122 (0,0) (yQ f) j
  have F:(h.setCell (yA g (p*2+1)) (yQ f)).ownsRow base 122 2 (yI (zY g 0) b.length c) (OJ (d,f,false) b).length (LN (OJ (d,f,false) b)):=by
   rw[hF];unfold Sa;simp only[FA,JA];refine ko (cur:=cur.set (p*2+1) (yQ f)) D ?_ K L (by simpa using E) ?_ ?_
   ·rw[G,IY h g _ _ 122 (0,0) j];simp
   ·rw[show b.length*2=b.length*2 from rfl]
    refine Mg (k:=d) (v:=u) (by rw[z];congr 1;rw[<-y];exact i) (by rw[AX];omega) (by rw[BQ];omega)
   simp only[AK,AX,BQ,BJ,AT];omega
  have I:=Y F;have x:Hid (Ph (OJ (d,f,false) b)):=by show Ph _;rw[hF];exact s
  have X:g<h.heap.size:=(AP.1 j).1;clear F s hF i r A l y G j z q own B m o;go_wp2_with fail;go_ret;exact⟨_,rfl,I.j,x.j,J.setCell (p:=(yA g (p*2+1))) D _⟩
 obtain⟨i,r,A,l⟩:=Rn q d p O m o 0 (by rw[AF H])
 have hF:=Rp (d,f,false) (b.take p) ((b.drop p).take 0) (b.drop (p+0)) r A l;have s:=Qz (d,f,false) (b.take p) ((b.drop p).take 0) (b.drop (p+0)) (by rw[<-i];exact q) r l;rw[<-i]at hF;rw[AH H];unfold Sa at hF s;simp only[FA,JA,IN]at hF s i l;have y:OJ (d,f,false) b=b.take p++[(d,f)]++b.drop p:=hF;have bJ:(0:Int)<=(p:Int):=ω
 have F:(h.alloc (.cells #[yQ d,yQ f] 122)).heap[h.heap.size]?=some (.cells #[yQ d,yQ f] 122 (0,0)):=AU h _;have I:=B.alloc (.cells #[yQ d,yQ f] 122);have Q:Below base w (h.alloc (.cells #[yQ d,yQ f] 122)):=J.alloc ω _
 have W:Hid (Calls prog 349 #[yI a b.length c,Z (p:Int),yI (zY h.heap.size 0) 1 1] (h.alloc (.cells #[yQ d,yQ f] 122)) λe t=>∃k,e=yT k/\t.ownsRow base 122 2 k (OJ (d,f,false) b).length (LN (OJ (d,f,false) b))/\Below base (h.alloc (.cells #[yQ d,yQ f] 122)) t):=by
  show Calls _ _ _ _ _;rcases JG O with bQ|U
  ·subst bQ
   rw[DF,List.drop_length,FQ]at y;rw[y];exact Ao base a c b h.heap.size d f _ I F hl τ
  obtain⟨g,M,cur,N,D,j,K,L,E,z⟩:=xj I ω
  cases N
  have P:∀u∈cur.take (b.length*2),u.oneCell'=true:=by rw[z];exact yi b
  have X:g<h.heap.size:=by have:=(B.lt g rfl).2;exact this
  have hcut:cur.take (b.length*2)=LN (b.take p++b.drop p):=by rw[FJ];exact z
  have u:(b.take p).length=p:=by rw[AX];omega
  have T:b.length=p+(b.drop p).length:=by rw[BQ];omega
  rcases JG K with R|S
  ·refine(Kc g b.length p h.heap.size d f cur _ j F (by rw[E,R]) ω U P).J ?_ |> (λx=>by rw[<-R];exact x)
   rintro e t ⟨G,k,rfl,m,o,h3,h4,h5,h6,h7⟩;refine⟨_,rfl,?_,h5.J τ⟩;rw[y];refine ko (cur:=k) τ h7 m o h3 ?_ (by simp only[AK,AX,BQ,BJ,AT];omega);rw[h4,UV,UV];obtain⟨c1,x⟩:=mt hcut u T ω;rw[c1];rw[AR (by rw[BQ];omega)]at x;rw[x];rfl
  refine(Mc g b.length c p h.heap.size d f cur _ j F ω E S ω U P).J ?_
  rintro e t ⟨rfl,m,o⟩;obtain⟨G,t2⟩:=Mv (s0:=d) (s1:=f) hcut u T ω;refine⟨_,rfl,?_,Ow m τ (λk x=>by cases x;exact D)⟩;rw[y];exact ko D o ω L (by rw[t2];exact E) G (by simp only[AK,AX,BQ,BJ,AT];omega)
 have x:Hid (Ph (OJ (d,f,false) b)):=by show Ph _;rw[y];exact s
 have g:=Y Q;clear s hF y i r A l q own B I m o F Q J;go_wp2_with (go_at_call 349;refine W.j.J ?_;rintro e l ⟨k,rfl,j,i⟩);go_ret;exact⟨_,rfl,j,x.j,g.j.E i⟩
end
section
open Tryz
open Go.RowKit Go.Lib
theorem uF(d:Nat)(v:qD)(b:List Pr)(f l:yZ)(w:xV)(own:w.ownsRow d 122 2 v b.length (LN b))(i:Ph b)(W:b.length<=1000)(U:d<=w.heap.size):Calls prog 343 #[.agg #[yQ f],v] w λe c=>∃a,e=yT a/\c.ownsRow d 122 2 a (OJ (f,l,true) b).length (LN (OJ (f,l,true) b))/\Ph (OJ (f,l,true) b)/\Below d w c:=by
 obtain⟨a,c,rfl,M⟩:=ou own
 have q:∀o,yX w (w.alloc o):=λo=>LG _ _
 have h:=Y (Tm a b c f _ (M.I (q (.cells #[yQ f] 341))) ω (St i f));go_enter func343,ntmps343;go_wp2_with fail;refine h.j.J ?_;rintro e B ⟨p,J,t,x,rfl,g⟩;have Z:w.heap.size<B.heap.size:=AC σ g.size;have s:=LZ own ((q _).E (g.J (q _).size));have E:Below d w B:=((q _).E (g.J (q _).size)).J U;clear h g
 by_cases o:p<b.length/\Ou (ME b p) f=0
 ·obtain⟨j,k,m,n⟩:=Rn i f p J t x 1 (by rw[AI o])
  have O:∃A,(b.drop p).take 1=[(f,A)]:=m.resolve_left (by intro T;have:=BC List.length T;rw[AX,BQ,AT]at this;omega);obtain⟨A,I⟩:=O;have hF:=Rp (f,l,true) (b.take p) ((b.drop p).take 1) (b.drop (p+1)) k m n;have y:=Qz (f,l,true) (b.take p) ((b.drop p).take 1) (b.drop (p+1)) (by rw[<-j];exact i) k n;rw[<-j]at hF;unfold Sa at hF y;simp only[IU,FQ]at hF y;obtain⟨g,R,r,S,F,G,P,Q,H,z⟩:=xj s ω
  cases S
  have D:∀u∈r.take (b.length*2),u.oneCell'=true:=by rw[z];exact yi b
  have X:IntKind.i64.wrap ((p:Int)+1)=(p:Int)+1:=by simp[IntKind.wrap,IntKind.bits,IntKind.signed];omega
  rw[AM o];have N:=Y (Dl g b.length c p r B G H P ω o.1 D);obtain⟨K,L⟩:=Cj (x:=(f,A)) (a:=b.take p) (r:=b.drop (p+1)) (n:=b.length) (p:=p) (by rw[z];congr 1;rw[<-I];exact j) (by rw[AX];omega) (by rw[BQ];omega) ω;have C:=Y (AG K L);have h:=Y hF;have u:=Y y;have V:=o.1;clear hF y j k m n I G z i own s t x K L D;go_wp2_with (go_at_call 345;refine N.j.J ?_;rintro e y ⟨rfl,j,m⟩);go_ret;refine⟨_,rfl,?_,by rw[h.j];exact u.j,E.E (Ow j ω (λk n=>by cases n;exact F))⟩;rw[h.j];exact ko F m ω Q (by rw[C.j.2];exact H) C.j.1 (by rw[AK,AX,BQ];omega)
 obtain⟨j,k,m,n⟩:=Rn i f p J t x 0 (by rw[AF o])
 have hF:=Rp (f,l,true) (b.take p) ((b.drop p).take 0) (b.drop (p+0)) k m n;rw[<-j]at hF;unfold Sa at hF;simp only[IU,FQ,IN,FJ]at hF;rw[AH o];have h:=Y hF;have g:=Y s;have u:=Y i;clear hF j k m n i own s t x;go_wp2_with fail;go_ret;exact⟨_,rfl,by rw[h.j];exact g.j,by rw[h.j];exact u.j,E⟩
theorem qY(j:Nat)(v a:qD)(w:xV):Sem.run prog (method (j+1) 343 (.agg #[v,a]) "loop.example/kilnstone/impl.apply") w=.ok (347,.agg #[v,a]) w:=κ
theorem sN(j:Nat)(v:qD)(w:xV):Sem.run prog (method (j+1) 341 (.agg #[v]) "loop.example/kilnstone/impl.apply") w=.ok (343,.agg #[v]) w:=κ
theorem tK(a:xA)(n c:Nat)(h:n<=100)(w:xV):Calls prog 290 #[yI a n c] w λe b=>(∃x,e=yT x)/\b=w:=by
 have b:((n:Int)<=100):=ω
 go_enter func290,ntmps290;go_wp2_with fail;go_end0;exact⟨⟨_,rfl⟩,rfl⟩
theorem sY(a:xA)(n c:Nat)(h:100<n)(w:xV):Calls prog 290 #[yI a n c] w λe b=>e=.panicked [{ v:=.iface 337 (Z 2),recovered:=false }]/\b=w:=by
 have b:((100:Int)<n):=ω
 go_enter func290,ntmps290;go_wp2_with fail;simp[bodyPost]
theorem yW(p q:Addr)(w:xV):CallsD prog 289 #[.pointer (some p),.pointer (some q)] .returning w λe a b=>e=yT (.tuple #[])/\a=.returning/\b=w:=by
 refine callsD_of_wpS func289 rfl λc₀ b a=>?_
 apply wpS_seq
 apply wpS_region
 simp[wpOpsS,go_sem,recoverD,a,ntmps289,Exit.thenS];refine wpS_of_wp ?_;simp only[Array.replicate,List.replicate,CJ,DL,DO,FI,EV,EK];go_wp2
 cases c₀
 simp_all [bodyPostS,results,results289]
theorem vQ(p q:Addr)(a:List PanicEntry)(w:xV)(x:qD)(y:Int)(h:w.cell? p=some x)(i:w.cell? q=some (Z y))(f:w.frozen? p=false)(g:w.frozen? q=false)(d:p≠q):CallsD prog 289 #[.pointer (some p),.pointer (some q)] (.panicking ({ v:=.iface 337 (Z 2),recovered:=false }::a)) w λe b c =>
   e=yT (.tuple #[])/\b=.panicking ({ v:=.iface 337 (Z 2),recovered:=true }::a)/\c=(w.setCell p (yI none 0 0)).setCell q (Z 2):=by
 have c:∀w,(Instr.typeAssert (.iface 337 (Z 2)) 20 337 true).run prog w=.ok (.tuple #[Z 2,yR true]) w:=λw=>κ
 refine callsD_of_wpS func289 rfl λc₀ e b=>?_
 apply wpS_seq
 apply wpS_region
 simp[wpOpsS,go_sem,recoverD,b,ntmps289,Exit.thenS];refine wpS_of_wp ?_;simp only[Array.replicate,List.replicate,CJ,DL,DO,FI,EV,EK];go_wp2
 cases c₀
 simp_all [bodyPostS,results,results289]
end
section
open Tryz
open Go.RowKit
theorem Row.below3{w d:xV}{N g:Nat}{b:List qD}(h:Row w g b)(c:g<N)(a:Below N w d):Row d g b :=⟨AC h.lt a.size,λi v hv=>(a.cell (p:=(yA g i)) c).E (h.cell i v hv),λi e=>(a.frozen (p:=(yA g i)) c).E (h.froz i e)⟩
theorem Bm{w:xV}{b o:Nat}{c:List Pr}(h:Prs w (zY b o) c):∀j u,(LN c)[j]?=some u->w.cell? (((yA b o):Addr).add j)=some u:=λj u a=>by
 rw[GY];have k:j<c.length*2:=by have:=(DI.1 a).1;rw[VZ]at this;exact this
 obtain⟨l,m,n,p,e,g,i,d⟩:=h.at (k:=j / 2) ω
 cases e
 have f:=jc c (j / 2) ω;rcases(show j=j / 2*2\/j=j / 2*2+1 by omega) with e|e
 ·rw[e]at a⊢
  rw[f.1,<-d.j]at a;rw[<-a];exact g
 rw[e]at a⊢
 rw[f.2,<-d.j]at a;rw[<-a,<-KU];exact i
theorem Jv(t e f:TypeId)(b:prog.underlying t=some (.slice e))(d:((prog.info? e).map (·.size)).isSome=true)(a:xA)(c:Nat)(w:xV):(Builtin.append_ #[t,t] f #[yI none 0 0,yI a 0 c]).run prog w=.ok (yI none 0 0) w:=by
 cases hq:prog.info? e with
 | none=>simp[hq]at d
 | some i =>
  cases a with
  | none=>simp[Builtin.append_,GG b,Builtin.lenOf,Builtin.firstCells,sizeOf,typeInfo,hq]
  | some g=>simp[Builtin.append_,GG b,Builtin.lenOf,Builtin.firstCells,sizeOf,typeInfo,hq,loadCells,loadCellsFrom]
structure TB(w wr:xV)(y:qD)(cur:List Pr):Prop where
 own:wr.ownsRow (w.heap.size+1+1+1) 122 2 y cur.length (LN cur)
 asc:Ph cur
 r1:Row wr (w.heap.size+1) [yI none 0 0]
 r2:Row wr (w.heap.size+1+1) [Z 0]
 bel:yX w wr
theorem TB.post{w wr:xV}{c:xA}{d:Nat}{a:List Pr}{x:qD}(h:TB w wr (yI c a.length d) a):YK w ((wr.setCell (yA (w.heap.size+1) 0) (yI c a.length d)).setCell (yA (w.heap.size+1+1) 0) x) (yT (.tuple #[.agg #[yI c a.length d],Z 0])) a 0:=by
 have i:a.length<=d:=by
  rcases h.own.2 with ⟨b,f⟩|⟨g,e,k,b,_,_,j,_⟩
  ·rw[f];omega
  cases b;exact j
 have j:OwnS wr c (LN a):=by
  rcases MC h.own with ⟨_,f⟩|⟨g,e,b,_,_,k⟩
  ·exact .inl (by rw[AD f];rfl)
  cases b;exact .inr ⟨g,rfl,k⟩
 have f:∀g,c=zY g 0->LN a≠[]->w.heap.size+1+1<g:=λg b e=>by subst b;have:=(h.own.lt g rfl).1;omega
 refine⟨c,d,rfl,i,(j.setA _ (λg b e=>by have:=f g b e;show w.heap.size+1≠g;omega) _).setA _ (λg b e=>by have:=f g b e;show w.heap.size+1+1≠g;omega) _,λg b=>?_,(h.bel.setCell (p:=(yA (w.heap.size+1) 0)) (by show w.heap.size<=w.heap.size+1;omega) _).setCell (p:=(yA (w.heap.size+1+1) 0)) (by show w.heap.size<=w.heap.size+1+1;omega) _⟩;unfold blk at b
 split at b
 ·cases b
 cases c with
 | none=>cases b
 | some e =>
  simp at b;subst b;have:=(h.own.lt e.block rfl).1;omega
theorem Fb(a:xA)(g:List Pr)(c:Nat)(N:xA)(b:List Ch)(c2:Nat)(w:xV)(h:Prs w a g)(G:LX g=true)(u:Chs w N b)(H:OM b=true):Calls prog 251 #[LR a g.length c,yI N b.length c2] w λe d=>YK w d e (PH g b) (PK g b):=by
 obtain⟨i0,d,f,i,j⟩:=WE ed;have E:=Y (AG d (AG f (AG i j)));clear d f i j;have cS:g.length<=100:=(ZM G).1;have cL:b.length<=20:=(XW H).1.2;have i:=Us G;have Q:=Y (Sk g b);unfold LR;unfold PH PK;rw[G,H];simp only[Bool.and_self,IU]
 have cT:∀(U:Fn) (first C:Array qD) (w:xV),(Instr.makeFunc U first C).run prog w=.ok (.func U first C) w:=λ_ _ _ _=>rfl
 obtain⟨t,s⟩:∃t,t=((w.alloc (.cells #[yI a g.length c] 37)).alloc (.cells #[yI none 0 0] 37)).alloc (.cells #[Z 0] 3):=⟨_,rfl⟩;have cQ:t.heap.size=w.heap.size+1+1+1:=by rw[s];simp
 have d:yX w t:=by show Below (w.heap.size) w t;rw[s];exact((LG _ _).alloc σ _).alloc ξ _
 have f:Row t w.heap.size [yI a g.length c]:=by rw[s];exact((LS w _ _).alloc _).alloc _
 have j:Row t (w.heap.size+1) [yI none 0 0]:=by rw[s];exact(ey (w:=w.alloc _) σ).alloc _
 have k:Row t (w.heap.size+1+1) [Z 0]:=by rw[s];exact ey (w:=(w.alloc _).alloc _) σ
 have X:=f.y 0;have W:=f.lt;have S:=Y j;have T:=Y k;have P:=Y d;have R:=Y (h.I d);have O:=Y i;clear f j k d i G H
 by_cases V:g.length=0
 case pos =>
  obtain rfl:=AD V;have F:Hid (TB w t (yI none 0 0) []):=⟨BT _ _ _ _,O.j,S.j,T.j,P.j⟩;go_enter_defers func251,ntmps251;go_wp2_with (at_builtin;refine Lib.wpList_append_run _ rfl _ _ 35 35 rfl _ _ rfl rfl _ _ (Jv _ 122 _ underlying35 κ a c _) ?_);simp only[AT]at s;rw[<-s];clear s X W;go_wp2_with fail;go_loopw [6,15] (λy i wr=>∃k:Nat,k<=b.length/\i=Z (k:Int)/\TB w wr y (MV [] (b.take k))) (λ_ i _=>b.length-(intOf i).toNat)
  case atStart =>
   exact⟨0,AL _,rfl,F.j⟩
  case round =>
   obtain⟨k,K,rfl,f⟩:=hrel;have J:=Q.j k;have cP:w.heap.size+1<wr.heap.size:=f.r1.lt;have bG:w.heap.size+1+1<wr.heap.size:=f.r2.lt
   by_cases A:k<b.length
   ·obtain⟨I,oo,o,p,D,rfl,cF,cH,cI,j⟩:=(u.I f.bel).at A
    have bE:I<w.heap.size:=by
     rcases u with h|⟨l,m,d,u,_⟩
     ·subst h;simp at A
     cases d;exact u
    have bF:(k:Int)<(b.length:Int):=ω
    have cJ:(0:Int)<=(k:Int):=ω
    have n:MV [] (b.take (k+1))=OJ (o,p,D) (MV [] (b.take k)):=by rw[mo b k (empty,empty,false) A,Qe,<-j.j]
    have x:=Y n;obtain⟨l,m⟩:∃l,l=MV [] (b.take k):=⟨_,rfl⟩;rw[<-m]at f x J;have d:=Y f;clear n m j f;have aT:=qY;have aU:=sN
    cases D with
    | false =>
     go_wp2_with (first|(go_at_call 252;refine(sg o p _).J ?_;rintro e r ⟨rfl,q⟩;have j:=((AB wr.heap.size wr).alloc (AA _) (.cells #[yQ o,yQ p,yR false] 92)).E (q.J σ);have v:=Y (yP (w.heap.size+1+1+1) _ l o p r (LZ d.j.own j) d.j.asc ω (by have:=j.size;omega));have m:=Y j;clear q j)|(go_at_call 347;refine v.j.J ?_;rintro e M ⟨L,rfl,B,z,n⟩))
     refine⟨⟨k+1,ω,ν,?_⟩,by simp[intOf];omega⟩;rw[x.j];exact⟨B,z,(d.j.r1.I m.j).below3 ω n,(d.j.r2.I m.j).below3 ω n,d.j.bel.E ((m.j.J d.j.bel.size).E (n.J ω))⟩
    | true =>
     go_wp2_with (first|(go_at_call 252;refine(ud o p _).J ?_;rintro e r ⟨rfl,q⟩;have j:=((AB wr.heap.size wr).alloc (AA _) (.cells #[yQ o,yQ p,yR true] 92)).E (q.J σ);have v:=Y (uF (w.heap.size+1+1+1) _ l o p r (LZ d.j.own j) d.j.asc ω (by have:=j.size;omega));have m:=Y j;clear q j)|(go_at_call 343;refine v.j.J ?_;rintro e M ⟨L,rfl,B,z,n⟩))
     refine⟨⟨k+1,ω,ν,?_⟩,by simp[intOf];omega⟩;rw[x.j];exact⟨B,z,(d.j.r1.I m.j).below3 ω n,(d.j.r2.I m.j).below3 ω n,d.j.bel.E ((m.j.J d.j.bel.size).E (n.J ω))⟩
   have m:k=b.length:=ω
   subst m;rw[DF]at f;obtain⟨v,z,rfl,n⟩:=ou f.own;have j:=f.r1.y 0;have o:=f.r1.A 0;have l:=f.r2.y 0;have p:=f.r2.A 0;have d:=Y f;clear f n
   by_cases f:(MV [] b).length<=100
   focus
    go_wp2_with (go_at_call 290;refine(tK _ _ _ f _).J ?_;rintro e r ⟨⟨x,rfl⟩,rfl⟩)
   rotate_left
   focus
    go_wp2_with (go_at_call 290;refine(sY _ _ _ ω _).J ?_;rintro e r ⟨rfl,rfl⟩)
   rotate_left
   all_goals
    refine leaves_cons (f:=289) (args:=#[zW (w.heap.size+1) 0,zW (w.heap.size+1+1) 0]) σ (by simp[go_sem]) ?_
   ·refine(yW _ _ _).J ?_
    rintro e q n ⟨rfl,rfl,rfl⟩;simp[Leaves,settle,results,results251,go_sem,j,l];exact d.j.post
   refine(vQ _ _ [] _ _ _ j l o p σ).J ?_
   rintro e q n ⟨rfl,rfl,rfl⟩;simp[Leaves,settle,results,results251,go_sem,j,l];exact az rfl ((d.j.bel.setCell (p:=(yA (w.heap.size+1) 0)) (by show w.heap.size<=w.heap.size+1;omega) _).setCell (p:=(yA (w.heap.size+1+1) 0)) (by show w.heap.size<=w.heap.size+1+1;omega) _)
 case neg =>
  have cO:=R.j;rcases cO with h0|⟨ab,ao,rfl,o,n⟩
  ·exact absurd (by rw[h0];rfl) V
  have l:=Y (Bm R.j);have cN:0<g.length:=ω
  go_enter_defers func251,ntmps251;go_wp2_with (at_builtin;rw[<-s];refine wpList_append_lies _ rfl _ _ 35 rfl (w.heap.size+1+1+1) 122 i0 (.agg #[yQ empty,yQ empty]) 2 32 underlying35 E.j.1 E.j.2.1 E.j.2.2.1 E.j.2.2.2 rfl ω _ 0 [] rfl (BT _ _ _ _) (yA ab ao) g.length c (LN g) rfl (VZ g) l.j (yi g) cN (by unfold maxLen;omega) ω ω t.heap.size rfl ?_;intro g9 aY w9 f j m cM;have d:yX t w9:=Ow j (AA _) (λk K=>by cases K);have F:Hid (TB w w9 (yI (zY g9 0) (0+g.length) aY) g):=Y (by rw[BK]at f;exact⟨by rw[BK];simpa using f,O.j,S.j.I d,T.j.I d,P.j.E (d.J ω)⟩);clear f j m d);clear s X W o n l;go_wp2_with fail;go_loopw [6,15] (λy i wr=>∃k:Nat,k<=b.length/\i=Z (k:Int)/\TB w wr y (MV g (b.take k))) (λ_ i _=>b.length-(intOf i).toNat)
  case atStart =>
   exact⟨0,AL _,rfl,by rw[BK]at F;exact F.j⟩
  case round =>
   obtain⟨k,K,rfl,f⟩:=hrel;have J:=Q.j k;have cP:w.heap.size+1<wr.heap.size:=f.r1.lt;have bG:w.heap.size+1+1<wr.heap.size:=f.r2.lt
   by_cases A:k<b.length
   ·obtain⟨I,oo,o,p,D,rfl,cF,cH,cI,j⟩:=(u.I f.bel).at A
    have bE:I<w.heap.size:=by
     rcases u with h|⟨l,m,d,u,_⟩
     ·subst h;simp at A
     cases d;exact u
    have bF:(k:Int)<(b.length:Int):=ω
    have cJ:(0:Int)<=(k:Int):=ω
    have n:MV g (b.take (k+1))=OJ (o,p,D) (MV g (b.take k)):=by rw[mo b k (empty,empty,false) A,Qe,<-j.j]
    have x:=Y n;obtain⟨l,m⟩:∃l,l=MV g (b.take k):=⟨_,rfl⟩;rw[<-m]at f x J;have d:=Y f;clear n m j f;have aT:=qY;have aU:=sN
    cases D with
    | false =>
     go_wp2_with (first|(go_at_call 252;refine(sg o p _).J ?_;rintro e r ⟨rfl,q⟩;have j:=((AB wr.heap.size wr).alloc (AA _) (.cells #[yQ o,yQ p,yR false] 92)).E (q.J σ);have v:=Y (yP (w.heap.size+1+1+1) _ l o p r (LZ d.j.own j) d.j.asc ω (by have:=j.size;omega));have m:=Y j;clear q j)|(go_at_call 347;refine v.j.J ?_;rintro e M ⟨L,rfl,B,z,n⟩))
     refine⟨⟨k+1,ω,ν,?_⟩,by simp[intOf];omega⟩;rw[x.j];exact⟨B,z,(d.j.r1.I m.j).below3 ω n,(d.j.r2.I m.j).below3 ω n,d.j.bel.E ((m.j.J d.j.bel.size).E (n.J ω))⟩
    | true =>
     go_wp2_with (first|(go_at_call 252;refine(ud o p _).J ?_;rintro e r ⟨rfl,q⟩;have j:=((AB wr.heap.size wr).alloc (AA _) (.cells #[yQ o,yQ p,yR true] 92)).E (q.J σ);have v:=Y (uF (w.heap.size+1+1+1) _ l o p r (LZ d.j.own j) d.j.asc ω (by have:=j.size;omega));have m:=Y j;clear q j)|(go_at_call 343;refine v.j.J ?_;rintro e M ⟨L,rfl,B,z,n⟩))
     refine⟨⟨k+1,ω,ν,?_⟩,by simp[intOf];omega⟩;rw[x.j];exact⟨B,z,(d.j.r1.I m.j).below3 ω n,(d.j.r2.I m.j).below3 ω n,d.j.bel.E ((m.j.J d.j.bel.size).E (n.J ω))⟩
   have m:k=b.length:=ω
   subst m;rw[DF]at f;obtain⟨v,z,rfl,n⟩:=ou f.own;have j:=f.r1.y 0;have o:=f.r1.A 0;have l:=f.r2.y 0;have p:=f.r2.A 0;have d:=Y f;clear f n
   by_cases f:(MV g b).length<=100
   focus
    go_wp2_with (go_at_call 290;refine(tK _ _ _ f _).J ?_;rintro e r ⟨⟨x,rfl⟩,rfl⟩)
   rotate_left
   focus
    go_wp2_with (go_at_call 290;refine(sY _ _ _ ω _).J ?_;rintro e r ⟨rfl,rfl⟩)
   rotate_left
   all_goals
    refine leaves_cons (f:=289) (args:=#[zW (w.heap.size+1) 0,zW (w.heap.size+1+1) 0]) σ (by simp[go_sem]) ?_
   ·refine(yW _ _ _).J ?_
    rintro e q n ⟨rfl,rfl,rfl⟩;simp[Leaves,settle,results,results251,go_sem,j,l];exact d.j.post
   refine(vQ _ _ [] _ _ _ j l o p σ).J ?_
   rintro e q n ⟨rfl,rfl,rfl⟩;simp[Leaves,settle,results,results251,go_sem,j,l];exact az rfl ((d.j.bel.setCell (p:=(yA (w.heap.size+1) 0)) (by show w.heap.size<=w.heap.size+1;omega) _).setCell (p:=(yA (w.heap.size+1+1) 0)) (by show w.heap.size<=w.heap.size+1+1;omega) _)
theorem sV(a:xA)(f:List Pr)(c:Nat)(s:xA)(b:List Ch)(y:Nat)(w:xV)(h:Prs w a f)(O:f.length<=1048576)(P:∀x∈f,x.1.size<=1048576/\x.2.size<=1048576)(A:Chs w s b)(M:b.length<=1048576)(N:∀x∈b,x.1.size<=1048576/\x.2.1.size<=1048576):Calls prog 202 #[LR a f.length c,yI s b.length y] w λe d=>YK w d e (PH f b) (PK f b):=by
 have o:=Y (λd i=>ei a f c d i O P);have v:=Y (λd i=>de s b y d i M N);have u:=Y (λd i g j k=>Fb a f c s b y d i g j k)
 have i:∀d j,yX w ((w.alloc d).alloc j):=λd j=>(LG _ _).alloc σ _
 obtain⟨R,n⟩:∃R,R=PH f b:=⟨_,rfl⟩;obtain⟨C,j⟩:∃C,C=PK f b:=⟨_,rfl⟩;rw[<-n,<-j]at u⊢;unfold YK at u;unfold LR at u⊢
 cases g:LX f with
 | false =>
  have p:C=1:=by rw[j];unfold PK;rw[g];rfl
  have z:R=[]:=by rw[n];unfold PH;rw[<-j,p];rfl
  subst z p;rw[g]at o;clear n j;go_enter func202,ntmps202;go_wp2_with (go_at_call 114;refine(o.j _ (h.I (i _ _))).J ?_;rintro e r ⟨rfl,d⟩;have q:r.cell? (yA (w.heap.size+1) 0)=some (yI none 0 0):=NF d γ σ;have F:r.frozen? (yA (w.heap.size+1) 0)=false:=RW d γ σ;have G:w.heap.size+1<r.heap.size:=AC σ d.size);refine AE (v:=.tuple #[LR none 0 0,Z 1]) (by simp[results,results202,go_sem,LR,q]) rfl (az rfl ?_);exact((i _ _).E (d.J τ)).setCell (p:=(yA (w.heap.size+1) 0)) (by show w.heap.size<=w.heap.size+1;omega) _
 | true =>
  rw[g]at o
  cases k:OM b with
  | false =>
   have p:C=1:=by rw[j];unfold PK;rw[g,k];rfl
   have z:R=[]:=by rw[n];unfold PH;rw[<-j,p];rfl
   subst z p;rw[k]at v;clear n j;go_enter func202,ntmps202
   go_wp2_with (first|(go_at_call 114;refine(o.j _ (h.I (i _ _))).J ?_;rintro e r ⟨rfl,d⟩;have m:=Y d;clear d)|(go_at_call 201;refine(v.j _ (A.I ((i _ _).E (m.j.J τ)))).J ?_;rintro e l ⟨rfl,x⟩;have d:=m.j;have t:=d.E (x.J d.size);have q:l.cell? (yA (w.heap.size+1) 0)=some (yI none 0 0):=NF t γ σ;have F:l.frozen? (yA (w.heap.size+1) 0)=false:=RW t γ σ;have G:w.heap.size+1<l.heap.size:=AC σ t.size))
   refine AE (v:=.tuple #[LR none 0 0,Z 1]) (by simp[results,results202,go_sem,LR,q]) rfl (az rfl ?_);exact((i _ _).E (t.J τ)).setCell (p:=(yA (w.heap.size+1) 0)) (by show w.heap.size<=w.heap.size+1;omega) _
  | true =>
   rw[k]at v;clear n j;have K:=Y g;have H:=Y k;clear g k;go_enter func202,ntmps202
   go_wp2_with (first|(go_at_call 114;refine(o.j _ (h.I (i _ _))).J ?_;rintro e r ⟨rfl,d⟩;have m:=Y d;clear d)|(go_at_call 201;refine(v.j _ (A.I ((i _ _).E (m.j.J τ)))).J ?_;rintro e l ⟨rfl,x⟩;have j:=Y (m.j.E (x.J m.j.size));clear x;have S:l.cell? (yA w.heap.size 0)=some (yI a f.length c):=NF j.j γ τ)|(go_at_call 251;have g:yX w l:=(i _ _).E (j.j.J τ);refine(u.j _ (h.I g) K.j (A.I g) H.j).J ?_;rintro e p ⟨t,E,rfl,L,D,B,n⟩;have k:=j.j.E (n.J j.j.size);have q:p.cell? (yA (w.heap.size+1) 0)=some (yI none 0 0):=NF k γ σ;have F:p.frozen? (yA (w.heap.size+1) 0)=false:=RW k γ σ;have G:w.heap.size+1<p.heap.size:=AC σ k.size;have Q:w.heap.size+1<l.heap.size:=AC σ j.j.size;have J:=Y D;have z:=Y B;have I:=Y (g.E (n.J g.size));clear D B n k g))
   refine AE (v:=.tuple #[LR t R.length E,Z C]) (by simp[results,results202,go_sem,LR,q]) rfl ⟨t,E,rfl,L,?_,λg d=>by have:=z.j g d;omega,?_⟩
   ·exact J.j.setA _ (λg d k=>by have:=z.j g (by subst d;exact ML _ _ _ (tj k));show w.heap.size+1≠g;omega) _
   exact I.j.setCell (p:=(yA (w.heap.size+1) 0)) (by show w.heap.size<=w.heap.size+1;omega) _
theorem Nh(a:xA)(d:List yZ)(c:Nat)(w:xV)(h:Strs w a d)(hl:d.length<=1000)(hs:∀e∈d,e.size<=1048576):Calls prog 168 #[yI a d.length c] w λe b=>qk w b e (NV d []):=by
 obtain⟨r,T⟩:∃r,Hid (r=NV d []):=⟨_,Y rfl⟩;rw[<-T.j];have HH:=Y h;have HS:=Y hs;clear h hs;go_enter func168,ntmps168;go_wp2;go_loopw [13] (λb wr=>∃(i:Nat) (f:List Pr) (A:xA) (B:Nat) (W:xV),W=wr/\b=Z (i:Int)/\i<=d.length/\LX f=true/\Hid (NV (d.drop i) f=r)/\FdB w W f A B) (λb _=>((d.length:Int)-intOf b).toNat)
 case atStart =>
  exact⟨0,[],none,0,_,rfl,rfl,AL _,VB,by show _=_;rw[T.j];rfl,FdB.new w⟩
 case round =>
  obtain⟨i,f,A,B,wr,rfl,rfl,hi,g,v,D⟩:=hrel;have p:=Y D;have R:=D.st.y 0;have O:=D.st.lt;have I:=D.rb.y 0;have N:=D.rb.lt;have M:=D.rb.A 0;have b:=UN g;have bU:=b.1;have bJ:=Y g;have bB:=Y b.2;clear g b D
  by_cases Q:i<d.length
  ·have aU:(i:Int)<(d.length:Int):=ω
   have bR:(0:Int)<=(i:Int):=ω
   have bV:IntKind.i64.wrap ((i:Int)+1)=(i:Int)+1:=by simp[IntKind.wrap,IntKind.bits,IntKind.signed];omega
   obtain⟨b,o,s,rfl,J,S⟩:=(HH.j.I p.j.be).at Q;have bF:s.size<=1048576:=HS.j s (by rw[S.j];simp[List.getD,Q]);have g:d.drop i=s::d.drop (i+1):=by rw[S.j];simp[List.getD,Q]
   have bP:b<wr.heap.size:=by have:=DQ wr _ J;simpa using this
   have y:=Y (λj=>Gi s j bF);rw[sC]at y;rw[g]at v;have bI:=Y g;clear g
   cases hR:UM s with
   | none =>
    rw[hR]at y;have q:Hid (r=none):=by show _=_;rw[<-v.j];exact tF hR
    clear hR;go_wp2_with fail;refine(y.j _).J ?_;rintro e w5 ⟨X,cb,rfl,_,_,t⟩;simp only[JS,JH,AT];have j:=p.j.I t;have x:=Y j;have z:=j.rb.y 0;have P:=j.rb.lt;have F:=j.rb.A 0;clear R O I N M j t J;go_wp2;refine AE (v:=.tuple #[LR none 0 0,yR false]) (by simp[results,results168,go_sem,z,LR]) rfl ?_;rw[q.j];exact⟨none,0,rfl,AA _,.inl rfl,λg n=>(by cases n),x.j.be.setCell (by show w.heap.size<=w.heap.size;omega) _⟩
   | some m =>
    rw[hR]at y;have j:=nM (tE hR);have aY:=Y j.2;have bC:=j.1;clear j
    by_cases l:PK f m=0
    focus
     have q:Hid (NV (d.drop (i+1)) (MV f m)=r):=by show _=_;rw[<-v.j];exact(oU hR l).symm
     have z:PH f m=MV f m:=by unfold PH;rw[AI l]
     have aZ:=Y (Ro l)
    rotate_left
    focus
     have q:Hid (r=none):=by show _=_;rw[<-v.j];exact uW hR l
     have z:PH f m=[]:=by unfold PH;rw[AF l]
     have bQ:(PK f m == 0)=false:=by simp[l]
     have bE:(PK f m != 0)=true:=by simp[l]
    rotate_left
    all_goals
     clear hR;go_wp2_with fail;refine(y.j _).J ?_;rintro e w5 ⟨X,cb,rfl,F,P,t⟩;simp only[GC,JI]at F P⊢;have j:=p.j.I t;have x:=Y j;have r1:=j.st.y 0;have V:=j.st.lt;have D:=Y (sV A f B X m cb w5 j.own.prs ω bB.j (yS F) ω aY.j)
    ·rw[z,l]at D
     clear R O I N M j t J F P;go_wp2_with fail;refine D.j.J ?_;rintro e K ⟨C,H,rfl,U,G,E,u⟩;have k:=(x.j.I u).I (Oq K (.cells #[yI C (MV f m).length H] 37));have L:=Y (k.set G U (λg n=>by have:=E g n;omega));have x1:=k.st.y 0;have bW:=k.st.A 0;have bY:=k.st.lt;have x6:K.heap.size≠w.heap.size+1:=by have:=(x.j.I u).st.lt;omega
     clear r1 V k u G E l z;go_wp2;exact⟨⟨i+1,_,C,H,_,rfl,σ,ω,aZ.j,q,L.j⟩,by simp[intOf];omega⟩
    rw[z]at D
    clear R O I N M j t J F P z;go_wp2_with fail;refine D.j.J ?_;rintro e K ⟨C,H,rfl,U,G,E,u⟩;have k:=(x.j.I u).I (Oq K (.cells #[yI C 0 H] 37));have L:=Y k;have z:=k.rb.y 0;have P:=k.rb.lt;have F:=k.rb.A 0;clear r1 V k u G E;go_wp2;refine AE (v:=.tuple #[LR none 0 0,yR false]) (by simp[results,results168,go_sem,z,LR]) rfl ?_;rw[q.j];exact⟨none,0,rfl,AA _,.inl rfl,λg n=>(by cases n),L.j.be.setCell (by show w.heap.size<=w.heap.size;omega) _⟩
  have q:Hid (r=some f):=by show _=_;rw[<-v.j,DY ω];rfl
  have aU:¬((i:Int)<(d.length:Int)):=ω
  have j:¬(w.heap.size=w.heap.size+1):=ω
  go_wp2;refine AE (v:=.tuple #[LR A f.length B,yR true]) (by simp[results,results168,go_sem,I,LR]) rfl ?_;rw[q.j];refine⟨A,B,rfl,p.j.cap,OwnS.setF p.j.own (yA w.heap.size 0) (λg n b=>?_) _,λg n=>by have:=p.j.lo g n;omega,p.j.be.setCell (by show w.heap.size<=w.heap.size;omega) _⟩;have:=p.j.lo g (by subst n;exact ML _ _ _ (ue b));show w.heap.size≠g;omega
