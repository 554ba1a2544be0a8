import Derived.Test.YteflhojcomcfaaaGreatDoorPrAr
import Derived.Deep.Onto
import Derived.Test.YteflhojcomcfaaaGreatDoorPrG40
import Derived.Test.YteflhojcomcfaaaGreatDoorPrCutI
import Derived.Deep.AppendSrc
import Derived.Laws.IdiomCopy
import Derived.Great.BuildSlice
import Derived.Laws.ResultCell
set_option maxHeartbeats 16000000
set_option maxRecDepth 8000
set_option linter.all false
namespace Go.Proofs.YteflhojcomcfaaaGreatDoor
open _root_.ByteArray(empty)
section
open Tryz
open Go.RowKit
variable {K:Act->Q9->Prop}{aH:Array Oper}{Q:Exit->Act->Q9->Prop}{g k:Nat}{o:Oper}{a:Q5}{P:Program}{E:Prop}{w w' w1:Q9}
def Plt(w:Q9)(a:Q5)(c:List (List Int)):Prop :=c=[]\/∃b o,a=Hw b o/\b<w.heap.size/\∀i,i<c.length->w.rangeAt b (o+i*64) ((c.getD i []).map (Value.int .u8))
def Hld(w:Q9)(a:Q5)(c:List (Int×List Int)):Prop :=c=[]\/∃b o,a=Hw b o/\b<w.heap.size/\∀i,i<c.length->w.rangeAt b (o+i*65) (Z (c.getD i (0,[])).1::(c.getD i (0,[])).2.map (Value.int .u8))
theorem RE{b o:Nat}{c:List Ra}(h:w.rangeAt b o c)(e:Q3 w w')(d:b<w.heap.size):w'.rangeAt b o c:=λj v hv=>(e.cell (p:=(Ki b (o+j))) d).E (h j v hv)
theorem Plt.I{e:List (List Int)}(h:Plt w a e)(d:Q3 w w'):Plt w' a e:=by
 rcases h with h|⟨b,o,f,c,j⟩
 .exact .inl h
 exact .inr ⟨b,o,f,AC c d.size,λi l=>RE (j i l) d c⟩
theorem Hld.I{e:List (Int×List Int)}(h:Hld w a e)(d:Q3 w w'):Hld w' a e:=by
 rcases h with h|⟨b,o,f,c,j⟩
 .exact .inl h
 exact .inr ⟨b,o,f,AC c d.size,λi l=>RE (j i l) d c⟩
theorem Plt.at{c:List (List Int)}(h:Plt w a c)(d:k<c.length):∃b o x,a=Hw b o/\b<w.heap.size/\w.rangeAt b (o+k*64) (x.map (Value.int .u8))/\Hid (x=c.getD k []):=by
 rcases h with h|⟨b,o,e,f,i⟩
 .subst h;simp at d
 exact⟨b,o,_,e,f,i k d,LE rfl⟩
theorem Hld.at{c:List (Int×List Int)}(h:Hld w a c)(d:k<c.length):∃b o n x,a=Hw b o/\b<w.heap.size/\w.rangeAt b (o+k*65) (Z n::x.map (Value.int .u8))/\Hid ((n,x)=c.getD k (0,[])):=by
 rcases h with h|⟨b,o,e,f,i⟩
 .subst h;simp at d
 exact⟨b,o,_,_,e,f,i k d,LE rfl⟩
theorem PC(n:Int)(b:List Int):∀v∈Z n::b.map (Value.int .u8),v.oneCell'=true:=λv hv=>by
 rcases DZ.1 hv with rfl|hv
 .rfl
 exact YV b v hv
theorem YF(w:Q9)(A:Array Ra)(t:TypeId):(w.alloc (.cells A t)).there w.heap.size 0 A.size:=λj b=>by
 rw[BK,EI _ _ _ _ z,DU];exact⟨by simp[b],de _ _ _ C⟩
theorem LN{l:Array Oper}{f:List Oper}{c:Oper}{a:Act}(p:c.guard=none)(e:TypeId)(x y:Operand)(s:c.op=.store e x y)
  (b:List Ra)(q:∀v∈b,v.oneCell'=true)(z:a.eval x=Dr w.heap.size 0)(B:a.eval y=.agg b.toArray)(A:Array Ra)(t:TypeId)(r:A.size=b.length)
  (m:(P.info? e).map (·.size)=some b.length)
  (h:∀d,Row d w.heap.size b->Q3 w d->d.heap.size=w.heap.size+1->wpList P l Q f (a.put c.dst undef) d):wpList P l Q (c::f) a (w.alloc (.cells A t)):=by
 have d:=YF w A t;rw[r]at d;have n:b.toArray.size=b.length:=j
 refine BV p e x y s w.heap.size 0 _ z B (by rw[n];exact d) (by rw[n];exact m) (GH q) ?_;have u:=EG (w.alloc (.cells A t)) w.heap.size 0 b d;refine h _ ⟨by rw[UV];simp,λi v hv=>?_,λi m=>?_⟩ (Go.below_setCells C _ _ _ (LH _ _)) (by rw[UV];simp)
 .have:=u i v hv
  simpa using this
 rw[ET,DU];exact de _ _ _ C
theorem Row.text{j:List Ra}(h:Row w g j)(c:List Int)(o n b:Nat)(s:c.length=n)(l:∀i,i<n->j[o+i]?=some (.int .u8 (c.getD i 0)))(f e d:TypeId)(r:P.underlying f=some (.slice e))(p:P.underlying e=some (.int .u8))(m:P.underlying d=some .string):(convert f d (Y (Hw g o) n b)).run P w=.ok (Ow (strOfNums c)) w :=EO (P:=P) w f e r p g o n b c s (λi q=>h.cell _ _ (l i q)) d m
theorem Dsk.start3(w:Q9)(d f:Ra)(h i j e l:TypeId):Dsk w (((w.alloc (.cells #[d,f] h)).alloc (.cells #[Y none 0 0,Y none 0 0] i)).alloc (.cells #[Y none 0 0,Y none 0 0] j)) (w.heap.size+1) (w.heap.size+1+1) (w.heap.size+1+1+1) e l (Y none 0 0) (Y none 0 0) [] []:=by
 have m:Q3 w (((w.alloc (.cells #[d,f] h)).alloc (.cells #[Y none 0 0,Y none 0 0] i)).alloc (.cells #[Y none 0 0,Y none 0 0] j)):=((LH _ _).alloc σ _).alloc τ _;have b:=(LZ (w.alloc (.cells #[d,f] h)) #[Y none 0 0,Y none 0 0] i).alloc (.cells #[Y none 0 0,Y none 0 0] j);have c:=LZ ((w.alloc (.cells #[d,f] h)).alloc (.cells #[Y none 0 0,Y none 0 0] i)) #[Y none 0 0,Y none 0 0] j;simp only[BG]at b c;exact⟨ω,ω,ω,ω,ω,σ,m,b.y 0,b.y 1,b.A 0,b.A 1,c.y 0,c.y 1,c.A 0,c.A 1,BU _ _ _ _,BU _ _ _ _,.inl rfl⟩
theorem Dsk.far{W:Q9}{R D c:Nat}{e f:TypeId}{v t:Ra}{s:List Q4}{x:List (Int×Q4)}(h:Dsk W w R D c e f v t s x)(n:w.grownBy w1 v.ownBlock)(b i j:Nat)(m:b<c)(p:b≠D)(u:Ra):(w1.setCell (Ki D j) u).cell? (Ki b i)=w.cell? (Ki b i):=by
 have q:b<w.heap.size:=AC m h.sz
 have r:some b≠v.ownBlock:=λd=>by have:=(h.own.lt b d.symm).1;omega
 rw[DE (w:=w1) (h:=show((Ki D j):Addr)≠(Ki b i) fromλd=>p (by injection d with l;exact l.symm))];exact n.cell_far (Ki b i) q r
def LW(b:List (List Int)):List Q4:=b.map strOfNums
def held(b:List (Int×List Int)):List (Int×Q4):=b.map λx=>(x.1,strOfNums x.2)
def QX:Array Ra:=#[Z 0]++Array.replicate 64 (.int .u8 0)
theorem PJ(w:Q9):(zeroValue 123).run prog w=.ok (.agg QX) w:=h
theorem YE(b:List (List Int))(k:Nat)(h:k<b.length):LW (b.take (k+1))=LW (b.take k)++[strOfNums (b.getD k [])]:=by
 unfold LW;rw[BJ h,DC];simp[List.getD,h]
theorem XW(b:List (Int×List Int))(k:Nat)(h:k<b.length):held (b.take (k+1))=held (b.take k)++[((b.getD k (0,[])).1,strOfNums (b.getD k (0,[])).2)]:=by
 unfold held;rw[BJ h,DC];simp[List.getD,h]
def jb:Ra:=.agg (Array.replicate 64 (.int .u8 0))
theorem XA:(prog.info? 121).map (λi=>(i.zero,i.size,i.bytes))=some (some jb,64,64):=h
theorem TI(n:Nat):(madeCells jb.cells (n*64)).toList=List.replicate (n*64) (.int .u8 0):=by
 unfold madeCells;rw[KV,KI,JP];refine⟨j,λb e=>?_⟩;obtain⟨i,_,rfl⟩:=DW.1 e;have d:jb.cells=Array.replicate 64 (.int .u8 0):=z;have c:i % (Array.replicate 64 (Value.int .u8 0)).size<64:=by rw[Array.size_replicate];omega
 rw[d];rw[getElem!_pos _ _ (by rw[Array.size_replicate]at c⊢;exact c)];simp
theorem ZQ{n:Nat}(h:Row w g (List.replicate (n*64) (.int .u8 0))):Plt w (Hw g 0) (List.replicate n (List.replicate 64 0)):=by
 refine .inr ⟨g,0,z,h.lt,λi b j v hv=>?_⟩;rw[DX]at b;have e:(List.replicate n (List.replicate 64 (0:Int))).getD i []=List.replicate 64 0:=by rw[AY,EP,G b];rfl
 rw[e,List.map_replicate,EP]at hv
 by_cases c:j<64
 .rw[G c]at hv
  cases hv
  rw[BK];exact h.cell _ _ (by rw[EP,G d])
 rw[A c]at hv;cases hv
theorem nB(n:Nat)(h:0<n):Builtin.nextslicecap n 0=n:=by
 unfold Builtin.nextslicecap;simp;omega
theorem QU{a:Act}
  (T:o.guard=none)(s x:Operand)(t:TypeId)(A:o.op=.call { callee:=.builtin .append,args:=#[s,x],argTypes:=#[t,t] })
  (e:TypeId)(i:TypeInfo)(f:Ra)(m r:Nat)(J:P.underlying t=some (.slice e))(B:P.info? e=some i)(W:i.zero=some f)(N:i.size=m)(S:i.bytes=r)
  (b:Nat)(I:a.eval s=Y (Hw b 0) 0 0)(v:Ra)(M:a.eval x=v)(n:Nat)(l:List Ra)(y:Src P m t v n l w)(X:l.length=n*m)(q:n<=1048576)(R:n*r<=281474976710656)
  (h:∀g c p,(n=0\/(g=w.heap.size/\Row p g l))->Q3 w p->K (a.put o.dst (Y (Hw g 0) n c)) p):if Region.wanted o (yielded aH a.tmps)=true then Oper.wp P o a w K Q else E:=by
 have V:Region.wanted o (yielded aH a.tmps)=true:=by simp[Region.wanted,T]
 rw[G V];subst N S
 by_cases U:n=0
 .subst U
  have c:l=[]:=AD d;subst c;have p:=run_append_room_src (P:=P) w t t o.type e i J B b 0 0 0 v 0 [] y d j j;unfold Oper.wp;simp[execOp,A,resolve,invoke,builtin,I,M,p,Result.andThen];exact h b 0 _ (.inl z) D
 have O:(Builtin.firstCells i.size 0 (Y (Hw b 0) 0 0)).run P w.drew=.ok ([]:List Ra).toArray w.drew:=GI w.drew i.size 0 _ 0 0 [] j j
 have p:=run_append_grow_src (P:=P) w t t o.type e i f J B W (Hw b 0) 0 0 [] O v n l y d d (by rw[BK,nB n d];exact R);unfold Oper.wp;simp[execOp,A,resolve,invoke,builtin,I,M,p,Result.andThen];refine h w.heap.size _ _ (.inr ⟨z,?_⟩) ((D).drew.alloc C _);have H:=LZ w.drew ((([]:List Ra)++l).toArray++Builtin.zeroCells f.cells (grownCap w (0+n) 0 e-(0+n))) e;refine⟨j,λc u L=>?_,λc F=>?_⟩
 .have:=H.cell c u (by
   obtain⟨F,_⟩:=DJ.1 L
   simp[BO F,L])
  simpa using this
 have:=H.froz c τ
 simpa using this
theorem PG{f:List Q4}(h:Strs w a f)(t e:TypeId)(l:P.underlying t=some (.slice e))(c:Nat):Src P 1 t (Y a f.length c) f.length (f.map Value.string) w:=by
 rcases h with h|⟨b,o,rfl,p,n⟩
 .subst h
  cases a with
  | none=>exact Src.ofNil w l c
  | some x=>exact Src.ofSlice w l x 0 c [] j j j
 refine Src.ofSlice w l (Ki b o) f.length c _ j (λd u m=>?_) (λu m=>by obtain⟨s,_,rfl⟩:=DW.1 m;rfl)
 obtain⟨i,e⟩:=DJ.1 m;simp only[BP]at i;have m:((Ki b o):Addr).add d=(Ki b (o+d)):=by unfold Addr.add;split<;>simp_all
 rw[m,n d i,<-e];simp[List.getD,i]
theorem du{i:List (Int×Q4)}(h:Wrs w a i)(t e:TypeId)(n:P.underlying t=some (.slice e))(c:Nat):Src P 2 t (Y a i.length c) i.length (MZ i) w:=by
 rcases h with h|⟨b,o,rfl,y,r⟩
 .subst h
  cases a with
  | none=>exact Src.ofNil w n c
  | some x=>exact Src.ofSlice w n x 0 c [] j j j
 refine Src.ofSlice w n (Ki b o) i.length c _ (jv i) (λf u l=>?_) (λu l=>?_)
 .obtain⟨v,e⟩:=DJ.1 l
  rw[jv]at v;have p:((Ki b o):Addr).add f=(Ki b (o+f)):=by unfold Addr.add;split<;>simp_all
  obtain⟨q,x⟩:∃q,f=q*2\/f=q*2+1:=⟨f / 2,d⟩;have m:q<i.length:=d
  have s:=rv i q m;rcases x with rfl|rfl
  .rw[p,(r q m).1,<-l,s.1]
  rw[p,<-KU,(r q m).2,<-l,s.2]
 unfold MZ at l
 obtain⟨x,_,m⟩:=JQ.1 l;simp at m;rcases m with rfl|rfl<;>rfl
def WD(w:Q9)(p:Addr):Ra:=(w.cell? p).getD (Z 0)
theorem MM{p:Addr}(h:(w.cell? p).isSome=true):w.cell? p=some (WD w p):=by
 unfold WD
 cases e:w.cell? p with
 | none=>rw[e]at h;exact absurd h j
 | some v=>rfl
theorem MQ{p:Addr}{v:Ra}(h:w.cell? p=some v):(w.cell? p).isSome=true:=by rw[h];rfl
def KeepC(d:Q9)(X:Nat)(b c:Ra)(w:Q9):Prop :=w.cell? (Ki X 0)=some b/\w.cell? (Ki X 1)=some c/\w.cell? (Ki (X+1) 0)=some (WD w (Ki (X+1) 0))/\w.cell? (Ki (X+1) 1)=some (WD w (Ki (X+1) 1))/\w.frozen? (Ki (X+1) 0)=false/\w.frozen? (Ki (X+1) 1)=false/\d.grownBy w (some (X+1))/\X+1<w.heap.size
theorem KeepC.I{l:Q9}{X:Nat}{f j:Ra}(h:KeepC l X f j w)(b:Q3 w w'):KeepC l X f j w':=by
 obtain⟨n,p,q,r,s,t,c,d⟩:=h;refine⟨(b.cell (p:=(Ki X 0)) (by show X<_;omega)).E n,(b.cell (p:=(Ki X 1)) (by show X<_;omega)).E p,?_,?_,?_,?_,⟨b.os.E c.os,b.tape.E c.tape,b.output.E c.output,AJ c.size b.size,λi e m=>(b.block i (AC e c.size)).E (c.block i e m)⟩,AC d b.size⟩
 .exact MM (by rw[b.cell (p:=(Ki (X+1) 0)) d];exact MQ q)
 .exact MM (by rw[b.cell (p:=(Ki (X+1) 1)) d];exact MQ r)
 .rw[b.frozen (p:=(Ki (X+1) 0)) d];exact s
 rw[b.frozen (p:=(Ki (X+1) 1)) d];exact t
theorem KeepC.set{m:Q9}{X:Nat}{f l:Ra}(h:KeepC m X f l w)(j:Nat)(v:Ra):KeepC m X f l (w.setCell (Ki (X+1) j) v):=by
 obtain⟨n,q,r,s,t,x,b,y⟩:=h
 have d:∀p,(w.cell? p).isSome=true->((w.setCell (Ki (X+1) j) v).cell? p).isSome=true:=λp c=>by
  by_cases e:((Ki (X+1) j):Addr)=p
  .subst e
   obtain⟨u,i⟩:=II.1 c;rw[FJ (w:=w) (h:=i)];rfl
  rw[DE (w:=w) (h:=e)];exact c
 refine⟨(DF _ _ _ _ (by show X+1≠X;omega)).E n,(DF _ _ _ _ (by show X+1≠X;omega)).E q,MM (d _ (MQ r)),MM (d _ (MQ s)),by rw[BW];exact t,by rw[BW];exact x,⟨(ed (X+1) [v] j w).1.E b.os,(ed (X+1) [v] j w).2.1.E b.tape,(ed (X+1) [v] j w).2.2.E b.output,by simpa using b.size,λi p c=>?_⟩,by simpa using y⟩;rw[<-b.block i p c];exact qo (X+1) [v] j w i (λe=>c (by rw[e]))
theorem ZI(B R:Nat)(l n:Q9)(h:List Q4)(i:List (Int×Q4))(c d m q:Nat)(A C:Ra)(aH:B<=m)(I:R<m)(r:h.length=0\/c=m/\Row l c (h.map Value.string))(v:Q3 l n)(F:m<=l.heap.size)(D:l.heap.size<=q)(s:i.length=0\/d=q/\Row n d (MZ i)):OwnD ((n.setCell (Ki R 0) A).setCell (Ki R 1) C) (Hw c 0) h (Hw d 0) i/\(∀k,blk (Hw c 0) h.length=some k->B<=k)/\(∀k,blk (Hw d 0) i.length=some k->B<=k):=by
 have t:∀k,blk (Hw c 0) h.length=some k->k=m/\k<l.heap.size:=λk b=>by
  unfold blk at b
  split at b
  .exact absurd b j
  rename_i p
  rcases r with e|⟨rfl,f⟩
  .exact absurd e p
  simp at b
  exact⟨b.symm,by rw[<-b];exact f.lt⟩
 have u:∀k,blk (Hw d 0) i.length=some k->k=q:=λk b=>by
  unfold blk at b
  split at b
  .exact absurd b j
  rename_i p
  rcases s with e|⟨rfl,f⟩
  .exact absurd e p
  simp at b
  exact b.symm
 refine⟨⟨?_,?_,?_⟩,λk b=>by have:=t k b;omega,λk b=>by have:=u k b;omega⟩
 .rcases r with e|⟨rfl,f⟩
  .exact .inl (by rw[AD e];rfl)
  exact .inr ⟨c,z,((f.I v).other (Ki R 0) (by show R≠_;omega) _).other (Ki R 1) (by show R≠_;omega) _⟩
 .rcases s with e|⟨rfl,f⟩
  .exact .inl (by rw[AD e];rfl)
  exact .inr ⟨d,z,(f.other (Ki R 0) (by show R≠_;omega) _).other (Ki R 1) (by show R≠_;omega) _⟩
 cases e1:blk (Hw c 0) h.length with
 | none=>exact .inl z
 | some x =>
  cases e2:blk (Hw d 0) i.length with
  | none=>exact .inr (.inl z)
  | some y =>
   have G:=t x e1;have H:=u y e2;exact .inr (.inr (λe=>by injection e with e;omega))
section
def LQ:List (Int×Q4)->List Q4->List Q4
 | [],ss=>ss
 | x::r,ss=>LQ r (ss.set x.1.toNat x.2)
theorem MC:∀(ws:List (Int×Q4)) (ss:List Q4),(LQ ws ss).length=ss.length
 | [],_=>rfl
 | x::r,ss=>by rw[LQ,MC r];simp
structure SYs(W w:Q9)(R X g g' n n' c1 c1':Nat)(ws:List (Int×Q4))(ts:List Q4):Prop where
 gr:W.grownBy w (some g)
 rr:Row w R [Y none 0 0,Y none 0 0]
 rx:Row w X [Y (Hw g 0) n c1,Y (Hw g' 0) n' c1']
 rs:Row w g (ts.map Value.string)
 own:OwnS w (Hw g' 0) (MZ ws)
section
variable {W w w':Q9} {R X g g' n n' c1 c1':Nat} {ws:List (Int×Q4)} {ts:List Q4}
theorem SYs.I(h:SYs W w R X g g' n n' c1 c1' ws ts)(b:Q3 w w'):SYs W w' R X g g' n n' c1 c1' ws ts :=⟨OE h.gr (VS _ b),h.rr.I b,h.rx.I b,h.rs.I b,h.own.I b⟩
theorem SYs.drew(h:SYs W w R X g g' n n' c1 c1' ws ts):SYs W w.drew R X g g' n n' c1 c1' ws ts:=h.I ((AB).drew)
theorem SYs.set(h:SYs W w R X g g' n n' c1 c1' ws ts)(m:Nat)(l:m<ts.length)(s:Q4)(f:R≠g)(i:X≠g)(j:MZ ws≠[]->g'≠g):SYs W (w.setCell (Ki g m) (Ow s)) R X g g' n n' c1 c1' ws (ts.set m s):=by
 refine⟨NZ h.gr _ _,h.rr.other _ (λe=>f e.symm) _,h.rx.other _ (λe=>i e.symm) _,?_,?_⟩
 .rw[KE];exact h.rs.set m (by simpa using l) _
 rcases h.own with p|⟨b,e,q⟩
 .exact .inl p
 injection e with e;injection e with e
 by_cases c:MZ ws=[]
 .exact .inl c
 exact .inr ⟨g',rfl,(e ▸ q).other _ (λd=>j c d.symm) _⟩
end
theorem OO{a b:Q9}{r:Option Nat}(h:a.grownBy b r)(p:Addr)(j:a.heap.size<=p.block)(v:Ra):a.grownBy (b.setCell p v) r :=⟨h.os,h.tape,h.output,by rw[BI];exact h.size,λi c f=>(BM _ _ _ _ (λe=>d)).E (h.block i c f)⟩
set_option maxRecDepth 100000 in
theorem WL(g q:Nat)(p:List Q4)(c:Nat)(n:List (Int×Q4))(t:Nat)(w:Q9)(D:Row w g (p.map Value.string))(H:OwnS w (Hw q 0) (MZ n))(V:MZ n≠[]->q≠g)(hl:p.length<=200)(bH:n.length<=300)(W:∀f∈n,0<=f.1/\f.1<(p.length:Int)):Calls prog 172 #[LR (Hw g 0) p.length c (Hw q 0) n.length t] w λe w'=>∃f,e=Q2 (LR (Hw g 0) p.length c (Hw f 0) 0 0)/\w.heap.size<=f/\f<w'.heap.size/\Row w' g ((LQ n p).map Value.string)/\w.grownBy w' (some g):=by
 obtain⟨y,N⟩:=nHz (LQ n p);rw[<-N.j];have bE:=D.lt;go_enter func172,ntmps172;go_wp2
 have l:SYs w ((w.alloc (.cells #[Y (Hw g 0) p.length c,Y (Hw q 0) n.length t] 37)).alloc (.cells #[Y none 0 0,Y none 0 0] 37)) (w.heap.size+1) w.heap.size g q p.length n.length c t n p :=⟨VS _ ((LH _ _).alloc σ _),OY _ _ _ _ σ,(LZ _ _ _).alloc _,(D.alloc _).alloc _,(H.I (MI _ _)).I (MI _ _)⟩
 have S:=LE l;have aV:=LE W;have R:=LE V;clear l D H W V;go_loopw [3] (λi wr=>∃(k:Nat) (s:List Q4),k<=n.length/\i=Z k/\s.length=p.length/\Hid (LQ (n.drop k) s=y)/\SYs w wr (w.heap.size+1) w.heap.size g q p.length n.length c t n s) (λi _=>n.length-(intOf i).toNat)
 case atStart=>exact⟨0,p,AL,z,z,by show _=_;rw[FI,N.j],S.j⟩
 case round =>
  clear S;obtain⟨k,s,hk,rfl,F,L,l⟩:=hrel
  by_cases C:k<n.length
  .obtain⟨b,o,J,h,X,A,B,M⟩:=l.own.wrs.at C
   obtain⟨rfl,rfl⟩:q=b/\o=0:=by cases X;exact⟨z,z⟩
   rw[BK]at A B;clear X;have v:=aV.j (J,h) (by rw[M.j];simp[List.getD,C]);obtain⟨m,rfl,x⟩:∃m:Nat,J=(m:Int)/\m<p.length:=⟨J.toNat,by have:=v.1;simp at *;omega,by have:=v.1;have:=v.2;simp at *;omega⟩
   have O:MZ n≠[]:=λe=>by have:=BD List.length e;rw[jv,AU]at this;omega
   have bC:=R.j O;have T:=MM (MQ (l.rs.cell m (Ow (s.getD m empty)) (by simp[List.getD,F,x])));have U:=l.rs.froz m (by simp[F,x]);have aX:=l.rx.lt;have j:=l.rx.y 0;have x1:=l.rx.y 1;have r:=LE (I j (I x1 (I A (I B (I T U)))));have u:=LE l;have bF:(0:Int)<=(k:Int):=d
   have bG:(k:Int)<(n.length:Int):=d
   have bI:(0:Int)<=(m:Int):=d
   have bJ:(m:Int)<(p.length:Int):=d
   clear l v T U A B O;go_wp2_with fail;clear j x1
   go_region_held3 (λw'=>w'.cell? (Ki w.heap.size 0)=some (Y (Hw g 0) p.length c)/\w'.cell? (Ki w.heap.size 1)=some (Y (Hw q 0) n.length t)/\w'.cell? (Ki q (k*2))=some (Z (m:Int))/\w'.cell? (Ki q (k*2+1))=some (Ow h)/\w'.cell? (Ki g m)=some (WD w' (Ki g m))/\w'.frozen? (Ki g m)=false)
    (first|assumption|exact r.j|exact⟨(DF _ _ _ _ (by show g≠w.heap.size;omega)).E r.j.1,(DF _ _ _ _ (by show g≠w.heap.size;omega)).E r.j.2.1,(DF _ _ _ _ (by show g≠q;omega)).E r.j.2.2.1,(DF _ _ _ _ (by show g≠q;omega)).E r.j.2.2.2.1,MM (MQ (World.cell?_setCell_same' wr _ (Ow h) (MQ r.j.2.2.2.2.1))),(BW wr _ _ _).E r.j.2.2.2.2.2⟩)
    (fail)
   have aH:=LE (u.j.drew.set m d h d d R.j)
   have aU:Hid (LQ (n.drop (k+1)) (s.set m h)=y):=by
    show _=_;rw[<-L.j,eg n k (0,empty) C,<-M.j,LQ,DO]
   rename_i G;clear G r;go_wp2;go_roundw
   case rel=>exact⟨k+1,_,d,ν,by simp[F],aU,aH.j⟩
   case measure=>simp[intOf];omega
  have aL:Hid (s=y):=by
   have:=L.j;rw[EA d]at this;exact this
  rw[aL.j]at l;have u:=LE l;have q0:=l.rx.y 0;have q1:=l.rx.y 1;have f1:=l.rx.A 1;have r0:=l.rr.y 0;have r1:=l.rr.y 1;obtain⟨aZ,bB⟩:=l.rr.z2;have aX:=l.rx.lt;have aW:=l.rr.lt;have n1:w.heap.size≠w.heap.size+1:=d
  clear l;go_wp2;have aY:wr.heap.size≠w.heap.size+1:=d
  refine AE (v:=LR (Hw g 0) p.length c (Hw wr.heap.size 0) 0 0) (by simp[results,results172,go_sem,r0,r1,n1,aY,aW]) z ⟨_,z,d,σ,?_,?_⟩
  .exact(((u.j.rs.other _ (by show w.heap.size≠g;omega) _).other _ (by show w.heap.size+1≠g;omega) _).other _ (by show w.heap.size+1≠g;omega) _).alloc _
  exact OE (OO (OO (OO u.j.gr (Ki w.heap.size 1) (by show w.heap.size<=w.heap.size;omega) _) (Ki (w.heap.size+1) 0) (by show w.heap.size<=w.heap.size+1;omega) _) (Ki (w.heap.size+1) 1) (by show w.heap.size<=w.heap.size+1;omega) _) (VS _ (MI _ _))
end
theorem QI{a:Act}(B:Nat)
  (W:o.guard=none)(s x:Operand)(t:TypeId)(F:o.op=.call { callee:=.builtin .append,args:=#[s,x],argTypes:=#[t,t] })
  (e:TypeId)(i:TypeInfo)(c:Ra)(m y:Nat)(N:P.underlying t=some (.slice e))(I:P.info? e=some i)(G:i.zero=some c)(S:i.size=m)(V:i.bytes=y)
  (b:Nat)(M:a.eval s=Y (Hw b 0) 0 0)(v:Ra)(R:a.eval x=v)(n:Nat)(l:List Ra)(A:Src P m t v n l w)(r:l.length=n*m)(hn:n<=1048576)(U:n*y<=281474976710656)(q:B<=w.heap.size)(X:c.cells.size=m)
  (h:∀g f p,((n=0/\f=0)\/(g=w.heap.size/\Row p g l/\p.ownsRow B e m (Y (Hw g 0) n f) n l/\n≠0))->Q3 w p->K (a.put o.dst (Y (Hw g 0) n f)) p):if Region.wanted o (yielded aH a.tmps)=true then Oper.wp P o a w K Q else E:=by
 have C:Region.wanted o (yielded aH a.tmps)=true:=by simp[Region.wanted,W]
 rw[AI C];subst S V
 by_cases H:n=0
 .subst H
  have f:l=[]:=AD d;subst f;have p:=run_append_room_src (P:=P) w t t o.type e i N I b 0 0 0 v 0 [] A d j j;unfold Oper.wp;simp[execOp,F,resolve,invoke,builtin,M,R,p,Result.andThen];exact h b 0 _ (.inl ⟨z,z⟩) D
 have T:(Builtin.firstCells i.size 0 (Y (Hw b 0) 0 0)).run P w.drew=.ok ([]:List Ra).toArray w.drew:=GI w.drew i.size 0 _ 0 0 [] j j
 have p:=run_append_grow_src (P:=P) w t t o.type e i c N I G (Hw b 0) 0 0 [] T v n l A d d (by rw[BK,nB n d];exact U);unfold Oper.wp;simp[execOp,F,resolve,invoke,builtin,M,R,p,Result.andThen];refine h w.heap.size _ _ (.inr ⟨z,?_,?_,H⟩) ((D).drew.alloc AA _)
 .have L:=LZ w.drew ((([]:List Ra)++l).toArray++Builtin.zeroCells c.cells (grownCap w (0+n) 0 e-(0+n))) e
  refine⟨j,λf u O=>?_,λf J=>?_⟩
  .have:=L.cell f u (by
    obtain⟨J,_⟩:=DJ.1 O
    simp[BO J,O])
   simpa using this
  have:=L.froz f τ
  simpa using this
 have f:=JL w n 0 e
 have u:=IR w n 0 e (by unfold maxLen;omega);refine⟨r,.inr ⟨w.heap.size,_,_,z,q,AV w.drew _,f,u,?_,?_⟩⟩
 .simp[KJ,r,X]
  rw[<-ID]
  congr 1
  omega
 simp[r]
set_option maxRecDepth 4000 in
theorem WX(a:Q5)(i:List Q4)(c:Nat)(l:Q5)(b:List (Int×Q4))(m:Nat)(w:Q9)(h:Strs w a i)(h':Wrs w l b)(hl:i.length<=200)(bE:b.length<=300):Calls prog 115 #[LR a i.length c l b.length m] w λe w'=>∃g s N q,e=Q2 (LR (Hw g 0) i.length s (Hw N 0) b.length q)/\OwnD w' (Hw g 0) i (Hw N 0) b/\(∀k,blk (Hw g 0) i.length=some k->w.heap.size<=k)/\(∀k,blk (Hw N 0) b.length=some k->w.heap.size<=k)/\((b=[]/\q=0)\/w'.ownsRow (w.heap.size+1+1) 125 2 (Y (Hw N 0) b.length q) b.length (MZ b)/\b.length≠0)/\Q3 w w':=by
 obtain⟨i0,p,x,y,A⟩:=LY mL;have F:=LE (I p (I x (I y A)));clear p x y A;obtain⟨i1,p,x,y,A⟩:=LY o7;have aH:=LE (I p (I x (I y A)));clear p x y A
 have aZ:∀o1 o2,Q3 w ((w.alloc o1).alloc o2):=λo1 o2=>(LH _ _).alloc j _
 go_enter func115,ntmps115;go_wp2_with fail;have u:=(Cx.new w (Y a i.length c) (Y l b.length m) 37).I (MI _ (.cells #[Y none 0 0,Y none 0 0] 37));have C:=OY (w.alloc (.cells #[Y a i.length c,Y l b.length m] 37)) #[Y none 0 0,Y none 0 0] 37 (w.heap.size+1) j;have H:=aZ (.cells #[Y a i.length c,Y l b.length m] 37) (.cells #[Y none 0 0,Y none 0 0] 37);have X:((w.alloc (.cells #[Y a i.length c,Y l b.length m] 37)).alloc (.cells #[Y none 0 0,Y none 0 0] 37)).heap.size=w.heap.size+1+1:=j
 obtain⟨v,aT⟩:=nMz ((w.alloc (.cells #[Y a i.length c,Y l b.length m] 37)).alloc (.cells #[Y none 0 0,Y none 0 0] 37));rw[<-aT]at u C H X⊢;clear aT;have HX:=LE u;have G:=LE C;have HB:=LE H;have r:=LE X;clear u C H X;have aV:KeepC v w.heap.size (Y a i.length c) (Y l b.length m) v:=⟨HX.j.c0,HX.j.c1,MM (MQ (G.j.y 0)),MM (MQ (G.j.y 1)),G.j.A 0,G.j.A 1,⟨z,z,z,AA,λ_ _ _=>z⟩,by rw[r.j];omega⟩;have HK:=LE aV;clear aV
 have aU:∀d,KeepC v w.heap.size (Y a i.length c) (Y l b.length m) d->Q3 w d:=λd hz=>HB.j.E (MU hz.2.2.2.2.2.2.1 (by rw[r.j];omega) (λg hg=>by injection hg with hg;omega))
 have R:=LE aU;clear aU
 go_region_held3 (λw'=>w'.cell? (Ki w.heap.size 0)=some (Y a i.length c)/\w'.cell? (Ki w.heap.size 1)=some (Y l b.length m)/\w'.cell? (Ki (w.heap.size+1) 0)=some (WD w' (Ki (w.heap.size+1) 0))/\w'.cell? (Ki (w.heap.size+1) 1)=some (WD w' (Ki (w.heap.size+1) 1))/\w'.frozen? (Ki (w.heap.size+1) 0)=false/\w'.frozen? (Ki (w.heap.size+1) 1)=false/\v.grownBy w' (some (w.heap.size+1))/\w.heap.size+1<w'.heap.size)
  (first|assumption|exact HK.j.I ((AB).drew)|exact KeepC.I (by assumption) (by assumption)|exact KeepC.I (by assumption) (MI _ _)|exact KeepC.set (KeepC.set (by assumption) 0 _) 1 _)
  (first|(refine QU f _ _ 29 f 9 _ _ 1 16 underlying29 F.j.1 F.j.2.1 F.j.2.2.1 F.j.2.2.2 _ f _ f i.length _ (by exact PG (h.I (R.j _ (by assumption))) _ _ f _) j ω ω ?_;intro t s D T S)|(refine QI (w.heap.size+1+1) f _ _ 35 f 125 _ _ 2 24 underlying35 aH.j.1 aH.j.2.1 aH.j.2.2.1 aH.j.2.2.2 _ f _ f b.length _ (by exact du (h'.I (R.j _ (by assumption))) _ _ f _) (by exact jv b) ω ω (by refine Nat.succ_le_of_lt (KH (KH (KH (KH (KH (KH (KH (?_:KeepC v w.heap.size (Y a i.length c) (Y l b.length m) _))))))));assumption) f ?_;intro n M L V J;have U:b.length=0\/(n=_/\Row L n (MZ b)):=(V.imp (λh=>h.1) (λh=>⟨h.1,h.2.1⟩));have aW:=V.imp id (λh=>h.2.2);clear V;have W:KeepC v w.heap.size (Y a i.length c) (Y l b.length m) L:=KeepC.I (by assumption) J))
 all_goals
  rename_i B;have aX:=B;clear B;have bB:=R.j _ aX
  have aD:=by
   first
   | exact ZI w.heap.size (w.heap.size+1) D L i b t n _ _ (Value.slice (some ⟨t,0,none⟩) i.length s) (Value.slice (some ⟨n,0,none⟩) b.length M) (by simp[r.j]<;>omega) (by simp[r.j]<;>omega) T J S.size AA U
   | exact ZI w.heap.size (w.heap.size+1) D L i b t n _ _ (Value.slice (some ⟨t,0,none⟩) i.length s) (Value.slice (some ⟨n,0,none⟩) b.length M) (by simp[r.j]<;>omega) (by simp[r.j]<;>omega) T (Go.Proofs.YteflhojcomcfaaaGreatDoor.Below.then (MI D _) AA J) S.size j U
  have O:=LE aD;have p:=MQ W.2.2.1;have bC:=MQ W.2.2.2.1;have aY:=LE aW;clear aD T S U J W aX aW;go_wp2;exact AE (v:=LR (Hw t 0) i.length s (Hw n 0) b.length M) (by simp[results,results115,go_sem,p,bC]) z ⟨t,s,n,M,z,O.j.1,O.j.2.1,O.j.2.2,aY.j.imp (λh=>⟨AD h.1,h.2⟩) (λh=>⟨ED (ED h.1 (a:=(Ki (w.heap.size+1) 0)) (by show w.heap.size+1<_;omega) _) (a:=(Ki (w.heap.size+1) 1)) (by show w.heap.size+1<_;omega) _,by have:=h.2;simpa using this⟩),bB⟩
theorem TW(a:Q5)(d:List Q4)(c:Nat)(j:Q5)(f:List (Int×Q4))(m:Nat)(w:Q9)(h:Strs w a d)(p:Wrs w j f)(q:d.length<=200)(n:f.length<=300):Calls prog 115 #[LR a d.length c j f.length m] w λe w'=>∃g l i b,e=Q2 (LR (Hw g 0) d.length l (Hw i 0) f.length b)/\OwnD w' (Hw g 0) d (Hw i 0) f/\(∀k,blk (Hw g 0) d.length=some k->w.heap.size<=k)/\(∀k,blk (Hw i 0) f.length=some k->w.heap.size<=k)/\Q3 w w' :=(WX a d c j f m w h p q n).J (λe w' ⟨g,l,i,b,k1,k2,k3,k4,_,k6⟩=>⟨g,l,i,b,k1,k2,k3,k4,k6⟩)
section
structure PR(w:Q9)(g:Nat)(ps:List (List Int)):Prop where
 lt:g<w.heap.size
 len:∀p∈ps,p.length=64
 cell:∀k,k<ps.length->∀j,j<64->w.cell? (Ki g (k*64+j))=some (.int .u8 ((ps.getD k []).getD j 0))
 froz:∀i,i<ps.length*64->w.frozen? (Ki g i)=false
theorem PR.I{c:List (List Int)}(h:PR w g c)(b:Q3 w w'):PR w' g c :=⟨AC h.lt b.size,h.len,λk f j e=>(b.cell (p:=(Ki g _)) h.lt).E (h.cell k f j e),λi d=>(b.frozen (p:=(Ki g i)) h.lt).E (h.froz i d)⟩
theorem PR.V{d:List (List Int)}{r:Option Nat}(h:PR w g d)(b:w.grownBy w' r)(c:some g≠r):PR w' g d :=⟨AC h.lt b.size,h.len,λk l j f=>(DT (a:=(Ki g _)) (b.block g h.lt c)).E (h.cell k l j f),λi e=>(GR (a:=(Ki g i)) (b.block g h.lt c)).E (h.froz i e)⟩
theorem PR.other{b:List (List Int)}(h:PR w g b)(p:Addr)(l:p.block≠g)(v:Ra):PR (w.setCell p v) g b:=by
 refine⟨by simpa[World.setCell] using h.lt,h.len,λk f j d=>?_,λi c=>?_⟩
 .rw[DE (w:=w) (h:=λe=>l (by rw[e]))];exact h.cell k f j d
 rw[BW];exact h.froz i c
theorem NQ{b:List (List Int)}(h:∀p∈b,p.length=64)(c:k<b.length):(b.getD k []).length=64:=h _ (by simp[List.getD,c])
theorem PR.there{b:List (List Int)}(h:PR w g b)(d:k<b.length):w.there g (k*64) 64:=λj c=>by
 rw[h.cell k d j c];exact⟨rfl,h.froz _ ω⟩
theorem PR.range{b:List (List Int)}(h:PR w g b)(d:k<b.length):w.rangeAt g (k*64) ((b.getD k []).map (Value.int .u8)):=λj v hv=>by
 obtain⟨c,e⟩:=DJ.1 hv;simp only[BP]at c;have f:=NQ h.len d;rw[h.cell k d j ω];rw[<-e];simp only[List.getElem_map];rw[AY (l:=b.getD k []),AO c];rfl
theorem PR.plt{b:List (List Int)}(h:PR w g b):Plt w (Hw g 0) b :=.inr ⟨g,0,rfl,h.lt,λi c=>by rw[BK];exact h.range c⟩
theorem PR.set{b:List (List Int)}(h:PR w g b)(k:Nat)(m:k<b.length)(x:List Int)(q:x.length=64):PR (w.setCells g (k*64) (x.map (Value.int .u8))) g (b.set k x):=by
 have n:(x.map (Value.int .u8)).length=64:=by simp[q]
 refine⟨by rw[UV];exact h.lt,λp r=>?_,λi c j d=>?_,λi c=>?_⟩
 .rcases FC r with e|e
  .exact h.len p e
  rw[e];exact q
 .rw[List.length_set]at c
  by_cases l:i=k
  .subst l
   have f:(b.set i x).getD i []=x:=by rw[AY,JM m];rfl
   rw[f,JJ g _ (i*64) w (λj d=>by rw[n]at d;exact(h.there m j d).1) j ω];simp[List.getD,show j<x.length by omega]
  have f:(b.set k x).getD i []=b.getD i []:=by rw[AY,IW (λe=>l e.symm),AY]
  rw[f,EE g _ (k*64) w (Ki g (i*64+j)) (λ_ _=>by rw[n];show i*64+j<k*64\/k*64+64<=i*64+j;omega)];exact h.cell i c j d
 rw[ET];exact h.froz i (by simpa using c)
theorem dq{n:Nat}(h:Row w g (List.replicate (n*64) (.int .u8 0))):PR w g (List.replicate n (List.replicate 64 0)):=by
 refine⟨h.lt,λp f=>by rw[List.eq_of_mem_replicate f];simp,λk b j e=>?_,λi c=>h.froz i (by simpa using c)⟩;rw[DX]at b
 have c:((List.replicate n (List.replicate 64 (0:Int))).getD k []).getD j 0=0:=by
  rw[AY (l:=List.replicate n _),EP,G b,GD,AY,EP,G e];rfl
 rw[c];exact h.cell _ _ (by rw[EP,G d])
def LI(b:List (Int×List Int)):List Ra:=b.flatMap λx=>Z x.1::x.2.map (Value.int .u8)
theorem PX(a b:List (Int×List Int)):LI (a++b)=LI a++LI b:=by simp[LI]
theorem TH:∀(c:List (Int×List Int)),(∀p∈c,p.2.length=64)->∀(i:Nat),i<c.length->∀b,(Z (c.getD i (0,[])).1::(c.getD i (0,[])).2.map (Value.int .u8))[b]?≠none->(LI c)[i*65+b]?=(Z (c.getD i (0,[])).1::(c.getD i (0,[])).2.map (Value.int .u8))[b]?
 | x::r,hl,0,_,b,hj=>by
  have e:LI (x::r)=(Z x.1::x.2.map (Value.int .u8))++LI r:=by simp[LI]
  have f:(x::r).getD 0 (0,[])=x:=z;rw[f]at hj⊢;rw[e,Nat.zero_mul,BK,BO];rcases FV b (Z x.1::x.2.map (Value.int .u8)).length with h|h
  .exact h
  exact absurd (List.getElem?_eq_none h) hj
 | x::r,hl,i+1,h,b,hj=>by
  have e:LI (x::r)=(Z x.1::x.2.map (Value.int .u8))++LI r:=by simp[LI]
  have m:(Z x.1::x.2.map (Value.int .u8)).length=65:=by simp[hl x j]
  have f:(x::r).getD (i+1) (0,[])=r.getD i (0,[]):=by simp[List.getD]
  rw[f]at hj⊢;rw[e,DY d,m,show(i+1)*65+b-65=i*65+b by omega];exact TH r (λp l=>hl p (by simp[l])) i (by simpa using h) b hj
theorem OC(b:List (Int×List Int))(c:∀p∈b,p.2.length=64):(LI b).length=b.length*65:=by
 induction b with
 | nil=>rfl
 | cons x r f =>
  have e:LI (x::r)=(Z x.1::x.2.map (Value.int .u8))++LI r:=by simp[LI]
  rw[e,AK,f (λp d=>c p (by simp[d]))];simp[c x j];omega
theorem Row.hld{b:List (Int×List Int)}(h:Row w g (LI b))(d:∀p∈b,p.2.length=64):Hld w (Hw g 0) b :=.inr ⟨g,0,rfl,h.lt,λi c j v hv=>by
  rw[BK]
  exact h.cell _ _ ((TH b d i c j (by rw[hv];simp)).E hv)⟩
structure Drs(W w:Q9)(n:Nat)(box:Ra)(e:TypeId)(v:Ra)(ps:List (List Int))(hs:List (Int×List Int)):Prop where
 sz:W.heap.size+1+1+1+1<=w.heap.size
 bel:Q3 W w
 b1:w.cell? (Ki W.heap.size 1)=some box
 r0:w.cell? (Ki (W.heap.size+1) 0)=some (Y none 0 0)
 r1:w.cell? (Ki (W.heap.size+1) 1)=some (Y none 0 0)
 fr0:w.frozen? (Ki (W.heap.size+1) 0)=false
 fr1:w.frozen? (Ki (W.heap.size+1) 1)=false
 d0:w.cell? (Ki (W.heap.size+1+1+1) 0)=some (Y (Hw (W.heap.size+1+1) 0) n n)
 d1:w.cell? (Ki (W.heap.size+1+1+1) 1)=some v
 fd1:w.frozen? (Ki (W.heap.size+1+1+1) 1)=false
 pr:PR w (W.heap.size+1+1) ps
 len:∀p∈hs,p.2.length=64
 own:w.ownsRow (W.heap.size+1+1+1+1) e 65 v hs.length (LI hs)
section
variable {W w w':Q9} {n:Nat} {box v:Ra} {e:TypeId} {ps:List (List Int)} {hs:List (Int×List Int)}
theorem Drs.I(h:Drs W w n box e v ps hs)(c:Q3 w w'):Drs W w' n box e v ps hs :=have hs:=h.sz
 have d:∀b i,b<W.heap.size+1+1+1+1->w'.cell? (Ki b i)=w.cell? (Ki b i):=λb i j=>c.cell (p:=(Ki b i)) (by show b<_;omega)
 have f:∀b i,b<W.heap.size+1+1+1+1->w'.frozen? (Ki b i)=w.frozen? (Ki b i):=λb i j=>c.frozen (p:=(Ki b i)) (by show b<_;omega)
 ⟨AJ hs c.size,h.bel.E (c.J ω),(d _ _ ω).E h.b1,(d _ _ ω).E h.r0,(d _ _ ω).E h.r1,(f _ _ ω).E h.fr0,(f _ _ ω).E h.fr1,
  (d _ _ ω).E h.d0,(d _ _ ω).E h.d1,(f _ _ ω).E h.fd1,h.pr.I c,h.len,MK h.own c⟩
theorem Drs.drew(h:Drs W w n box e v ps hs):Drs W w.drew n box e v ps hs:=h.I ((AB).drew)
theorem Drs.alloc(h:Drs W w n box e v ps hs)(o:Obj):Drs W (w.alloc o) n box e v ps hs:=h.I (LH _ _)
theorem Drs.fill(h:Drs W w n box e v ps [])(hv:v=Y none 0 0)(k:Nat)(f:k<ps.length)(x:List Int)(j:x.length=64):Drs W (w.setCells (W.heap.size+1+1) (k*64) (x.map (Value.int .u8))) n box e v (ps.set k x) []:=by
 have hs:=h.sz
 have c:∀b i,b≠W.heap.size+1+1->(w.setCells (W.heap.size+1+1) (k*64) (x.map (Value.int .u8))).cell? (Ki b i)=w.cell? (Ki b i):=λb i d=>EE _ _ _ _ _ (λe=>absurd e d)
 exact⟨by rw[UV];exact hs,Go.below_setCells ω _ _ _ h.bel,(c _ _ ω).E h.b1,(c _ _ ω).E h.r0,(c _ _ ω).E h.r1,(ET _ _ _ _ _).E h.fr0,(ET _ _ _ _ _).E h.fr1,
  (c _ _ ω).E h.d0,(c _ _ ω).E h.d1,(ET _ _ _ _ _).E h.fd1,h.pr.set k f x j,h.len,by rw[hv];exact BU _ _ _ _⟩
theorem Drs.V(h:Drs W w n box e v ps hs)(b:w.grownBy w1 v.ownBlock):w1.cell? (Ki (W.heap.size+1+1+1) 1)=some v/\w1.frozen? (Ki (W.heap.size+1+1+1) 1)=false:=by
 have hs:=h.sz
 have c:some (W.heap.size+1+1+1)≠v.ownBlock:=λd=>by have:=(h.own.lt _ d.symm).1;omega
 exact⟨(b.cell_far (Ki (W.heap.size+1+1+1) 1) (by show W.heap.size+1+1+1<_;omega) c).E h.d1,(b.frozen_far (Ki (W.heap.size+1+1+1) 1) (by show W.heap.size+1+1+1<_;omega) c).E h.fd1⟩
theorem Drs.push(h:Drs W w n box e v ps hs){cap:Nat}{x:Int×List Int}(y:x.2.length=64)(s:w1.ownsRow (W.heap.size+1+1+1+1) e 65 (Y (Hw g 0) (hs.length+1) cap) (hs.length+1) (LI hs++(Z x.1::x.2.map (Value.int .u8))))(c:w.grownBy w1 v.ownBlock):Drs W (w1.setCell (Ki (W.heap.size+1+1+1) 1) (Y (Hw g 0) (hs.length+1) cap)) n box e (Y (Hw g 0) (hs.length+1) cap) ps (hs++[x]):=by
 have z:=h.sz
 have j:∀k,k<W.heap.size+1+1+1+1->some k≠v.ownBlock:=λk t p=>by have:=(h.own.lt k p.symm).1;omega
 have r:∀b,b<W.heap.size+1+1+1+1->b<w.heap.size:=λb d=>ω
 have l:∀b i,b<W.heap.size+1+1+1+1->w1.cell? (Ki b i)=w.cell? (Ki b i):=λb i d=>c.cell_far (Ki b i) (r b d) (j b d)
 have m:∀b i,b<W.heap.size+1+1+1+1->w1.frozen? (Ki b i)=w.frozen? (Ki b i):=λb i d=>c.frozen_far (Ki b i) (r b d) (j b d)
 have q:∀b i,b<W.heap.size+1+1+1+1->b≠W.heap.size+1+1+1->(w1.setCell (Ki (W.heap.size+1+1+1) 1) (Y (Hw g 0) (hs.length+1) cap)).cell? (Ki b i)=w.cell? (Ki b i):=λb i d u=>by
  rw[DE (w:=w1) (h:=show((Ki (W.heap.size+1+1+1) 1):Addr)≠(Ki b i) fromλp=>u (by injection p with f;exact f.symm))];exact l b i d
 have b:Q3 W w1:=h.bel.E ⟨c.os,c.tape,c.output,c.size,λk t=>c.block k ω (j k ω)⟩
 refine⟨by simp only[BI];have:=c.size;omega,b.setCell (by show W.heap.size<=W.heap.size+1+1+1;omega) _,(q _ _ ω ω).E h.b1,(q _ _ ω ω).E h.r0,(q _ _ ω ω).E h.r1,
  (BW _ _ _ _).E ((m _ _ ω).E h.fr0),(BW _ _ _ _).E ((m _ _ ω).E h.fr1),?_,FJ w1 _ _ ((l _ _ ω).E h.d1),(BW _ _ _ _).E ((m _ _ ω).E h.fd1),?_,?_,?_⟩
 .rw[DE (w:=w1) (h:=show((Ki (W.heap.size+1+1+1) 1):Addr)≠(Ki (W.heap.size+1+1+1) 0) by simp)];exact(l _ _ ω).E h.d0
 .exact(h.pr.V c (j _ ω)).other _ (by show W.heap.size+1+1+1≠W.heap.size+1+1;omega) _
 .intro p d
  rcases BZ.1 d with f|f
  .exact h.len p f
  simp at f;rw[f];exact y
 have f:=ED s (a:=(Ki (W.heap.size+1+1+1) 1)) (by show W.heap.size+1+1+1<_;omega) (Y (Hw g 0) (hs.length+1) cap)
 have d:LI (hs++[x])=LI hs++(Z x.1::x.2.map (Value.int .u8)):=by rw[PX];simp[LI]
 rw[AK,d];exact f
theorem Drs.start(w b:Q9)(n:Nat)(d c:Ra)(h i j e:TypeId)(l:Below ((w.alloc (.cells #[d,c] h)).alloc (.cells #[Y none 0 0,Y none 0 0] i)).heap.size ((w.alloc (.cells #[d,c] h)).alloc (.cells #[Y none 0 0,Y none 0 0] i)) b)
  (hs:b.heap.size=w.heap.size+1+1+1)(q:Row b (w.heap.size+1+1) (List.replicate (n*64) (.int .u8 0))):Drs w (b.alloc (.cells #[Y (Hw (w.heap.size+1+1) 0) n n,Y none 0 0] j)) n c e (Y none 0 0) (List.replicate n (List.replicate 64 0)) []:=by
 have r:=(((LZ w #[d,c] h).alloc (.cells #[Y none 0 0,Y none 0 0] i)).I l).alloc (.cells #[Y (Hw (w.heap.size+1+1) 0) n n,Y none 0 0] j);have f:=((OY (w.alloc (.cells #[d,c] h)) #[Y none 0 0,Y none 0 0] i (w.heap.size+1) σ).I l).alloc (.cells #[Y (Hw (w.heap.size+1+1) 0) n n,Y none 0 0] j);have m:=OY b #[Y (Hw (w.heap.size+1+1) 0) n n,Y none 0 0] j (w.heap.size+1+1+1) hs.symm;have p:Q3 w b:=((LH _ _).alloc σ _).E (l.J τ);exact⟨by simp[hs],p.alloc p.size _,r.y 1,f.y 0,f.y 1,f.A 0,f.A 1,m.y 0,m.y 1,m.A 1,dq (q.alloc _),σ,BU _ _ _ _⟩
end
end
theorem RO{a:Act}
  (B:o.guard=none)(d x:Operand)(l p:TypeId)(r:o.op=Op.call { callee:=Callee.builtin Builtin.copy,args:=#[d,x],argTypes:=#[l,p] })
  (h:TypeId)(D:P.underlying l=some (.slice h))(H:(P.info? h).map (·.size)=some 1)
  (b c f m:Nat)(z:a.eval d=Y (Hw b c) f m)(s:Addr)(i n:Nat)(F:a.eval x=Y (some s) i n)(e:List Ra)(C:e.length=Nat.min i f)
  (q:∀j v,e[j]?=some v->w.cell? (s.add j)=some v)(y:∀j,j<e.length->(w.cell? (Ki b (c+j))).isSome=true)(A:∀j,j<e.length->w.frozen? (Ki b (c+j))=false)(t:∀v∈e,v.oneCell'=true)
  (u:K (a.put o.dst (goInt e.length)) (w.setCells b c e)):if Region.wanted o (yielded aH a.tmps)=true then Oper.wp P o a w K Q else E:=by
 have v:Region.wanted o (yielded aH a.tmps)=true:=by simp[Region.wanted,B]
 rw[G v];have j:=run_copy_cells (P:=P) w l p o.type h b c f m s i n e D H C q y A t;unfold Oper.wp;simp[execOp,r,resolve,invoke,builtin,z,F,j,Result.andThen];exact u
def PH(k:Nat)(x y:List Int):List Int:=x.take k++y.drop k
theorem VI(k:Nat)(x y:List Int)(b:k<=64)(c:x.length=64)(d:y.length=64):(PH k x y).length=64:=by simp[PH];omega
theorem PR.part{b:List (List Int)}(h:PR w g b)(i:Nat)(l:i<b.length)(k:Nat)(r:k<=64)(x:List Int)(t:x.length=64):PR (w.setCells g (i*64) ((x.take k).map (Value.int .u8))) g (b.set i (PH k x (b.getD i []))):=by
 have m:((x.take k).map (Value.int .u8)).length=k:=τ
 have u:=NQ h.len l;refine⟨by rw[UV];exact h.lt,λp s=>?_,λq c j d=>?_,λq c=>?_⟩
 .rcases FC s with e|e
  .exact h.len p e
  rw[e];exact VI k x _ r t u
 .rw[List.length_set]at c
  by_cases n:q=i
  .subst n
   have f:(b.set q (PH k x (b.getD q []))).getD q []=PH k x (b.getD q []):=by rw[AY,JM l];rfl
   rw[f]
   by_cases e:j<k
   .rw[JJ g _ (q*64) w (λj d=>by rw[m]at d;exact(h.there l j ω).1) j ω]
    unfold PH;rw[AY,BO τ,GM e,AO ω];simp
   rw[EE g _ (q*64) w (Ki g (q*64+j)) (λ_ _=>by rw[m];show q*64+j<q*64\/q*64+k<=q*64+j;omega),h.cell q c j d]
   unfold PH;rw[AY (l:=x.take k++_),DY τ,FE];rw[show k+(j-(x.take k).length)=j by simp;omega,AY]
  have f:(b.set i (PH k x (b.getD i []))).getD q []=b.getD q []:=by rw[AY,IW (λe=>n e.symm),AY]
  rw[f,EE g _ (i*64) w (Ki g (q*64+j)) (λ_ _=>by rw[m];show q*64+j<i*64\/i*64+k<=q*64+j;omega)];exact h.cell q c j d
 rw[ET];exact h.froz q (by simpa using c)
set_option maxRecDepth 100000 in
theorem fi(X g n c:Nat)(v:Ra)(p:List (List Int))(m:Nat)(x:List Int)(k:Nat)(w:Q9)(t:w.cell? (Ki X 0)=some (Y (Hw g 0) n c))(F:X≠g)(B:PR w g p)(hn:p.length=n)(I:m<n)(W:n<=200)(q:n<=c)(R:x.length=64)(A:k<=64):Calls prog 255 #[Dr X 0,.agg (Z (m:Int)::x.map (Value.int .u8)).toArray,Z (k:Int)] w λe w'=>e=Q2 (.tuple #[])/\PR w' g (p.set m (PH k x (p.getD m [])))/\w.grownBy w' (some g):=by
 have M:X<w.heap.size:=by have:=DP w _ t;simpa using this
 have T:=B.lt;go_enter func255,ntmps255;go_wp2_with fail;have l:=LZ w (Z (m:Int)::x.map (Value.int .u8)).toArray 123;have i:=MI w (.cells (Z (m:Int)::x.map (Value.int .u8)).toArray 123);obtain⟨r,b⟩:=nMz (w.alloc (.cells (Z (m:Int)::x.map (Value.int .u8)).toArray 123));rw[<-b]at l i⊢;clear b;have aH:=LE (B.I i);have s:=LE (AG ((i.cell (p:=(Ki X 0)) M).E t) (l.cell 0 (Z (m:Int)) z));have b:=LE i
 have H:Hid (∀j v,((x.take k).map (Value.int .u8))[j]?=some v->r.drew.cell? (((Ki w.heap.size 1):Addr).add j)=some v):=λj v hv=>by
  obtain⟨y,e⟩:=DJ.1 hv;have C:j<k:=by simp at y;omega
  have G:((Ki w.heap.size 1):Addr).add j=(Ki w.heap.size (j+1)):=by unfold Addr.add;split<;>simp_all<;>omega
  rw[G];refine l.cell (j+1) v ?_;rw[<-hv];simp[GM C]
 have G:Hid (((x.take k).map (Value.int .u8)).length=Nat.min k k):=by show _=_;simp[KP];omega
 have S:((x.take k).map (Value.int .u8)).length=k:=τ
 have C:=LE (aH.j.there (k:=m) d)
 have u:=λy=>xv (P:=prog) (t:=121) underlying121 (λ_=>h) g (m*64) k d A .i64 (k:Int) z y
 have D:=λy=>xv (P:=prog) (t:=121) underlying121 (λ_=>h) w.heap.size 1 k d A .i64 (k:Int) z y
 have U:(0:Int)<=(m:Int):=d
 have V:(m:Int)<(n:Int):=d
 have J:X≠g:=F;have L:w.heap.size≠g:=d
 clear t B l i F
 go_region_held3 (λw'=>w'.cell? (Ki X 0)=some (Y (Hw g 0) n c)/\w'.cell? (Ki w.heap.size 0)=some (Z (m:Int)))
  (first|assumption|exact s.j|exact⟨(EE _ _ _ _ _ (λe=>absurd e J)).E s.j.1,(EE _ _ _ _ _ (λe=>absurd e L)).E s.j.2⟩)
  (first|(refine RO f _ _ _ _ f 5 underlying22 h g (m*64) k 64 f (Ki w.heap.size 1) k 64 f ((x.take k).map (Value.int .u8)) G.j H.j (λj y=>(C.j j d).1) (λj y=>(C.j j d).2) (YV _) ?_))
 have l:=(aH.j.I ((@AB _ r).drew)).part m d k A x R
 have y:w.grownBy (r.drew.setCells g (m*64) ((x.take k).map (Value.int .u8))) (some g):=by
  have j:=ed g ((x.take k).map (Value.int .u8)) (m*64) r.drew;refine⟨j.1.E b.j.os,j.2.1.E b.j.tape,j.2.2.E b.j.output,by rw[UV];exact b.j.size,λi O N=>?_⟩;rw[qo g _ _ _ i (λe=>N (by rw[e]))];exact b.j.block i O
 have i:=LE l;have j:=LE y;clear l y;go_wp2;go_end0;exact⟨z,i.j,j.j⟩
theorem TF(v:Ra)(b:List Ra)(z:Array Ra)(l:z.size=b.length+1):List.foldl (λ(r:Array Ra) (x:Ra×Nat)=>r.setIfInBounds (1+x.snd) x.fst) (z.setIfInBounds 0 v) b.zipIdx=(v::b).toArray:=by
 obtain⟨h,f⟩:=Great.foldl_set 1 b 0 (z.setIfInBounds 0 v)
 apply Array.ext_getElem?
 intro k;have e:=f k;rw[e,Array.size_setIfInBounds]
 by_cases i:1<=k/\k<1+b.length
 .rw[G ⟨d,d,d⟩]
  obtain⟨j,rfl⟩:∃j,k=j+1:=⟨k-1,d⟩;simp
 rw[A d]
 by_cases c:k=0
 .subst c
  simp[show 0<z.size by omega]
 rw[EF q,EF q]
theorem TE(v:Ra)(b:List Ra)(n:Nat)(m:b.length+1=n)(z:Array Ra)(p:z.size=n)(h:z[0]?=some v):List.foldl (λ(r:Array Ra) (x:Ra×Nat)=>r.setIfInBounds x.snd x.fst) z (b.zipIdx 1)=(v::b).toArray:=by
 obtain⟨i,c⟩:=Great.foldl_set 0 b 1 z
 have f:(λ(r:Array Ra) (x:Ra×Nat)=>r.setIfInBounds (0+x.2) x.1)=λ(r:Array Ra) (x:Ra×Nat)=>r.setIfInBounds x.snd x.fst:=by funext r x;rw[BK]
 rw[f]at i c
 apply Array.ext_getElem?
 intro k;rw[c k]
 by_cases l:1<=k/\k<1+b.length
 .rw[G ⟨d,d,d⟩]
  obtain⟨j,rfl⟩:∃j,k=j+1:=⟨k-1,d⟩;simp
 rw[A d]
 by_cases e:k=0
 .subst e;rw[h];simp
 rw[EF d,EF q]
theorem NR:QX.size=65:=h
theorem VB:¬(QX=#[]):=λh=>by have:=BD Array.size h;rw[NR]at this;cases this
set_option maxRecDepth 100000 in
theorem im(a:Q5)(r:List (List Int))(c:Nat)(O:Q5)(q:List (Int×List Int))(H:Nat)(w:Q9)(h:Plt w a r)(h':Hld w O q)(hl:r.length<=200)(cF:q.length<=300)(bV:∀p∈r,p.length=64)(bG:∀p∈q,p.2.length=64):Calls prog 53 #[LR a r.length c O q.length H] w λe w'=>∃v A,e=Q2 (.agg #[v,A])/\w'.ownsRow w.heap.size 9 1 v r.length ((LW r).map Value.string)/\w'.ownsRow w.heap.size 125 2 A q.length (MZ (held q))/\(v.ownBlock=none\/A.ownBlock=none\/v.ownBlock≠A.ownBlock)/\Q3 w w':=by
 obtain⟨i0,b,i,m,n⟩:=LY mL;have N:=LE (I b (I i (I m n)));clear b i m n;obtain⟨i1,b,i,m,n⟩:=LY o7;have S:=LE (I b (I i (I m n)));clear b i m n;go_enter func53,ntmps53;go_wp2;go_loopw [5,11] (λ_ i wr=>∃(k:Nat) (v:Ra),k<=r.length/\i=Z k/\Dsk w wr (w.heap.size+1) (w.heap.size+1+1) (w.heap.size+1+1+1) 9 125 v (Y none 0 0) (LW (r.take k)) []/\wr.cell? (Ki w.heap.size 1)=some (Y O q.length H)) (λ_ i _=>r.length-(intOf i).toNat)
 case atStart=>exact⟨0,_,AL,z,Dsk.start3 _ _ _ _ _ _ _ _,γ⟩
 case round =>
  obtain⟨k,v,hk,rfl,m,n⟩:=hrel
  by_cases l:k<r.length
  .obtain⟨b,o,x,rfl,bZ,G,F⟩:=(h.I m.bel).at l
   have J:x.length=64:=by rw[F.j];exact bV _ (by simp[List.getD,l])
   have p:(x.map (Value.int .u8)).length=64:=by simp[J]
   have aH:(LW (r.take k)).length=k:=by simp[LW];omega
   have D:=LE aH;have s:=LE m;have t:=LE n;clear m n aH;have U:Hid ((prog.info? 121).map (·.size)=some (x.map (Value.int .u8)).length):=by rw[p];show _=_;kernel_rfl
   have X:=LE p.symm;clear p
   go_wp2_with (first|(with_reducible refine fe 121 _ z ?_;refine BE z 121 _ z b (o+k*64) z (x.map (Value.int .u8)) _ G underlying121 z U.j ?_)|(with_reducible refine aa 121 _ _ z ?_;refine LN z 121 _ _ z (x.map (Value.int .u8)) (YV x) z z _ _ (by rw[<-X.j];kernel_rfl) U.j ?_;intro p B u L))
   have y:=LE (s.j.I u);have q0:=(s.j.I u).d0;have q1:=(s.j.I u).fd0;have cA:w.heap.size+1+1<p.heap.size:=by have:=y.j.sz;omega
   have aN:w.heap.size+1+1+1<=p.heap.size:=y.j.sz;have bW:=B.drew.text (P:=prog) x 0 64 64 J (λi hi=>by simp[List.getD,show i<x.length by omega]) 22 5 9 underlying22 underlying5 underlying9;have bU:Hid (p.cell? (Ki w.heap.size 1)=some (Y O q.length H)):=(u.cell (p:=(Ki w.heap.size 1)) (by have:=s.j.sz;show w.heap.size<wr.heap.size;omega)).E t.j;have T:=LE (y.j.drew.own.alloc (.cells #[Ow (strOfNums x)] 9));have C:=LE (y.j.drew.alloc (.cells #[Ow (strOfNums x)] 9));clear B u L s t G
   go_region_law (first|(refine step_append_lies _ f _ _ _ f (w.heap.size+1+1+1) 9 i0 (Ow empty) 1 16 underlying29 N.j.1 N.j.2.1 N.j.2.2.1 N.j.2.2.2 z d v (LW (r.take k)).length ((LW (r.take k)).map Value.string) f T.j (Ki p.heap.size 0) 1 1 [Ow (strOfNums x)] f z (World.news_of_block (AV p.drew _)) (by intro u M;simp at M;subst M;rfl) d (by rw[D.j];unfold maxLen;omega) (by rw[D.j];omega) ξ (p.heap.size+1) j ?_;intro g L w3 B s G bP;obtain⟨q4,q5⟩:=C.j.V s;have W:=LE B;have R:=LE s;have V:=LE G;clear B s G))
   all_goals
    have s:=C.j.push W.j R.j V.j j;have t:=(C.j.far R.j w.heap.size 1 0 d d (Y (Hw g 0) ((LW (r.take k)).length+1) L)).E ((ES (w:=p.drew) _ w.heap.size 1 (by show w.heap.size<p.heap.size;omega)).E bU.j);rw[F.j,<-YE r k l]at s;have B:=LE s;have G:=LE t;clear s t;go_wp2;go_roundw
    case rel=>exact⟨k+1,_,d,ν,B.j,G.j⟩
    case measure=>simp[intOf];omega
  have bY:Hid (r.take k=r):=AS d
  rw[bY.j]at m;have b:w.heap.size<wr.heap.size:=by have:=m.sz;omega
  go_wp2;go_loopw [7,26] (λ_ i wr=>∃(k:Nat) (A:Ra),k<=q.length/\i=Z k/\Dsk w wr (w.heap.size+1) (w.heap.size+1+1) (w.heap.size+1+1+1) 9 125 v A (LW r) (held (q.take k))) (λ_ i _=>q.length-(intOf i).toNat)
  case atStart=>exact⟨0,_,AL,z,m⟩
  case round =>
   clear m n b;obtain⟨t,A,cE,rfl,m⟩:=hrel
   by_cases U:t<q.length
   .obtain⟨b,o,n,x,rfl,bZ,G,F⟩:=(h'.I m.bel).at U
    have J:x.length=64:=by
     have:=bG (n,x) (by rw[F.j];simp[List.getD,U]);exact this
    have p:(Z n::x.map (Value.int .u8)).length=65:=by simp[J]
    have aH:(held (q.take t)).length=t:=by simp[held];omega
    have D:=LE aH;have s:=LE m;clear m aH;have aL:Hid ((prog.info? 123).map (·.size)=some (Z n::x.map (Value.int .u8)).length):=by rw[p];show _=_;kernel_rfl
    have X:=LE p.symm;clear p;have cI:=PJ
    go_wp2_with (first|(with_reducible refine fe 123 _ z ?_;refine BE z 123 _ z b (o+t*65) z (Z n::x.map (Value.int .u8)) _ G underlying123 z aL.j ?_)|(with_reducible refine aa 123 _ _ z ?_;refine LN z 123 _ _ z (Z n::x.map (Value.int .u8)) (PC n x) z z _ _ (by rw[<-X.j];kernel_rfl) aL.j ?_;intro p B u L))
    have y:=LE (s.j.I u);have q0:=(s.j.I u).d1;have q1:=(s.j.I u).fd1;have cA:w.heap.size+1+1<p.heap.size:=by have:=y.j.sz;omega
    have cH:wr.heap.size<p.heap.size:=d
    have aN:w.heap.size+1+1+1<=p.heap.size:=y.j.sz;have cC:p.cell? (Ki wr.heap.size 0)=some (Z n):=B.y 0;have bW:=B.drew.text (P:=prog) x 1 64 64 J (λi hi=>by rw[show 1+i=i+1 by omega];simp[List.getD,show i<x.length by omega]) 22 5 9 underlying22 underlying5 underlying9;have T:=LE (y.j.drew.own'.alloc (.cells #[Z n,Ow (strOfNums x)] 125));have C:=LE (y.j.drew.alloc (.cells #[Z n,Ow (strOfNums x)] 125));clear B u L s G
    go_region_law (first|(refine step_append_lies _ f _ _ _ f (w.heap.size+1+1+1) 125 i1 (.agg #[Z 0,Ow empty]) 2 24 underlying35 S.j.1 S.j.2.1 S.j.2.2.1 S.j.2.2.2 z d A (held (q.take t)).length (MZ (held (q.take t))) f T.j (Ki p.heap.size 0) 1 1 [Z n,Ow (strOfNums x)] f z (World.news_of_block (AV p.drew _)) (by intro u M;simp at M;rcases M with rfl|rfl<;>rfl) d (by rw[D.j];unfold maxLen;omega) (by rw[D.j];omega) ξ (p.heap.size+1) j ?_;intro g L w3 B s G bP;obtain⟨q4,q5⟩:=C.j.grown2 s;have W:=LE B;have R:=LE s;have V:=LE G;clear B s G))
    all_goals
     have s:=C.j.push2 (x:=(n,strOfNums x)) W.j R.j V.j j;rw[show(n,strOfNums x)=((q.getD t (0,[])).1,strOfNums (q.getD t (0,[])).2) by rw[<-F.j],<-XW q t U]at s;have B:=LE s;clear s;go_wp2;go_roundw
     case rel=>exact⟨t+1,_,d,ν,B.j⟩
     case measure=>simp[intOf];omega
   have C:Hid (q.take t=q):=AS d
   rw[C.j]at m;have s:=LE m;have q0:=m.d0;have q1:=m.d1;have F:=m.r0;have G:=m.r1;have q4:=m.fr0;have q5:=m.fr1;have B:=m.own;have D:=m.own';obtain⟨b,y,x,rfl⟩:∃a n c,v=Y a n c:=by rcases MS m.own with ⟨e,_⟩|⟨g,c,e,_⟩<;>exact⟨_,_,_,e⟩
   obtain⟨i,u,p,rfl⟩:∃a n c,A=Y a n c:=by rcases MS m.own' with ⟨e,_⟩|⟨g,c,e,_⟩<;>exact⟨_,_,_,e⟩
   clear m B D;go_wp2;have aH:(LW r).length=r.length:=by simp[LW]
   have D:(held q).length=q.length:=by simp[held]
   have m:=ED (ED s.j.own (a:=(Ki (w.heap.size+1) 0)) (by show w.heap.size+1<_;omega) (Y b y x)) (a:=(Ki (w.heap.size+1) 1)) (by show w.heap.size+1<_;omega) (Y i u p);have B:=ED (ED s.j.own' (a:=(Ki (w.heap.size+1) 0)) (by show w.heap.size+1<_;omega) (Y b y x)) (a:=(Ki (w.heap.size+1) 1)) (by show w.heap.size+1<_;omega) (Y i u p);rw[aH]at m;rw[D]at B;refine AE (v:=.agg #[Y b y x,Y i u p]) (by simp[results,results53,go_sem,F,G]) z ⟨_,_,z,m.J d,B.J d,s.j.apart,?_⟩;exact(s.j.bel.setCell (by show w.heap.size<=w.heap.size+1;omega) _).setCell (by show w.heap.size<=w.heap.size+1;omega) _
theorem RT(a:Q5)(i:List (List Int))(n c:Nat)(r:Q5)(f:List (Int×List Int))(q t:Nat)(O:i.length=n)(F:f.length=q)(w:Q9)(h:Plt w a i)(L:Hld w r f)(N:n<=200)(D:q<=300)(B:∀p∈i,p.length=64)(A:∀p∈f,p.2.length=64):Calls prog 53 #[LR a n c r q t] w λe w'=>∃b l d j,e=Q2 (LR b n l d q j)/\OwnD w' b (LW i) d (held f)/\(∀g,blk b n=some g->w.heap.size<=g)/\(∀g,blk d q=some g->w.heap.size<=g)/\Q3 w w':=by
 subst O F;refine(im a i c r f t w h L N D B A).J ?_;rintro e w' ⟨v,y,rfl,T,U,C,M⟩;have u:(LW i).length=i.length:=by simp[LW]
 have x:(held f).length=f.length:=by simp[held]
 have G:∃b l,v=Y b i.length l/\OwnS w' b ((LW i).map Value.string)/\(∀g,blk b i.length=some g->w.heap.size<=g)/\(blk b i.length=none\/blk b i.length=v.ownBlock):=by
  rcases MS T with ⟨e,j⟩|⟨g,m,e,p,_,s⟩
  .refine⟨none,0,by rw[j];exact e,.inl ?_,λg d=>?_,.inl ?_⟩
   .rw[AD (u.E j)];rfl
   .rw[j]at d;cases d
   rw[j];rfl
  refine⟨_,m,e,.inr ⟨g,z,s⟩,λI d=>?_,?_⟩
  .unfold blk at d;split at d
   .cases d
   cases d;exact p
  unfold blk;split
  .exact .inl z
  right;rw[e];rfl
 have H:∃b l,y=Y b f.length l/\OwnS w' b (MZ (held f))/\(∀g,blk b f.length=some g->w.heap.size<=g)/\(blk b f.length=none\/blk b f.length=y.ownBlock):=by
  rcases MS U with ⟨e,j⟩|⟨g,m,e,p,_,s⟩
  .refine⟨none,0,by rw[j];exact e,.inl ?_,λg d=>?_,.inl ?_⟩
   .rw[AD (x.E j)];rfl
   .rw[j]at d;cases d
   rw[j];rfl
  refine⟨_,m,e,.inr ⟨g,z,s⟩,λI d=>?_,?_⟩
  .unfold blk at d;split at d
   .cases d
   cases d;exact p
  unfold blk;split
  .exact .inl z
  right;rw[e];rfl
 obtain⟨b,l,p,I,J,d⟩:=G;obtain⟨j,m,s,R,S,k3⟩:=H;refine⟨b,l,j,m,by rw[p,s],⟨I,R,?_⟩,J,S,M⟩;rw[u,x];rcases d with d|d
 .exact .inl d
 rcases k3 with k3|k3
 .exact .inr (.inl k3)
 rw[d,k3];exact C
theorem MR{i:Func}{p u:Tmp}{f:TypeId}(h:i.results=#[.cell p f,.tmp u])(c:Array Ra)(w:Q9)(b o:Nat)(q:c.getD p undef=Dr b o)
  (e:List Ra)(d:TypeDesc)(j:w.rangeAt b o e)(r:P.underlying f=some d)(l:d.isRow=true)(m:(P.info? f).map (·.size)=some e.length):(results i c).run P w=.ok (.tuple #[.agg e.toArray,c.getD u undef]) w:=by
 have n:=JE (P:=P) w b o f e d j r l m;rw[results_cell_tmp h];simp[q,asAddr,n,Result.andThen]
set_option maxRecDepth 100000 in
theorem ZT(g n c m:Nat)(f:List (List Int))(w:Q9)(p:PR w g f)(u:f.length=n)(aH:n<=200)(v:m<n):Calls prog 320 #[Y (Hw g 0) n c,Z (m:Int)] w λe w'=>e=Q2 (.tuple #[.agg ((f.getD m []).map (Value.int .u8)).toArray,Q1 true])/\Q3 w w':=by
 have i:∀o,(w.alloc o).rangeAt g (m*64) ((f.getD m []).map (Value.int .u8)):=λo=>(p.I (MI w o)).range (k:=m) d
 have e:=NQ p.len (k:=m) d;obtain⟨b,q⟩:=x (f.getD m []);rw[<-q.j]at i e⊢;have l:(b.map (Value.int .u8)).toArray.size=64:=by simp[e]
 have j:Hid ((prog.info? 121).map (·.size)=some (b.map (Value.int .u8)).length):=by show _=_;rw[BP,e];kernel_rfl
 have r:=LE i;have s:¬((m:Int)<0):=d
 have t:¬(n<=m):=d
 clear i;go_enter func320,ntmps320
 go_wp2_with (first|(with_reducible refine fe 121 _ z ?_;refine BE z 121 _ z g (m*64) z (b.map (Value.int .u8)) _ (by exact r.j _) underlying121 z j.j ?_)|(with_reducible refine aa 121 _ _ z ?_;refine BV z 121 _ _ z w.heap.size 0 (b.map (Value.int .u8)).toArray z z (by rw[l];exact(LZ w _ _).there h) (by rw[l];kernel_rfl) (GH (YV b)) ?_))
 refine H (v:=.tuple #[.agg (b.map (Value.int .u8)).toArray,Q1 true]) (MR (p:=4) (u:=5) results320 _ _ w.heap.size 0 z (b.map (Value.int .u8)) _ (EG _ _ _ _ (by rw[BP,e];exact(LZ w _ _).there h)) underlying121 z j.j) z ⟨z,?_⟩;exact Go.below_setCells C _ _ _ (MI _ _)
set_option maxRecDepth 100000 in
theorem rdr(a b:Q5)(n c f d:Nat)(w:Q9):Calls prog 205 #[.agg #[Y a n c,Y b f d]] w λe w'=>e=Q2 (.iface 299 (.agg #[Y b f d,.iface 92 (Y a n c)]))/\Q3 w w':=by
 go_enter func205,ntmps205;go_wp2;go_ret;exact⟨z,MI _ _⟩
theorem oy(n:Nat)(w:Q9)(V:8<=n)(I:n<=200):Calls prog 28 #[Z (n:Int)] w λe w'=>∃g c b f,e=Q2 (LR (Hw g 0) n c b 0 f)/\w.heap.size<=g/\Row w' g ((List.replicate n MW).map Value.string)/\Q3 w w':=by
 have aH:(8:Int)<=(n:Int):=d
 have F:(n:Int)<=200:=d
 have J:decide (8<=(n:Int)/\(n:Int)<=200)=true:=AM ⟨aH,F⟩;go_enter func28,ntmps28
 go_wp2_with (first|(go_at_call 26;refine(jr _ _).J ?_;rw[J];rintro e w' ⟨rfl,rfl⟩)|(at_make;refine vm z _ _ 92 z 121 _ 64 64 underlying92 XA n z z d d ?_;intro y f m S;rw[TI]at f))
 have h:Below (w.alloc (.cells #[Y none 0 0,Y none 0 0] 37)).heap.size (w.alloc (.cells #[Y none 0 0,Y none 0 0] 37)) y:=by first|exact m|simpa using m
 simp only[BG]at f;have c:=(ZQ f).I ((D).alloc C (.cells #[Y (Hw (w.heap.size+1) 0) n n,Y none 0 0] 95));refine(RT (Hw (w.heap.size+1) 0) (List.replicate n (List.replicate 64 0)) n n none [] 0 0 j z _ c (.inl z) I d (λp c=>by rw[List.eq_of_mem_replicate c];simp) (λp c=>by simp at c)).J ?_;rintro e i ⟨N,u,q,v,rfl,x,t,G,s⟩;have b:=h.E (((D).alloc C _).E (s.J j) |>.J h.size);have R:w.heap.size+1<=y.heap.size:=by have:=h.size;simpa using this
 obtain⟨g,rfl,p⟩:=x.s.resolve_left (ph (by simp[LW];omega));have O:w.heap.size+1<=g:=by have:=t g (ND g 0 n d);simp at this;omega
 have r:LW (List.replicate n (List.replicate 64 0))=List.replicate n MW:=by simp[LW,MW]
 rw[r]at p;have L:i.cell? (Ki w.heap.size 0)=some (Y none 0 0):=(b.cell (p:=(Ki w.heap.size 0)) j).E l;have M:i.cell? (Ki w.heap.size 1)=some (Y none 0 0):=(b.cell (p:=(Ki w.heap.size 1)) j).E l;have T:i.frozen? (Ki w.heap.size 0)=false:=(b.frozen (p:=(Ki w.heap.size 0)) j).E l;have U:i.frozen? (Ki w.heap.size 1)=false:=(b.frozen (p:=(Ki w.heap.size 1)) j).E l;have B:=LE p;have A:=LE (((@D w.heap.size w).alloc C (.cells #[Y none 0 0,Y none 0 0] 37)).E (b.J j));clear b s x t G c f h m p r;go_wp2;refine H (v:=LR (Hw g 0) n u q 0 v) (by simp[results,results28,go_sem,L,M]) z ⟨g,u,q,v,z,d,?_,?_⟩
 .exact(B.j.other _ (by show w.heap.size≠g;omega) _).other _ (by show w.heap.size≠g;omega) _
 exact(A.j.setCell C _).setCell C _
end
end Go.Proofs.YteflhojcomcfaaaGreatDoor
namespace Go.Proofs.YteflhojcomcfaaaGreatDoor.nw
open _root_.ByteArray(empty)
open _root_.Go.Proofs.Tryz
open Go.RowKit
theorem new_i_no(n:Int)(w:Q9)(h:¬(8<=n/\n<=200)):Calls prog 28 #[Z n] w λe a=>e=Q2 (LR none 0 0 none 0 0)/\Q3 w a:=by
 have b:decide (8<=n/\n<=200)=false:=AH h;go_enter func28,ntmps28;go_wp2_with (go_at_call 26;refine(jr _ _).J ?_;rw[b];rintro e a ⟨rfl,rfl⟩);exact H (v:=LR none 0 0 none 0 0) (by simp[results,results28,go_sem]) z ⟨z,MI _ _⟩
theorem new_i_any(n:Int)(w:Q9):Calls prog 28 #[Z n] w λe b=>∃a c f i,e=Q2 (LR a (newSS n).length c f 0 i)/\OwnS b a ((newSS n).map Value.string)/\(∀g,blk a (newSS n).length=some g->w.heap.size<=g)/\Q3 w b:=by
 by_cases h:8<=n/\n<=200
 .obtain⟨m,rfl⟩:∃m:Nat,n=(m:Int):=⟨n.toNat,d⟩
  have j:newSS (m:Int)=List.replicate m MW:=by simp[newSS,h]
  rw[j];refine(oy m w d d).J ?_;rintro e b ⟨g,c,f,i,rfl,o,p,k⟩
  exact⟨_,c,f,i,by rw[DX],.inr ⟨g,z,p⟩,λl a=>by rw[DX,ND g 0 m d]at a;cases a;exact o,k⟩
 have j:newSS n=[]:=by simp[newSS,h]
 rw[j];refine(new_i_no n w h).J ?_;rintro e b ⟨rfl,k⟩;exact⟨none,0,none,0,z,.inl z,(λl a=>by cases a),k⟩
abbrev nwOk(n wd:Int):Prop:=(8<=n/\n<=200)/\1<=wd/\wd<=8
def nwS(n a:Int):List Q4:=if nwOk n a then newSS n else []
def nwM(n a:Int):Nat:=if nwOk n a then 1 else 0
def nwW(n a:Int):Int:=if nwOk n a then a else 0
theorem nw_s_no(n i:Int)(w:Q9)(h:¬nwOk n i):Calls prog 20 #[Z n,Z i] w λe a=>NwPost w a e 0 [] 0:=by
 have M:∀a,Q3 w a->NwPost w a (Q2 (worldV 0 none 0 0 none 0 none 0 0)) 0 [] 0:=λa c=>⟨none,0,none,0,none,0,z,.inl z,.inl z,λg b=>(by cases b),λg b=>(by cases b),c⟩
 by_cases L:8<=n/\n<=200
 .have bU:decide (1<=i/\i<=8)=false:=AH (λx=>h ⟨L,x⟩)
  obtain⟨m,f⟩:∃m:Nat,(newSS n).length=m:=⟨_,z⟩;have hm:m≠0:=by rw[<-f];unfold newSS;rw[AI L];simp;omega
  have bV:¬(m:Int)=0:=ω
  go_enter func20,ntmps20
  go_wp2_with (first|(go_at_call 42;refine(new_s_any n _).J ?_;rintro e w1 ⟨a,c,O,c',rfl,_,_,b⟩;rw[f];have J:=LE (((@AB w.heap.size w).alloc AA _).E (b.J σ));have R:=(LZ w _ _).I b;obtain⟨s,t,u,v,x,y,B,E,F,I,g,k,l,o,p,r,K⟩:=c16 R;obtain⟨W,X,d,A,G,j,q,C,D,H,P,Q,S,T,U,V⟩:=f16 R;clear R;clear b)|(go_at_call 43;refine(RZ _ _).J ?_;rw[bU];rintro e wz ⟨rfl,N⟩;rw[N];clear N wz))
  refine AE (v:=worldV 0 none 0 0 none 0 none 0 0) (by simp[results,results20,go_sem,worldV,K,s,t,u,v,x,y,B,E,F,I,g,k,l,o,p,r]) z (M _ ?_);refine Below.alloc ?_ τ _
  iterate 16(refine GS ?_ (by show w.heap.size<=w.heap.size;omega) _)
  exact J.j
 have f:(newSS n).length=0:=by unfold newSS;rw[AF L];rfl
 go_enter func20,ntmps20
 go_wp2_with (first|(go_at_call 42;refine(new_s_any n _).J ?_;rintro e w1 ⟨a,c,O,c',rfl,_,_,b⟩;rw[f];have J:=LE (((@AB w.heap.size w).alloc AA _).E (b.J σ));have R:=(LZ w _ _).I b;obtain⟨s,t,u,v,x,y,B,E,F,I,g,k,l,o,p,r,K⟩:=c16 R;obtain⟨W,X,d,A,G,j,q,C,D,H,P,Q,S,T,U,V⟩:=f16 R;clear R;clear b))
 refine AE (v:=worldV 0 none 0 0 none 0 none 0 0) (by simp[results,results20,go_sem,worldV,K,s,t,u,v,x,y,B,E,F,I,g,k,l,o,p,r]) z (M _ ?_);refine Below.alloc ?_ τ _
 iterate 16(refine GS ?_ (by show w.heap.size<=w.heap.size;omega) _)
 exact J.j
theorem nw_i_no(n c:Int)(w:Q9)(h:¬nwOk n c):Calls prog 13 #[Z n,Z c] w λe a=>NwPost w a e 0 [] 0:=by
 have i:∀a,Q3 w a->NwPost w a (Q2 (worldV 0 none 0 0 none 0 none 0 0)) 0 [] 0:=λa d=>⟨none,0,none,0,none,0,z,.inl z,.inl z,λg b=>(by cases b),λg b=>(by cases b),d⟩
 by_cases f:8<=n/\n<=200
 .have d:decide (8<=n/\n<=200)=true:=AM f
  have g:decide (1<=c/\c<=8)=false:=AH (λx=>h ⟨f,x⟩);go_enter func13,ntmps13
  go_wp2_with (first|(go_at_call 26;refine(jr _ _).J ?_;rw[d];rintro e b ⟨rfl,a⟩;rw[a];clear a b)|(go_at_call 27;refine(TX _ _).J ?_;rw[g];rintro e b ⟨rfl,a⟩;rw[a];clear a b))
  refine H (v:=worldV 0 none 0 0 none 0 none 0 0) (by simp[results,results13,go_sem,worldV]) z (i _ ?_);exact(D).alloc C _
 have d:decide (8<=n/\n<=200)=false:=AH f
 go_enter func13,ntmps13
 go_wp2_with (first|(go_at_call 26;refine(jr _ _).J ?_;rw[d];rintro e b ⟨rfl,a⟩;rw[a];clear a b))
 refine H (v:=worldV 0 none 0 0 none 0 none 0 0) (by simp[results,results13,go_sem,worldV]) z (i _ ?_);exact(D).alloc C _
end Go.Proofs.YteflhojcomcfaaaGreatDoor.nw
namespace Go.Proofs.YteflhojcomcfaaaGreatDoor.nw
open _root_.ByteArray(empty)
open _root_.Go.Proofs.Tryz
open Go.RowKit
theorem nw_i_yes(n f:Int)(w:Q9)(u:8<=n/\n<=200)(X:1<=f/\f<=8):Calls prog 13 #[Z n,Z f] w λe a=>NwPost w a e f (newSS n) 1:=by
 have V:decide (1<=f/\f<=8)=true:=AM X;have q:decide (8<=n/\n<=200)=true:=AM u;obtain⟨m,l⟩:∃m:Nat,(newSS n).length=m:=⟨_,z⟩;have G:m≠0:=by rw[<-l];unfold newSS;rw[AI u];simp;omega
 have cF:¬(m:Int)=0:=d
 have h:=LE l;go_enter func13,ntmps13
 go_wp2_with (first|(go_at_call 26;refine(jr _ _).J ?_;rw[q];rintro e k ⟨rfl,b⟩;rw[b];clear b k)|(go_at_call 27;refine(TX _ _).J ?_;rw[V];rintro e k ⟨rfl,b⟩;rw[b];clear b k)|(go_at_call 28;refine(new_i_any n _).J ?_;rintro e v ⟨a,c,o,t,rfl,s,i,g⟩;rw[l]at i⊢;have r:=LE s;have p:=LE i;have T:=LE (((@D w.heap.size w).alloc C _).E (g.J j));have R:=(LZ w _ _).I g;obtain⟨I,J,K,L,M,N,O,P,Q,S,x,y,A,B,E,F,U⟩:=c16 R;obtain⟨bH,bI,bJ,bP,bQ,bR,bT,bU,bV,bW,H,aW,aX,aY,aZ,bB⟩:=f16 R;clear R;clear g s i))
 have R:=r.j.lt m (λb=>ph (by rw[h.j];exact b))
 have s:∀g,a=Hw g 0->(newSS n).map Value.string≠[]->w.heap.size<g:=λg b i=>by
  have:=p.j g (by subst b;exact ND _ _ _ G);simp at this;omega
 refine AE (v:=worldV f a m c o t (Hw v.heap.size 0) 1 1) (by simp[results,results13,go_sem,worldV,U,I,J,K,L,M,N,O,P,Q,S,x,y,A,B,E,F]) z ⟨a,c,o,t,_,1,by rw[h.j],?_,?_,?_,?_,?_⟩
 .refine OwnS.I ?_ ((D).alloc C _)
  iterate 16(refine OwnS.setw ?_ _ (λg b i=>by have:=s g b i;show w.heap.size≠g;omega) _)
  exact r.j
 .exact .inr ⟨v.heap.size,z,row_atw j⟩
 .intro g b
  rw[h.j]at b;have W:=p.j g b;have e2:=R g b;simp at W
  exact⟨d,λk i=>by rw[ND _ _ _ d]at i;cases i;omega⟩
 .intro g b
  rw[ND _ _ _ d]at b;cases b;omega
 refine Below.alloc ?_ τ _
 iterate 16(refine GS ?_ (by show w.heap.size<=w.heap.size;omega) _)
 exact T.j
theorem nw_s(n a:Int)(w:Q9):Calls prog 20 #[Z n,Z a] w λe b=>NwPost w b e (nwW n a) (nwS n a) (nwM n a):=by
 by_cases h:nwOk n a
 .unfold nwW nwS nwM;rw[G h,G h,G h];exact nw_s_yes n a w h.1 h.2
 unfold nwW nwS nwM;rw[A h,A h,A h];exact nw_s_no n a w h
theorem nw_i(n a:Int)(w:Q9):Calls prog 13 #[Z n,Z a] w λe b=>NwPost w b e (nwW n a) (nwS n a) (nwM n a):=by
 by_cases h:nwOk n a
 .unfold nwW nwS nwM;rw[G h,G h,G h];exact nw_i_yes n a w h.1 h.2
 unfold nwW nwS nwM;rw[A h,A h,A h];exact nw_i_no n a w h
end Go.Proofs.YteflhojcomcfaaaGreatDoor.nw
