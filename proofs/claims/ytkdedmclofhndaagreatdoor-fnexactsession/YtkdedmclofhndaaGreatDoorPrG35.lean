import Derived.Test.YtkdedmclofhndaaGreatDoorPrAr
import Derived.Deep.Onto
import Derived.Test.YtkdedmclofhndaaGreatDoorPrG28
import Derived.Test.YtkdedmclofhndaaGreatDoorPrCutI
import Derived.Deep.AppendSrc
import Derived.Laws.IdiomCopy
import Derived.Great.BuildSlice
import Derived.Laws.ResultCell
set_option maxHeartbeats 16000000
set_option maxRecDepth 8000
set_option linter.all false
namespace Go.Proofs.YtkdedmclofhndaaGreatDoor
open _root_.ByteArray(empty)
section
open Tryz
open Go.RowKit
variable {K:Act->xV->Prop}{aH:Array Oper}{Q:Exit->Act->xV->Prop}{g k:Nat}{o:Oper}{a:xA}{P:Program}{E:Prop}{w w' w1:xV}
def Plt(w:xV)(a:xA)(c:List (List Int)):Prop :=c=[]\/∃b o,a=zY b o/\b<w.heap.size/\∀i,i<c.length->w.rangeAt b (o+i*64) ((c.getD i []).map (Value.int .u8))
def Hld(w:xV)(a:xA)(c:List (Int×List Int)):Prop :=c=[]\/∃b o,a=zY b o/\b<w.heap.size/\∀i,i<c.length->w.rangeAt b (o+i*65) (Z (c.getD i (0,[])).1::(c.getD i (0,[])).2.map (Value.int .u8))
theorem Rc{b o:Nat}{c:List qD}(h:w.rangeAt b o c)(e:yX w w')(d:b<w.heap.size):w'.rangeAt b o c:=λj v hv=>(e.cell (p:=(yA b (o+j))) d).E (h j v hv)
theorem Plt.I{e:List (List Int)}(h:Plt w a e)(d:yX w w'):Plt w' a e:=by
 rcases h with h|⟨b,o,f,c,j⟩
 ·exact .inl h
 exact .inr ⟨b,o,f,AC c d.size,λi l=>Rc (j i l) d c⟩
theorem Hld.I{e:List (Int×List Int)}(h:Hld w a e)(d:yX w w'):Hld w' a e:=by
 rcases h with h|⟨b,o,f,c,j⟩
 ·exact .inl h
 exact .inr ⟨b,o,f,AC c d.size,λi l=>Rc (j i l) d c⟩
theorem Plt.at{c:List (List Int)}(h:Plt w a c)(d:k<c.length):∃b o x,a=zY b o/\b<w.heap.size/\w.rangeAt b (o+k*64) (x.map (Value.int .u8))/\Hid (x=c.getD k []):=by
 rcases h with h|⟨b,o,e,f,i⟩
 ·subst h;simp at d
 exact⟨b,o,_,e,f,i k d,Y rfl⟩
theorem Hld.at{c:List (Int×List Int)}(h:Hld w a c)(d:k<c.length):∃b o n x,a=zY b o/\b<w.heap.size/\w.rangeAt b (o+k*65) (Z n::x.map (Value.int .u8))/\Hid ((n,x)=c.getD k (0,[])):=by
 rcases h with h|⟨b,o,e,f,i⟩
 ·subst h;simp at d
 exact⟨b,o,_,_,e,f,i k d,Y rfl⟩
theorem Qg(n:Int)(b:List Int):∀v∈Z n::b.map (Value.int .u8),v.oneCell'=true:=λv hv=>by
 rcases DX.1 hv with rfl|hv
 ·rfl
 exact VQ b v hv
theorem Uo(w:xV)(A:Array qD)(t:TypeId):(w.alloc (.cells A t)).there w.heap.size 0 A.size:=λj b=>by
 rw[BK,EH _ _ _ _ rfl,EA];exact⟨by simp[b],XP _ _ _ (AA _)⟩
theorem Ox{j:Array Oper}{f:List Oper}{c:Oper}{a:Act}(n:c.guard=none)(e:TypeId)(x y:Operand)(r:c.op=.store e x y)
  (b:List qD)(p:∀v∈b,v.oneCell'=true)(u:a.eval x=zW w.heap.size 0)(z:a.eval y=.agg b.toArray)(A:Array qD)(t:TypeId)(q:A.size=b.length)
  (l:(P.info? e).map (·.size)=some b.length)
  (h:∀d,Row d w.heap.size b->yX w d->d.heap.size=w.heap.size+1->wpList P j Q f (a.put c.dst undef) d):wpList P j Q (c::f) a (w.alloc (.cells A t)):=by
 have d:=Uo w A t;rw[q]at d;have m:b.toArray.size=b.length:=σ
 refine BU n e x y r w.heap.size 0 _ u z (by rw[m];exact d) (by rw[m];exact l) (GH p) ?_;have s:=EE (w.alloc (.cells A t)) w.heap.size 0 b d;refine h _ ⟨by rw[SK];simp,λi v hv=>?_,λi l=>?_⟩ (Go.below_setCells (AA _) _ _ _ (LG _ _)) (by rw[SK];simp)
 ·have:=s i v hv
  simpa using this
 rw[EO,EA];exact XP _ _ _ (AA _)
theorem Row.text{j:List qD}(h:Row w g j)(c:List Int)(o n b:Nat)(s:c.length=n)(l:∀i,i<n->j[o+i]?=some (.int .u8 (c.getD i 0)))(f e d:TypeId)(r:P.underlying f=some (.slice e))(p:P.underlying e=some (.int .u8))(m:P.underlying d=some .string):(convert f d (yI (zY g o) n b)).run P w=.ok (yQ (strOfNums c)) w :=ES (P:=P) w f e r p g o n b c s (λi q=>h.cell _ _ (l i q)) d m
theorem Dsk.start3(w:xV)(d f:qD)(h i j e l:TypeId):Dsk w (((w.alloc (.cells #[d,f] h)).alloc (.cells #[yI none 0 0,yI none 0 0] i)).alloc (.cells #[yI none 0 0,yI none 0 0] j)) (w.heap.size+1) (w.heap.size+1+1) (w.heap.size+1+1+1) e l (yI none 0 0) (yI none 0 0) [] []:=by
 have m:yX w (((w.alloc (.cells #[d,f] h)).alloc (.cells #[yI none 0 0,yI none 0 0] i)).alloc (.cells #[yI none 0 0,yI none 0 0] j)):=((LG _ _).alloc σ _).alloc τ _;have b:=(LS (w.alloc (.cells #[d,f] h)) #[yI none 0 0,yI none 0 0] i).alloc (.cells #[yI none 0 0,yI none 0 0] j);have c:=LS ((w.alloc (.cells #[d,f] h)).alloc (.cells #[yI none 0 0,yI none 0 0] i)) #[yI none 0 0,yI none 0 0] j;simp only[BE]at b c;exact⟨ω,ω,ω,ω,ω,σ,m,b.y 0,b.y 1,b.A 0,b.A 1,c.y 0,c.y 1,c.A 0,c.A 1,BT _ _ _ _,BT _ _ _ _,.inl rfl⟩
theorem Dsk.far{W:xV}{R D c:Nat}{e f:TypeId}{v t:qD}{s:List yZ}{x:List (Int×yZ)}(h:Dsk W w R D c e f v t s x)(n:w.grownBy w1 v.ownBlock)(b i j:Nat)(m:b<c)(p:b≠D)(u:qD):(w1.setCell (yA D j) u).cell? (yA b i)=w.cell? (yA b i):=by
 have q:b<w.heap.size:=AC m h.sz
 have r:some b≠v.ownBlock:=λd=>by have:=(h.own.lt b d.symm).1;omega
 rw[DE (w:=w1) (h:=show((yA D j):Addr)≠(yA b i) fromλd=>p (by injection d with l;exact l.symm))];exact n.cell_far (yA b i) q r
def O4(b:List (List Int)):List yZ:=b.map strOfNums
def Qf(b:List (Int×List Int)):List (Int×yZ):=b.map λx=>(x.1,strOfNums x.2)
def Ra:Array qD:=#[Z 0]++Array.replicate 64 (.int .u8 0)
theorem Qo(w:xV):(zeroValue 145).run prog w=.ok (.agg Ra) w:=κ
theorem Ul(b:List (List Int))(k:Nat)(h:k<b.length):O4 (b.take (k+1))=O4 (b.take k)++[strOfNums (b.getD k [])]:=by
 unfold O4;rw[BH h,DA];simp[List.getD,h]
theorem Uh(b:List (Int×List Int))(k:Nat)(h:k<b.length):Qf (b.take (k+1))=Qf (b.take k)++[((b.getD k (0,[])).1,strOfNums (b.getD k (0,[])).2)]:=by
 unfold Qf;rw[BH h,DA];simp[List.getD,h]
def Xs:qD:=.agg (Array.replicate 64 (.int .u8 0))
theorem Ty:(prog.info? 143).map (λi=>(i.zero,i.size,i.bytes))=some (some Xs,64,64):=κ
theorem Sj(n:Nat):(madeCells Xs.cells (n*64)).toList=List.replicate (n*64) (.int .u8 0):=by
 unfold madeCells;rw[KV,KI,JP];refine⟨σ,λb c=>?_⟩;obtain⟨i,_,rfl⟩:=DT.1 c;have c:Xs.cells=Array.replicate 64 (.int .u8 0):=rfl;have b:i % (Array.replicate 64 (Value.int .u8 0)).size<64:=by rw[Array.size_replicate];omega
 rw[c];rw[getElem!_pos _ _ (by rw[Array.size_replicate]at b⊢;exact b)];simp
theorem Vg{n:Nat}(h:Row w g (List.replicate (n*64) (.int .u8 0))):Plt w (zY g 0) (List.replicate n (List.replicate 64 0)):=by
 refine .inr ⟨g,0,rfl,h.lt,λi b j v hv=>?_⟩;rw[DU]at b;have c:(List.replicate n (List.replicate 64 (0:Int))).getD i []=List.replicate 64 0:=by rw[BF,EN,AI b];rfl
 rw[c,List.map_replicate,EN]at hv
 by_cases b:j<64
 ·rw[AI b]at hv
  cases hv
  rw[BK];exact h.cell _ _ (by rw[EN,AI ω])
 rw[AF b]at hv;cases hv
theorem vh(n:Nat)(h:0<n):Builtin.nextslicecap n 0=n:=by
 unfold Builtin.nextslicecap;simp;omega
theorem Q9{a:Act}
  (J:o.guard=none)(s x:Operand)(t:TypeId)(p:o.op=.call { callee:=.builtin .append,args:=#[s,x],argTypes:=#[t,t] })
  (e:TypeId)(i:TypeInfo)(z:qD)(d l:Nat)(B:P.underlying t=some (.slice e))(q:P.info? e=some i)(N:i.zero=some z)(F:i.size=d)(I:i.bytes=l)
  (b:Nat)(A:a.eval s=yI (zY b 0) 0 0)(v:qD)(D:a.eval x=v)(n:Nat)(c:List qD)(m:Src P d t v n c w)(O:c.length=n*d)(R:n<=1048576)(H:n*l<=281474976710656)
  (h:∀g f j,(n=0\/(g=w.heap.size/\Row j g c))->yX w j->K (a.put o.dst (yI (zY g 0) n f)) j):if Region.wanted o (yielded aH a.tmps)=true then Oper.wp P o a w K Q else E:=by
 have M:Region.wanted o (yielded aH a.tmps)=true:=by simp[Region.wanted,J]
 rw[AI M];subst F I
 by_cases L:n=0
 ·subst L
  have j:c=[]:=AD ω;subst j;have f:=run_append_room_src (P:=P) w t t o.type e i B q b 0 0 0 v 0 [] m ω σ σ;unfold Oper.wp;simp[execOp,p,resolve,invoke,builtin,A,D,f,Result.andThen];exact h b 0 _ (.inl rfl) (AB _ _)
 have G:(Builtin.firstCells i.size 0 (yI (zY b 0) 0 0)).run P w.drew=.ok ([]:List qD).toArray w.drew:=GI w.drew i.size 0 _ 0 0 [] σ σ
 have f:=run_append_grow_src (P:=P) w t t o.type e i z B q N (zY b 0) 0 0 [] G v n c m ω ω (by rw[BK,vh n ω];exact H);unfold Oper.wp;simp[execOp,p,resolve,invoke,builtin,A,D,f,Result.andThen];refine h w.heap.size _ _ (.inr ⟨rfl,?_⟩) ((AB _ _).drew.alloc (AA _) _);have y:=LS w.drew ((([]:List qD)++c).toArray++Builtin.zeroCells z.cells (grownCap w (0+n) 0 e-(0+n))) e;refine⟨σ,λj u C=>?_,λj r=>?_⟩
 ·have:=y.cell j u (by
   obtain⟨r,_⟩:=DI.1 C
   simp[BN r,C])
  simpa using this
 have:=y.froz j τ
 simpa using this
theorem Qj{d:List yZ}(h:Strs w a d)(t e:TypeId)(i:P.underlying t=some (.slice e))(c:Nat):Src P 1 t (yI a d.length c) d.length (d.map Value.string) w:=by
 rcases h with h|⟨b,o,rfl,n,m⟩
 ·subst h
  cases a with
  | none=>exact Src.ofNil w i c
  | some x=>exact Src.ofSlice w i x 0 c [] σ σ σ
 refine Src.ofSlice w i (yA b o) d.length c _ σ (λj u l=>?_) (λu l=>by obtain⟨s,_,rfl⟩:=DT.1 l;rfl)
 obtain⟨f,e⟩:=DI.1 l;simp only[BO]at f;have l:((yA b o):Addr).add j=(yA b (o+j)):=by unfold Addr.add;split<;>simp_all
 rw[l,m j f,<-e];simp[List.getD,f]
theorem Wj{d:List (Int×yZ)}(h:Wrs w a d)(t e:TypeId)(l:P.underlying t=some (.slice e))(c:Nat):Src P 2 t (yI a d.length c) d.length (MH d) w:=by
 rcases h with h|⟨b,o,rfl,s,n⟩
 ·subst h
  cases a with
  | none=>exact Src.ofNil w l c
  | some x=>exact Src.ofSlice w l x 0 c [] σ σ σ
 refine Src.ofSlice w l (yA b o) d.length c _ (cj d) (λj u f=>?_) (λu f=>?_)
 ·obtain⟨p,e⟩:=DI.1 f
  rw[cj]at p;have m:((yA b o):Addr).add j=(yA b (o+j)):=by unfold Addr.add;split<;>simp_all
  obtain⟨q,r⟩:∃q,j=q*2\/j=q*2+1:=⟨j / 2,ω⟩;have i:q<d.length:=ω
  have j:=km d q i;rcases r with rfl|rfl
  ·rw[m,(n q i).1,<-f,j.1]
  rw[m,<-KU,(n q i).2,<-f,j.2]
 unfold MH at f
 obtain⟨x,_,i⟩:=JQ.1 f;simp at i;rcases i with rfl|rfl<;>rfl
def Ti(w:xV)(p:Addr):qD:=(w.cell? p).getD (Z 0)
theorem Pg{p:Addr}(h:(w.cell? p).isSome=true):w.cell? p=some (Ti w p):=by
 unfold Ti
 cases e:w.cell? p with
 | none=>rw[e]at h;exact absurd h σ
 | some v=>rfl
theorem Pi{p:Addr}{v:qD}(h:w.cell? p=some v):(w.cell? p).isSome=true:=by rw[h];rfl
def KeepC(d:xV)(X:Nat)(b c:qD)(w:xV):Prop :=w.cell? (yA X 0)=some b/\w.cell? (yA X 1)=some c/\w.cell? (yA (X+1) 0)=some (Ti w (yA (X+1) 0))/\w.cell? (yA (X+1) 1)=some (Ti w (yA (X+1) 1))/\w.frozen? (yA (X+1) 0)=false/\w.frozen? (yA (X+1) 1)=false/\d.grownBy w (some (X+1))/\X+1<w.heap.size
theorem KeepC.I{l:xV}{X:Nat}{f j:qD}(h:KeepC l X f j w)(b:yX w w'):KeepC l X f j w':=by
 obtain⟨n,p,q,r,s,t,c,d⟩:=h;refine⟨(b.cell (p:=(yA X 0)) (by show X<_;omega)).E n,(b.cell (p:=(yA X 1)) (by show X<_;omega)).E p,?_,?_,?_,?_,⟨b.os.E c.os,b.tape.E c.tape,b.output.E c.output,AJ c.size b.size,λi e m=>(b.block i (AC e c.size)).E (c.block i e m)⟩,AC d b.size⟩
 ·exact Pg (by rw[b.cell (p:=(yA (X+1) 0)) d];exact Pi q)
 ·exact Pg (by rw[b.cell (p:=(yA (X+1) 1)) d];exact Pi r)
 ·rw[b.frozen (p:=(yA (X+1) 0)) d];exact s
 rw[b.frozen (p:=(yA (X+1) 1)) d];exact t
theorem KeepC.set{m:xV}{X:Nat}{f l:qD}(h:KeepC m X f l w)(j:Nat)(v:qD):KeepC m X f l (w.setCell (yA (X+1) j) v):=by
 obtain⟨n,q,r,s,t,x,b,y⟩:=h
 have d:∀p,(w.cell? p).isSome=true->((w.setCell (yA (X+1) j) v).cell? p).isSome=true:=λp c=>by
  by_cases e:((yA (X+1) j):Addr)=p
  ·subst e
   obtain⟨u,i⟩:=IF.1 c;rw[FW (w:=w) (h:=i)];rfl
  rw[DE (w:=w) (h:=e)];exact c
 refine⟨(DR _ _ _ _ (by show X+1≠X;omega)).E n,(DR _ _ _ _ (by show X+1≠X;omega)).E q,Pg (d _ (Pi r)),Pg (d _ (Pi s)),by rw[BY];exact t,by rw[BY];exact x,⟨(zO (X+1) [v] j w).1.E b.os,(zO (X+1) [v] j w).2.1.E b.tape,(zO (X+1) [v] j w).2.2.E b.output,by simpa using b.size,λi e c=>?_⟩,by simpa using y⟩;rw[<-b.block i e c];exact jo (X+1) [v] j w i (λe=>c (by rw[e]))
theorem U0(B R:Nat)(j m:xV)(h:List yZ)(i:List (Int×yZ))(c d l p:Nat)(y z:qD)(aH:B<=l)(G:R<l)(q:h.length=0\/c=l/\Row j c (h.map Value.string))(u:yX j m)(C:l<=j.heap.size)(A:j.heap.size<=p)(r:i.length=0\/d=p/\Row m d (MH i)):OwnD ((m.setCell (yA R 0) y).setCell (yA R 1) z) (zY c 0) h (zY d 0) i/\(∀k,blk (zY c 0) h.length=some k->B<=k)/\(∀k,blk (zY d 0) i.length=some k->B<=k):=by
 have s:∀k,blk (zY c 0) h.length=some k->k=l/\k<j.heap.size:=λk b=>by
  unfold blk at b
  split at b
  ·exact absurd b σ
  rename_i n
  rcases q with e|⟨rfl,f⟩
  ·exact absurd e n
  simp at b
  exact⟨b.symm,by rw[<-b];exact f.lt⟩
 have t:∀k,blk (zY d 0) i.length=some k->k=p:=λk b=>by
  unfold blk at b
  split at b
  ·exact absurd b σ
  rename_i n
  rcases r with e|⟨rfl,f⟩
  ·exact absurd e n
  simp at b
  exact b.symm
 refine⟨⟨?_,?_,?_⟩,λk b=>by have:=s k b;omega,λk b=>by have:=t k b;omega⟩
 ·rcases q with e|⟨rfl,f⟩
  ·exact .inl (by rw[AD e];rfl)
  exact .inr ⟨c,rfl,((f.I u).other (yA R 0) (by show R≠_;omega) _).other (yA R 1) (by show R≠_;omega) _⟩
 ·rcases r with e|⟨rfl,f⟩
  ·exact .inl (by rw[AD e];rfl)
  exact .inr ⟨d,rfl,(f.other (yA R 0) (by show R≠_;omega) _).other (yA R 1) (by show R≠_;omega) _⟩
 cases e1:blk (zY c 0) h.length with
 | none=>exact .inl rfl
 | some v =>
  cases e2:blk (zY d 0) i.length with
  | none=>exact .inr (.inl rfl)
  | some x =>
   have D:=s v e1;have F:=t x e2;exact .inr (.inr (λe=>by injection e with e;omega))
section
def Oz:List (Int×yZ)->List yZ->List yZ
 | [],ss=>ss
 | x::r,ss=>Oz r (ss.set x.1.toNat x.2)
theorem Pa:∀(ws:List (Int×yZ)) (ss:List yZ),(Oz ws ss).length=ss.length
 | [],_=>rfl
 | x::r,ss=>by rw[Oz,Pa r];simp
structure SYs(W w:xV)(R X g g' n n' c1 c1':Nat)(ws:List (Int×yZ))(ts:List yZ):Prop where
 gr:W.grownBy w (some g)
 rr:Row w R [yI none 0 0,yI none 0 0]
 rx:Row w X [yI (zY g 0) n c1,yI (zY g' 0) n' c1']
 rs:Row w g (ts.map Value.string)
 own:OwnS w (zY g' 0) (MH ws)
section
variable {W w w':xV} {R X g g' n n' c1 c1':Nat} {ws:List (Int×yZ)} {ts:List yZ}
theorem SYs.I(h:SYs W w R X g g' n n' c1 c1' ws ts)(b:yX w w'):SYs W w' R X g g' n n' c1 c1' ws ts :=⟨VL h.gr (ki _ b),h.rr.I b,h.rx.I b,h.rs.I b,h.own.I b⟩
theorem SYs.drew(h:SYs W w R X g g' n n' c1 c1' ws ts):SYs W w.drew R X g g' n n' c1 c1' ws ts:=h.I ((AB _ _).drew)
theorem SYs.set(h:SYs W w R X g g' n n' c1 c1' ws ts)(m:Nat)(l:m<ts.length)(s:yZ)(f:R≠g)(i:X≠g)(j:MH ws≠[]->g'≠g):SYs W (w.setCell (yA g m) (yQ s)) R X g g' n n' c1 c1' ws (ts.set m s):=by
 refine⟨NA h.gr _ _,h.rr.other _ (λe=>f e.symm) _,h.rx.other _ (λe=>i e.symm) _,?_,?_⟩
 ·rw[KE];exact h.rs.set m (by simpa using l) _
 rcases h.own with p|⟨b,e,q⟩
 ·exact .inl p
 injection e with e;injection e with e
 by_cases c:MH ws=[]
 ·exact .inl c
 exact .inr ⟨g',rfl,(e ▸ q).other _ (λd=>j c d.symm) _⟩
end
theorem P8{a b:xV}{r:Option Nat}(h:a.grownBy b r)(p:Addr)(f:a.heap.size<=p.block)(v:qD):a.grownBy (b.setCell p v) r :=⟨h.os,h.tape,h.output,by rw[BL];exact h.size,λi c d=>(BM _ _ _ _ (λe=>ω)).E (h.block i c d)⟩
set_option maxRecDepth 100000 in
theorem Tp(g l:Nat)(j:List yZ)(c:Nat)(h:List (Int×yZ))(r:Nat)(w:xV)(z:Row w g (j.map Value.string))(T:OwnS w (zY l 0) (MH h))(N:MH h≠[]->l≠g)(hl:j.length<=200)(bH:h.length<=300)(O:∀x∈h,0<=x.1/\x.1<(j.length:Int)):Calls prog 135 #[LM (zY g 0) j.length c (zY l 0) h.length r] w λe w'=>∃x,e=yT (LM (zY g 0) j.length c (zY x 0) 0 0)/\w.heap.size<=x/\x<w'.heap.size/\Row w' g ((Oz h j).map Value.string)/\w.grownBy w' (some g):=by
 obtain⟨q,G⟩:∃q,Hid (q=Oz h j):=⟨_,Y rfl⟩;rw[<-G.j];have bE:=z.lt;go_enter func135,ntmps135;go_wp2
 have f:SYs w ((w.alloc (.cells #[yI (zY g 0) j.length c,yI (zY l 0) h.length r] 32)).alloc (.cells #[yI none 0 0,yI none 0 0] 32)) (w.heap.size+1) w.heap.size g l j.length h.length c r h j :=⟨ki _ ((LG _ _).alloc σ _),NZ _ _ _ _ σ,(LS _ _ _).alloc _,(z.alloc _).alloc _,(T.I (Oq _ _)).I (Oq _ _)⟩
 have J:=Y f;have aV:=Y O;have I:=Y N;clear f z T O N;go_loopw [3] (λi wr=>∃(k:Nat) (p:List yZ),k<=h.length/\i=Z k/\p.length=j.length/\Hid (Oz (h.drop k) p=q)/\SYs w wr (w.heap.size+1) w.heap.size g l j.length h.length c r h p) (λi _=>h.length-(intOf i).toNat)
 case atStart=>exact⟨0,j,AL _,rfl,rfl,by show _=_;rw[FH,G.j],J.j⟩
 case round =>
  clear J;obtain⟨k,p,hk,rfl,A,D,f⟩:=hrel
  by_cases y:k<h.length
  ·obtain⟨b,o,C,d,R,u,v,F⟩:=f.own.wrs.at y
   obtain⟨rfl,rfl⟩:l=b/\o=0:=by cases R;exact⟨rfl,rfl⟩
   rw[BK]at u v;clear R;have t:=aV.j (C,d) (by rw[F.j];simp[List.getD,y]);obtain⟨m,rfl,S⟩:∃m:Nat,C=(m:Int)/\m<j.length:=⟨C.toNat,by have:=t.1;simp at *;omega,by have:=t.1;have:=t.2;simp at *;omega⟩
   have H:MH h≠[]:=λe=>by have:=BC List.length e;rw[cj,AT]at this;omega
   have bC:=I.j H;have L:=Pg (Pi (f.rs.cell m (yQ (p.getD m empty)) (by simp[List.getD,A,S])));have M:=f.rs.froz m (by simp[A,S]);have aX:=f.rx.lt;have U:=f.rx.y 0;have V:=f.rx.y 1;have n:=Y (AG U (AG V (AG u (AG v (AG L M)))));have s:=Y f;have bF:(0:Int)<=(k:Int):=ω
   have bG:(k:Int)<(h.length:Int):=ω
   have bI:(0:Int)<=(m:Int):=ω
   have bJ:(m:Int)<(j.length:Int):=ω
   clear f t L M u v H;go_wp2_with fail;clear U V
   go_region_held3 (λw'=>w'.cell? (yA w.heap.size 0)=some (yI (zY g 0) j.length c)/\w'.cell? (yA w.heap.size 1)=some (yI (zY l 0) h.length r)/\w'.cell? (yA l (k*2))=some (Z (m:Int))/\w'.cell? (yA l (k*2+1))=some (yQ d)/\w'.cell? (yA g m)=some (Ti w' (yA g m))/\w'.frozen? (yA g m)=false)
    (first|assumption|exact n.j|exact⟨(DR _ _ _ _ (by show g≠w.heap.size;omega)).E n.j.1,(DR _ _ _ _ (by show g≠w.heap.size;omega)).E n.j.2.1,(DR _ _ _ _ (by show g≠l;omega)).E n.j.2.2.1,(DR _ _ _ _ (by show g≠l;omega)).E n.j.2.2.2.1,Pg (Pi (World.cell?_setCell_same' wr _ (yQ d) (Pi n.j.2.2.2.2.1))),(BY wr _ _ _).E n.j.2.2.2.2.2⟩)
    (fail)
   have aH:=Y (s.j.drew.set m ω d ω ω I.j)
   have X:Hid (Oz (h.drop (k+1)) (p.set m d)=q):=by
    show _=_;rw[<-D.j,YG h k (0,empty) y,<-F.j,Oz,DS]
   rename_i B;clear B n;go_wp2;go_roundw
   case rel=>exact⟨k+1,_,ω,ν,by simp[A],X,aH.j⟩
   case measure=>simp[intOf];omega
  have W:Hid (p=q):=by
   have:=D.j;rw[DY ω]at this;exact this
  rw[W.j]at f;have s:=Y f;have q0:=f.rx.y 0;have q1:=f.rx.y 1;have f1:=f.rx.A 1;have r0:=f.rr.y 0;have r1:=f.rr.y 1;obtain⟨aZ,bB⟩:=f.rr.z2;have aX:=f.rx.lt;have aW:=f.rr.lt;have n1:w.heap.size≠w.heap.size+1:=ω
  clear f;go_wp2;have aY:wr.heap.size≠w.heap.size+1:=ω
  refine AE (v:=LM (zY g 0) j.length c (zY wr.heap.size 0) 0 0) (by simp[results,results135,go_sem,r0,r1,n1,aY,aW]) rfl ⟨_,rfl,ω,σ,?_,?_⟩
  ·exact(((s.j.rs.other _ (by show w.heap.size≠g;omega) _).other _ (by show w.heap.size+1≠g;omega) _).other _ (by show w.heap.size+1≠g;omega) _).alloc _
  exact VL (P8 (P8 (P8 s.j.gr (yA w.heap.size 1) (by show w.heap.size<=w.heap.size;omega) _) (yA (w.heap.size+1) 0) (by show w.heap.size<=w.heap.size+1;omega) _) (yA (w.heap.size+1) 1) (by show w.heap.size<=w.heap.size+1;omega) _) (ki _ (Oq _ _))
end
theorem Q5{a:Act}(B:Nat)
  (N:o.guard=none)(s x:Operand)(t:TypeId)(q:o.op=.call { callee:=.builtin .append,args:=#[s,x],argTypes:=#[t,t] })
  (e:TypeId)(i:TypeInfo)(z:qD)(d m:Nat)(F:P.underlying t=some (.slice e))(y:P.info? e=some i)(T:i.zero=some z)(I:i.size=d)(M:i.bytes=m)
  (b:Nat)(D:a.eval s=yI (zY b 0) 0 0)(v:qD)(H:a.eval x=v)(n:Nat)(c:List qD)(p:Src P d t v n c w)(l:c.length=n*d)(U:n<=1048576)(L:n*m<=281474976710656)(R:B<=w.heap.size)(O:z.cells.size=d)
  (h:∀g f j,((n=0/\f=0)\/(g=w.heap.size/\Row j g c/\j.ownsRow B e d (yI (zY g 0) n f) n c/\n≠0))->yX w j->K (a.put o.dst (yI (zY g 0) n f)) j):if Region.wanted o (yielded aH a.tmps)=true then Oper.wp P o a w K Q else E:=by
 have S:Region.wanted o (yielded aH a.tmps)=true:=by simp[Region.wanted,N]
 rw[AI S];subst I M
 by_cases r:n=0
 ·subst r
  have j:c=[]:=AD ω;subst j;have f:=run_append_room_src (P:=P) w t t o.type e i F y b 0 0 0 v 0 [] p ω σ σ;unfold Oper.wp;simp[execOp,q,resolve,invoke,builtin,D,H,f,Result.andThen];exact h b 0 _ (.inl ⟨rfl,rfl⟩) (AB _ _)
 have J:(Builtin.firstCells i.size 0 (yI (zY b 0) 0 0)).run P w.drew=.ok ([]:List qD).toArray w.drew:=GI w.drew i.size 0 _ 0 0 [] σ σ
 have f:=run_append_grow_src (P:=P) w t t o.type e i z F y T (zY b 0) 0 0 [] J v n c p ω ω (by rw[BK,vh n ω];exact L);unfold Oper.wp;simp[execOp,q,resolve,invoke,builtin,D,H,f,Result.andThen];refine h w.heap.size _ _ (.inr ⟨rfl,?_,?_,r⟩) ((AB _ _).drew.alloc (AA _) _)
 ·have C:=LS w.drew ((([]:List qD)++c).toArray++Builtin.zeroCells z.cells (grownCap w (0+n) 0 e-(0+n))) e
  refine⟨σ,λj u G=>?_,λj A=>?_⟩
  ·have:=C.cell j u (by
    obtain⟨A,_⟩:=DI.1 G
    simp[BN A,G])
   simpa using this
  have:=C.froz j τ
  simpa using this
 have j:=JL w n 0 e
 have u:=IQ w n 0 e (by unfold maxLen;omega);refine⟨l,.inr ⟨w.heap.size,_,_,rfl,R,AU w.drew _,j,u,?_,?_⟩⟩
 ·simp[KJ,l,O]
  rw[<-IW]
  congr 1
  omega
 simp[l]
set_option maxRecDepth 4000 in
theorem Tu(a:xA)(d:List yZ)(c:Nat)(f:xA)(b:List (Int×yZ))(i:Nat)(w:xV)(h:Strs w a d)(h':Wrs w f b)(hl:d.length<=200)(bE:b.length<=300):Calls prog 91 #[LM a d.length c f b.length i] w λe w'=>∃g q C n,e=yT (LM (zY g 0) d.length q (zY C 0) b.length n)/\OwnD w' (zY g 0) d (zY C 0) b/\(∀k,blk (zY g 0) d.length=some k->w.heap.size<=k)/\(∀k,blk (zY C 0) b.length=some k->w.heap.size<=k)/\((b=[]/\n=0)\/w'.ownsRow (w.heap.size+1+1) 147 2 (yI (zY C 0) b.length n) b.length (MH b)/\b.length≠0)/\yX w w':=by
 obtain⟨i0,m,s,t,u⟩:=O5 ut;have x:=Y (AG m (AG s (AG t u)));clear m s t u;obtain⟨i1,m,s,t,u⟩:=O5 yy;have aH:=Y (AG m (AG s (AG t u)));clear m s t u
 have aZ:∀o1 o2,yX w ((w.alloc o1).alloc o2):=λo1 o2=>(LG _ _).alloc σ _
 go_enter func91,ntmps91;go_wp2_with fail;have N:=(Cx.new w (yI a d.length c) (yI f b.length i) 32).I (Oq _ (.cells #[yI none 0 0,yI none 0 0] 32));have S:=NZ (w.alloc (.cells #[yI a d.length c,yI f b.length i] 32)) #[yI none 0 0,yI none 0 0] 32 (w.heap.size+1) σ;have R:=aZ (.cells #[yI a d.length c,yI f b.length i] 32) (.cells #[yI none 0 0,yI none 0 0] 32);have M:((w.alloc (.cells #[yI a d.length c,yI f b.length i] 32)).alloc (.cells #[yI none 0 0,yI none 0 0] 32)).heap.size=w.heap.size+1+1:=σ
 obtain⟨l,W⟩:∃l,l=(w.alloc (.cells #[yI a d.length c,yI f b.length i] 32)).alloc (.cells #[yI none 0 0,yI none 0 0] 32):=⟨_,rfl⟩;rw[<-W]at N S R M⊢;clear W;have U:=Y N;have y:=Y S;have HB:=Y R;have p:=Y M;clear N S R M;have Z:KeepC l w.heap.size (yI a d.length c) (yI f b.length i) l:=⟨U.j.c0,U.j.c1,Pg (Pi (y.j.y 0)),Pg (Pi (y.j.y 1)),y.j.A 0,y.j.A 1,⟨rfl,rfl,rfl,AA _,λ_ _ _=>rfl⟩,by rw[p.j];omega⟩;have HK:=Y Z;clear Z
 have X:∀T,KeepC l w.heap.size (yI a d.length c) (yI f b.length i) T->yX w T:=λT hz=>HB.j.E (MF hz.2.2.2.2.2.2.1 (by rw[p.j];omega) (λg hg=>by injection hg with hg;omega))
 have F:=Y X;clear X
 go_region_held3 (λw'=>w'.cell? (yA w.heap.size 0)=some (yI a d.length c)/\w'.cell? (yA w.heap.size 1)=some (yI f b.length i)/\w'.cell? (yA (w.heap.size+1) 0)=some (Ti w' (yA (w.heap.size+1) 0))/\w'.cell? (yA (w.heap.size+1) 1)=some (Ti w' (yA (w.heap.size+1) 1))/\w'.frozen? (yA (w.heap.size+1) 0)=false/\w'.frozen? (yA (w.heap.size+1) 1)=false/\l.grownBy w' (some (w.heap.size+1))/\w.heap.size+1<w'.heap.size)
  (first|assumption|exact HK.j.I ((AB _ _).drew)|exact KeepC.I (by assumption) (by assumption)|exact KeepC.I (by assumption) (Oq _ _)|exact KeepC.set (KeepC.set (by assumption) 0 _) 1 _)
  (first|(refine Q9 ρ _ _ 27 ρ 9 _ _ 1 16 underlying27 x.j.1 x.j.2.1 x.j.2.2.1 x.j.2.2.2 _ ρ _ ρ d.length _ (by exact Qj (h.I (F.j _ (by assumption))) _ _ ρ _) σ ω ω ?_;intro r q O H G)|(refine Q5 (w.heap.size+1+1) ρ _ _ 30 ρ 147 _ _ 2 24 underlying30 aH.j.1 aH.j.2.1 aH.j.2.2.1 aH.j.2.2.2 _ ρ _ ρ b.length _ (by exact Wj (h'.I (F.j _ (by assumption))) _ _ ρ _) (by exact cj b) ω ω (by refine Nat.succ_le_of_lt (KH (KH (KH (KH (KH (KH (KH (?_:KeepC l w.heap.size (yI a d.length c) (yI f b.length i) _))))))));assumption) ρ ?_;intro j B A J z;have I:b.length=0\/(j=_/\Row A j (MH b)):=(J.imp (λh=>h.1) (λh=>⟨h.1,h.2.1⟩));have aW:=J.imp id (λh=>h.2.2);clear J;have L:KeepC l w.heap.size (yI a d.length c) (yI f b.length i) A:=KeepC.I (by assumption) z))
 all_goals
  rename_i v;have aX:=v;clear v;have bB:=F.j _ aX
  have V:=by
   first
   | exact U0 w.heap.size (w.heap.size+1) O A d b r j _ _ (Value.slice (some ⟨r,0,none⟩) d.length q) (Value.slice (some ⟨j,0,none⟩) b.length B) (by simp[p.j]<;>omega) (by simp[p.j]<;>omega) H z G.size (AA _) I
   | exact U0 w.heap.size (w.heap.size+1) O A d b r j _ _ (Value.slice (some ⟨r,0,none⟩) d.length q) (Value.slice (some ⟨j,0,none⟩) b.length B) (by simp[p.j]<;>omega) (by simp[p.j]<;>omega) H (Go.Proofs.YtkdedmclofhndaaGreatDoor.Below.then (Oq O _) (AA _) z) G.size σ I
  have D:=Y V;have m:=Pi L.2.2.1;have bC:=Pi L.2.2.2.1;have aY:=Y aW;clear V H G I z L aX aW;go_wp2;exact AE (v:=LM (zY r 0) d.length q (zY j 0) b.length B) (by simp[results,results91,go_sem,m,bC]) rfl ⟨r,q,j,B,rfl,D.j.1,D.j.2.1,D.j.2.2,aY.j.imp (λh=>⟨AD h.1,h.2⟩) (λh=>⟨EC (EC h.1 (a:=(yA (w.heap.size+1) 0)) (by show w.heap.size+1<_;omega) _) (a:=(yA (w.heap.size+1) 1)) (by show w.heap.size+1<_;omega) _,by have:=h.2;simpa using this⟩),bB⟩
theorem So(a:xA)(d:List yZ)(c:Nat)(j:xA)(f:List (Int×yZ))(m:Nat)(w:xV)(h:Strs w a d)(p:Wrs w j f)(q:d.length<=200)(n:f.length<=300):Calls prog 91 #[LM a d.length c j f.length m] w λe w'=>∃g l i b,e=yT (LM (zY g 0) d.length l (zY i 0) f.length b)/\OwnD w' (zY g 0) d (zY i 0) f/\(∀k,blk (zY g 0) d.length=some k->w.heap.size<=k)/\(∀k,blk (zY i 0) f.length=some k->w.heap.size<=k)/\yX w w' :=(Tu a d c j f m w h p q n).J (λe w' ⟨g,l,i,b,k1,k2,k3,k4,_,k6⟩=>⟨g,l,i,b,k1,k2,k3,k4,k6⟩)
section
structure PR(w:xV)(g:Nat)(ps:List (List Int)):Prop where
 lt:g<w.heap.size
 len:∀p∈ps,p.length=64
 cell:∀k,k<ps.length->∀j,j<64->w.cell? (yA g (k*64+j))=some (.int .u8 ((ps.getD k []).getD j 0))
 froz:∀i,i<ps.length*64->w.frozen? (yA g i)=false
theorem PR.I{c:List (List Int)}(h:PR w g c)(b:yX w w'):PR w' g c :=⟨AC h.lt b.size,h.len,λk f j e=>(b.cell (p:=(yA g _)) h.lt).E (h.cell k f j e),λi d=>(b.frozen (p:=(yA g i)) h.lt).E (h.froz i d)⟩
theorem PR.V{d:List (List Int)}{r:Option Nat}(h:PR w g d)(b:w.grownBy w' r)(c:some g≠r):PR w' g d :=⟨AC h.lt b.size,h.len,λk l j f=>(DP (a:=(yA g _)) (b.block g h.lt c)).E (h.cell k l j f),λi e=>(GQ (a:=(yA g i)) (b.block g h.lt c)).E (h.froz i e)⟩
theorem PR.other{b:List (List Int)}(h:PR w g b)(p:Addr)(l:p.block≠g)(v:qD):PR (w.setCell p v) g b:=by
 refine⟨by simpa[World.setCell] using h.lt,h.len,λk f j d=>?_,λi c=>?_⟩
 ·rw[DE (w:=w) (h:=λe=>l (by rw[e]))];exact h.cell k f j d
 rw[BY];exact h.froz i c
theorem Pw{b:List (List Int)}(h:∀p∈b,p.length=64)(c:k<b.length):(b.getD k []).length=64:=h _ (by simp[List.getD,c])
theorem PR.there{b:List (List Int)}(h:PR w g b)(d:k<b.length):w.there g (k*64) 64:=λj c=>by
 rw[h.cell k d j c];exact⟨rfl,h.froz _ ω⟩
theorem PR.range{b:List (List Int)}(h:PR w g b)(d:k<b.length):w.rangeAt g (k*64) ((b.getD k []).map (Value.int .u8)):=λj v hv=>by
 obtain⟨c,e⟩:=DI.1 hv;simp only[BO]at c;have f:=Pw h.len d;rw[h.cell k d j ω];rw[<-e];simp only[List.getElem_map];rw[BF (l:=b.getD k []),AO c];rfl
theorem PR.plt{b:List (List Int)}(h:PR w g b):Plt w (zY g 0) b :=.inr ⟨g,0,rfl,h.lt,λi c=>by rw[BK];exact h.range c⟩
theorem PR.set{b:List (List Int)}(h:PR w g b)(k:Nat)(m:k<b.length)(x:List Int)(q:x.length=64):PR (w.setCells g (k*64) (x.map (Value.int .u8))) g (b.set k x):=by
 have n:(x.map (Value.int .u8)).length=64:=by simp[q]
 refine⟨by rw[SK];exact h.lt,λp f=>?_,λi c j d=>?_,λi c=>?_⟩
 ·rcases EZ f with e|e
  ·exact h.len p e
  rw[e];exact q
 ·rw[List.length_set]at c
  by_cases l:i=k
  ·subst l
   have f:(b.set i x).getD i []=x:=by rw[BF,JM m];rfl
   rw[f,JJ g _ (i*64) w (λj d=>by rw[n]at d;exact(h.there m j d).1) j ω];simp[List.getD,show j<x.length by omega]
  have f:(b.set k x).getD i []=b.getD i []:=by rw[BF,IV (λe=>l e.symm),BF]
  rw[f,ED g _ (k*64) w (yA g (i*64+j)) (λ_ _=>by rw[n];show i*64+j<k*64\/k*64+64<=i*64+j;omega)];exact h.cell i c j d
 rw[EO];exact h.froz i (by simpa using c)
theorem Wf{n:Nat}(h:Row w g (List.replicate (n*64) (.int .u8 0))):PR w g (List.replicate n (List.replicate 64 0)):=by
 refine⟨h.lt,λp e=>by rw[List.eq_of_mem_replicate e];simp,λk b j d=>?_,λi c=>h.froz i (by simpa using c)⟩;rw[DU]at b
 have c:((List.replicate n (List.replicate 64 (0:Int))).getD k []).getD j 0=0:=by
  rw[BF (l:=List.replicate n _),EN,AI b,GC,BF,EN,AI d];rfl
 rw[c];exact h.cell _ _ (by rw[EN,AI ω])
def Ot(b:List (Int×List Int)):List qD:=b.flatMap λx=>Z x.1::x.2.map (Value.int .u8)
theorem Qu(a b:List (Int×List Int)):Ot (a++b)=Ot a++Ot b:=by simp[Ot]
theorem Sh:∀(b:List (Int×List Int)),(∀p∈b,p.2.length=64)->∀(i:Nat),i<b.length->∀j,(Z (b.getD i (0,[])).1::(b.getD i (0,[])).2.map (Value.int .u8))[j]?≠none->(Ot b)[i*65+j]?=(Z (b.getD i (0,[])).1::(b.getD i (0,[])).2.map (Value.int .u8))[j]?
 | x::r,hl,0,_,j,hj=>by
  have e:Ot (x::r)=(Z x.1::x.2.map (Value.int .u8))++Ot r:=by simp[Ot]
  have c:(x::r).getD 0 (0,[])=x:=rfl;rw[c]at hj⊢;rw[e,Nat.zero_mul,BK,BN];rcases FX j (Z x.1::x.2.map (Value.int .u8)).length with h|h
  ·exact h
  exact absurd (List.getElem?_eq_none h) hj
 | x::r,hl,i+1,h,j,hj=>by
  have e:Ot (x::r)=(Z x.1::x.2.map (Value.int .u8))++Ot r:=by simp[Ot]
  have f:(Z x.1::x.2.map (Value.int .u8)).length=65:=by simp[hl x σ]
  have c:(x::r).getD (i+1) (0,[])=r.getD i (0,[]):=by simp[List.getD]
  rw[c]at hj⊢;rw[e,DW ω,f,show(i+1)*65+j-65=i*65+j by omega];exact Sh r (λp d=>hl p (by simp[d])) i (by simpa using h) j hj
theorem P5(b:List (Int×List Int))(c:∀p∈b,p.2.length=64):(Ot b).length=b.length*65:=by
 induction b with
 | nil=>rfl
 | cons x r f =>
  have e:Ot (x::r)=(Z x.1::x.2.map (Value.int .u8))++Ot r:=by simp[Ot]
  rw[e,AK,f (λp d=>c p (by simp[d]))];simp[c x σ];omega
theorem Row.hld{b:List (Int×List Int)}(h:Row w g (Ot b))(d:∀p∈b,p.2.length=64):Hld w (zY g 0) b :=.inr ⟨g,0,rfl,h.lt,λi c j v hv=>by
  rw[BK]
  exact h.cell _ _ ((Sh b d i c j (by rw[hv];simp)).E hv)⟩
structure Drs(W w:xV)(n:Nat)(box:qD)(e:TypeId)(v:qD)(ps:List (List Int))(hs:List (Int×List Int)):Prop where
 sz:W.heap.size+1+1+1+1<=w.heap.size
 bel:yX W w
 b1:w.cell? (yA W.heap.size 1)=some box
 r0:w.cell? (yA (W.heap.size+1) 0)=some (yI none 0 0)
 r1:w.cell? (yA (W.heap.size+1) 1)=some (yI none 0 0)
 fr0:w.frozen? (yA (W.heap.size+1) 0)=false
 fr1:w.frozen? (yA (W.heap.size+1) 1)=false
 d0:w.cell? (yA (W.heap.size+1+1+1) 0)=some (yI (zY (W.heap.size+1+1) 0) n n)
 d1:w.cell? (yA (W.heap.size+1+1+1) 1)=some v
 fd1:w.frozen? (yA (W.heap.size+1+1+1) 1)=false
 pr:PR w (W.heap.size+1+1) ps
 len:∀p∈hs,p.2.length=64
 own:w.ownsRow (W.heap.size+1+1+1+1) e 65 v hs.length (Ot hs)
section
variable {W w w':xV} {n:Nat} {box v:qD} {e:TypeId} {ps:List (List Int)} {hs:List (Int×List Int)}
theorem Drs.I(h:Drs W w n box e v ps hs)(c:yX w w'):Drs W w' n box e v ps hs :=have hs:=h.sz
 have d:∀b i,b<W.heap.size+1+1+1+1->w'.cell? (yA b i)=w.cell? (yA b i):=λb i j=>c.cell (p:=(yA b i)) (by show b<_;omega)
 have f:∀b i,b<W.heap.size+1+1+1+1->w'.frozen? (yA b i)=w.frozen? (yA b i):=λb i j=>c.frozen (p:=(yA b i)) (by show b<_;omega)
 ⟨AJ hs c.size,h.bel.E (c.J ω),(d _ _ ω).E h.b1,(d _ _ ω).E h.r0,(d _ _ ω).E h.r1,(f _ _ ω).E h.fr0,(f _ _ ω).E h.fr1,
  (d _ _ ω).E h.d0,(d _ _ ω).E h.d1,(f _ _ ω).E h.fd1,h.pr.I c,h.len,LZ h.own c⟩
theorem Drs.drew(h:Drs W w n box e v ps hs):Drs W w.drew n box e v ps hs:=h.I ((AB _ _).drew)
theorem Drs.alloc(h:Drs W w n box e v ps hs)(o:Obj):Drs W (w.alloc o) n box e v ps hs:=h.I (LG _ _)
theorem Drs.fill(h:Drs W w n box e v ps [])(hv:v=yI none 0 0)(k:Nat)(f:k<ps.length)(x:List Int)(j:x.length=64):Drs W (w.setCells (W.heap.size+1+1) (k*64) (x.map (Value.int .u8))) n box e v (ps.set k x) []:=by
 have hs:=h.sz
 have c:∀b i,b≠W.heap.size+1+1->(w.setCells (W.heap.size+1+1) (k*64) (x.map (Value.int .u8))).cell? (yA b i)=w.cell? (yA b i):=λb i d=>ED _ _ _ _ _ (λe=>absurd e d)
 exact⟨by rw[SK];exact hs,Go.below_setCells ω _ _ _ h.bel,(c _ _ ω).E h.b1,(c _ _ ω).E h.r0,(c _ _ ω).E h.r1,(EO _ _ _ _ _).E h.fr0,(EO _ _ _ _ _).E h.fr1,
  (c _ _ ω).E h.d0,(c _ _ ω).E h.d1,(EO _ _ _ _ _).E h.fd1,h.pr.set k f x j,h.len,by rw[hv];exact BT _ _ _ _⟩
theorem Drs.V(h:Drs W w n box e v ps hs)(b:w.grownBy w1 v.ownBlock):w1.cell? (yA (W.heap.size+1+1+1) 1)=some v/\w1.frozen? (yA (W.heap.size+1+1+1) 1)=false:=by
 have hs:=h.sz
 have c:some (W.heap.size+1+1+1)≠v.ownBlock:=λd=>by have:=(h.own.lt _ d.symm).1;omega
 exact⟨(b.cell_far (yA (W.heap.size+1+1+1) 1) (by show W.heap.size+1+1+1<_;omega) c).E h.d1,(b.frozen_far (yA (W.heap.size+1+1+1) 1) (by show W.heap.size+1+1+1<_;omega) c).E h.fd1⟩
theorem Drs.push(h:Drs W w n box e v ps hs){cap:Nat}{x:Int×List Int}(y:x.2.length=64)(s:w1.ownsRow (W.heap.size+1+1+1+1) e 65 (yI (zY g 0) (hs.length+1) cap) (hs.length+1) (Ot hs++(Z x.1::x.2.map (Value.int .u8))))(c:w.grownBy w1 v.ownBlock):Drs W (w1.setCell (yA (W.heap.size+1+1+1) 1) (yI (zY g 0) (hs.length+1) cap)) n box e (yI (zY g 0) (hs.length+1) cap) ps (hs++[x]):=by
 have z:=h.sz
 have j:∀k,k<W.heap.size+1+1+1+1->some k≠v.ownBlock:=λk t p=>by have:=(h.own.lt k p.symm).1;omega
 have r:∀b,b<W.heap.size+1+1+1+1->b<w.heap.size:=λb d=>ω
 have l:∀b i,b<W.heap.size+1+1+1+1->w1.cell? (yA b i)=w.cell? (yA b i):=λb i d=>c.cell_far (yA b i) (r b d) (j b d)
 have m:∀b i,b<W.heap.size+1+1+1+1->w1.frozen? (yA b i)=w.frozen? (yA b i):=λb i d=>c.frozen_far (yA b i) (r b d) (j b d)
 have q:∀b i,b<W.heap.size+1+1+1+1->b≠W.heap.size+1+1+1->(w1.setCell (yA (W.heap.size+1+1+1) 1) (yI (zY g 0) (hs.length+1) cap)).cell? (yA b i)=w.cell? (yA b i):=λb i d u=>by
  rw[DE (w:=w1) (h:=show((yA (W.heap.size+1+1+1) 1):Addr)≠(yA b i) fromλp=>u (by injection p with f;exact f.symm))];exact l b i d
 have b:yX W w1:=h.bel.E ⟨c.os,c.tape,c.output,c.size,λk t=>c.block k ω (j k ω)⟩
 refine⟨by simp only[BL];have:=c.size;omega,b.setCell (by show W.heap.size<=W.heap.size+1+1+1;omega) _,(q _ _ ω ω).E h.b1,(q _ _ ω ω).E h.r0,(q _ _ ω ω).E h.r1,
  (BY _ _ _ _).E ((m _ _ ω).E h.fr0),(BY _ _ _ _).E ((m _ _ ω).E h.fr1),?_,FW w1 _ _ ((l _ _ ω).E h.d1),(BY _ _ _ _).E ((m _ _ ω).E h.fd1),?_,?_,?_⟩
 ·rw[DE (w:=w1) (h:=show((yA (W.heap.size+1+1+1) 1):Addr)≠(yA (W.heap.size+1+1+1) 0) by simp)];exact(l _ _ ω).E h.d0
 ·exact(h.pr.V c (j _ ω)).other _ (by show W.heap.size+1+1+1≠W.heap.size+1+1;omega) _
 ·intro p d
  rcases BZ.1 d with f|f
  ·exact h.len p f
  simp at f;rw[f];exact y
 have f:=EC s (a:=(yA (W.heap.size+1+1+1) 1)) (by show W.heap.size+1+1+1<_;omega) (yI (zY g 0) (hs.length+1) cap)
 have d:Ot (hs++[x])=Ot hs++(Z x.1::x.2.map (Value.int .u8)):=by rw[Qu];simp[Ot]
 rw[AK,d];exact f
theorem Drs.start(w b:xV)(n:Nat)(d c:qD)(h i j e:TypeId)(l:Below ((w.alloc (.cells #[d,c] h)).alloc (.cells #[yI none 0 0,yI none 0 0] i)).heap.size ((w.alloc (.cells #[d,c] h)).alloc (.cells #[yI none 0 0,yI none 0 0] i)) b)
  (hs:b.heap.size=w.heap.size+1+1+1)(q:Row b (w.heap.size+1+1) (List.replicate (n*64) (.int .u8 0))):Drs w (b.alloc (.cells #[yI (zY (w.heap.size+1+1) 0) n n,yI none 0 0] j)) n c e (yI none 0 0) (List.replicate n (List.replicate 64 0)) []:=by
 have r:=(((LS w #[d,c] h).alloc (.cells #[yI none 0 0,yI none 0 0] i)).I l).alloc (.cells #[yI (zY (w.heap.size+1+1) 0) n n,yI none 0 0] j);have f:=((NZ (w.alloc (.cells #[d,c] h)) #[yI none 0 0,yI none 0 0] i (w.heap.size+1) σ).I l).alloc (.cells #[yI (zY (w.heap.size+1+1) 0) n n,yI none 0 0] j);have m:=NZ b #[yI (zY (w.heap.size+1+1) 0) n n,yI none 0 0] j (w.heap.size+1+1+1) hs.symm;have p:yX w b:=((LG _ _).alloc σ _).E (l.J τ);exact⟨by simp[hs],p.alloc p.size _,r.y 1,f.y 0,f.y 1,f.A 0,f.A 1,m.y 0,m.y 1,m.A 1,Wf (q.alloc _),σ,BT _ _ _ _⟩
end
end
theorem Rj{a:Act}
  (B:o.guard=none)(d x:Operand)(l p:TypeId)(r:o.op=Op.call { callee:=Callee.builtin Builtin.copy,args:=#[d,x],argTypes:=#[l,p] })
  (h:TypeId)(D:P.underlying l=some (.slice h))(G:(P.info? h).map (·.size)=some 1)
  (b c f m:Nat)(z:a.eval d=yI (zY b c) f m)(s:Addr)(i n:Nat)(F:a.eval x=yI (some s) i n)(e:List qD)(C:e.length=Nat.min i f)
  (q:∀j v,e[j]?=some v->w.cell? (s.add j)=some v)(y:∀j,j<e.length->(w.cell? (yA b (c+j))).isSome=true)(A:∀j,j<e.length->w.frozen? (yA b (c+j))=false)(t:∀v∈e,v.oneCell'=true)
  (u:K (a.put o.dst (goInt e.length)) (w.setCells b c e)):if Region.wanted o (yielded aH a.tmps)=true then Oper.wp P o a w K Q else E:=by
 have v:Region.wanted o (yielded aH a.tmps)=true:=by simp[Region.wanted,B]
 rw[AI v];have j:=run_copy_cells (P:=P) w l p o.type h b c f m s i n e D G C q y A t;unfold Oper.wp;simp[execOp,r,resolve,invoke,builtin,z,F,j,Result.andThen];exact u
def Qk(k:Nat)(x y:List Int):List Int:=x.take k++y.drop k
theorem Tc(k:Nat)(x y:List Int)(b:k<=64)(c:x.length=64)(d:y.length=64):(Qk k x y).length=64:=by simp[Qk];omega
theorem PR.part{b:List (List Int)}(h:PR w g b)(i:Nat)(l:i<b.length)(k:Nat)(r:k<=64)(x:List Int)(s:x.length=64):PR (w.setCells g (i*64) ((x.take k).map (Value.int .u8))) g (b.set i (Qk k x (b.getD i []))):=by
 have m:((x.take k).map (Value.int .u8)).length=k:=τ
 have t:=Pw h.len l;refine⟨by rw[SK];exact h.lt,λp f=>?_,λq c j d=>?_,λq c=>?_⟩
 ·rcases EZ f with e|e
  ·exact h.len p e
  rw[e];exact Tc k x _ r s t
 ·rw[List.length_set]at c
  by_cases n:q=i
  ·subst n
   have f:(b.set q (Qk k x (b.getD q []))).getD q []=Qk k x (b.getD q []):=by rw[BF,JM l];rfl
   rw[f]
   by_cases e:j<k
   ·rw[JJ g _ (q*64) w (λj d=>by rw[m]at d;exact(h.there l j ω).1) j ω]
    unfold Qk;rw[BF,BN τ,GL e,AO ω];simp
   rw[ED g _ (q*64) w (yA g (q*64+j)) (λ_ _=>by rw[m];show q*64+j<q*64\/q*64+k<=q*64+j;omega),h.cell q c j d]
   unfold Qk;rw[BF (l:=x.take k++_),DW τ,FC];rw[show k+(j-(x.take k).length)=j by simp;omega,BF]
  have f:(b.set i (Qk k x (b.getD i []))).getD q []=b.getD q []:=by rw[BF,IV (λe=>n e.symm),BF]
  rw[f,ED g _ (i*64) w (yA g (q*64+j)) (λ_ _=>by rw[m];show q*64+j<i*64\/i*64+k<=q*64+j;omega)];exact h.cell q c j d
 rw[EO];exact h.froz q (by simpa using c)
set_option maxRecDepth 100000 in
theorem Wu(X g n c:Nat)(v:qD)(l:List (List Int))(m:Nat)(x:List Int)(k:Nat)(w:xV)(q:w.cell? (yA X 0)=some (yI (zY g 0) n c))(u:X≠g)(s:PR w g l)(T:l.length=n)(S:m<n)(M:n<=200)(N:n<=c)(G:x.length=64)(r:k<=64):Calls prog 257 #[zW X 0,.agg (Z (m:Int)::x.map (Value.int .u8)).toArray,Z (k:Int)] w λe w'=>e=yT (.tuple #[])/\PR w' g (l.set m (Qk k x (l.getD m [])))/\w.grownBy w' (some g):=by
 have C:X<w.heap.size:=by have:=DQ w _ q;simpa using this
 have I:=s.lt;go_enter func257,ntmps257;go_wp2_with fail;have h:=LS w (Z (m:Int)::x.map (Value.int .u8)).toArray 145;have f:=Oq w (.cells (Z (m:Int)::x.map (Value.int .u8)).toArray 145);obtain⟨b,d⟩:∃b,b=w.alloc (.cells (Z (m:Int)::x.map (Value.int .u8)).toArray 145):=⟨_,rfl⟩;rw[<-d]at h f⊢;clear d;have aH:=Y (s.I f);have p:=Y (AG ((f.cell (p:=(yA X 0)) C).E q) (h.cell 0 (Z (m:Int)) rfl));have d:=Y f
 have z:Hid (∀j v,((x.take k).map (Value.int .u8))[j]?=some v->b.drew.cell? (((yA w.heap.size 1):Addr).add j)=some v):=λj v hv=>by
  obtain⟨i,e⟩:=DI.1 hv;have t:j<k:=by simp at i;omega
  have y:((yA w.heap.size 1):Addr).add j=(yA w.heap.size (j+1)):=by unfold Addr.add;split<;>simp_all<;>omega
  rw[y];refine h.cell (j+1) v ?_;rw[<-hv];simp[GL t]
 have y:Hid (((x.take k).map (Value.int .u8)).length=Nat.min k k):=by show _=_;simp[KP];omega
 have H:((x.take k).map (Value.int .u8)).length=k:=τ
 have t:=Y (aH.j.there (k:=m) ω)
 have O:=λi=>sb (P:=prog) (t:=143) underlying143 (λ_=>κ) g (m*64) k ω r .i64 (k:Int) rfl i
 have R:=λi=>sb (P:=prog) (t:=143) underlying143 (λ_=>κ) w.heap.size 1 k ω r .i64 (k:Int) rfl i
 have J:(0:Int)<=(m:Int):=ω
 have L:(m:Int)<(n:Int):=ω
 have A:X≠g:=u;have B:w.heap.size≠g:=ω
 clear q s h f u
 go_region_held3 (λw'=>w'.cell? (yA X 0)=some (yI (zY g 0) n c)/\w'.cell? (yA w.heap.size 0)=some (Z (m:Int)))
  (first|assumption|exact p.j|exact⟨(ED _ _ _ _ _ (λe=>absurd e A)).E p.j.1,(ED _ _ _ _ _ (λe=>absurd e B)).E p.j.2⟩)
  (first|(refine Rj ρ _ _ _ _ ρ 5 underlying24 κ g (m*64) k 64 ρ (yA w.heap.size 1) k 64 ρ ((x.take k).map (Value.int .u8)) y.j z.j (λj i=>(t.j j ω).1) (λj i=>(t.j j ω).2) (VQ _) ?_))
 have h:=(aH.j.I ((AB _ b).drew)).part m ω k r x G
 have j:w.grownBy (b.drew.setCells g (m*64) ((x.take k).map (Value.int .u8))) (some g):=by
  have f:=zO g ((x.take k).map (Value.int .u8)) (m*64) b.drew;refine⟨f.1.E d.j.os,f.2.1.E d.j.tape,f.2.2.E d.j.output,by rw[SK];exact d.j.size,λi F D=>?_⟩;rw[jo g _ _ _ i (λe=>D (by rw[e]))];exact d.j.block i F
 have f:=Y h;have i:=Y j;clear h j;go_wp2;go_end0;exact⟨rfl,f.j,i.j⟩
theorem Sf(v:qD)(b:List qD)(z:Array qD)(i:z.size=b.length+1):List.foldl (λ(r:Array qD) (x:qD×Nat)=>r.setIfInBounds (1+x.snd) x.fst) (z.setIfInBounds 0 v) b.zipIdx=(v::b).toArray:=by
 obtain⟨f,d⟩:=Great.foldl_set 1 b 0 (z.setIfInBounds 0 v)
 apply Array.ext_getElem?
 intro k;have e:=d k;rw[e,Array.size_setIfInBounds]
 by_cases h:1<=k/\k<1+b.length
 ·rw[AI ⟨ω,ω,ω⟩]
  obtain⟨j,rfl⟩:∃j,k=j+1:=⟨k-1,ω⟩;simp
 rw[AF ω]
 by_cases c:k=0
 ·subst c
  simp[show 0<z.size by omega]
 rw[EG τ,EG τ]
theorem Se(v:qD)(b:List qD)(n:Nat)(l:b.length+1=n)(z:Array qD)(m:z.size=n)(f:z[0]?=some v):List.foldl (λ(r:Array qD) (x:qD×Nat)=>r.setIfInBounds x.snd x.fst) z (b.zipIdx 1)=(v::b).toArray:=by
 obtain⟨h,c⟩:=Great.foldl_set 0 b 1 z
 have e:(λ(r:Array qD) (x:qD×Nat)=>r.setIfInBounds (0+x.2) x.1)=λ(r:Array qD) (x:qD×Nat)=>r.setIfInBounds x.snd x.fst:=by funext r x;rw[BK]
 rw[e]at h c
 apply Array.ext_getElem?
 intro k;rw[c k]
 by_cases i:1<=k/\k<1+b.length
 ·rw[AI ⟨ω,ω,ω⟩]
  obtain⟨j,rfl⟩:∃j,k=j+1:=⟨k-1,ω⟩;simp
 rw[AF ω]
 by_cases d:k=0
 ·subst d;rw[f];simp
 rw[EG ω,EG τ]
theorem Py:Ra.size=65:=κ
theorem Sz:¬(Ra=#[]):=λh=>by have:=BC Array.size h;rw[Py]at this;cases this
set_option maxRecDepth 100000 in
theorem Xg(a:xA)(j:List (List Int))(c:Nat)(G:xA)(f:List (Int×List Int))(S:Nat)(w:xV)(h:Plt w a j)(h':Hld w G f)(hl:j.length<=200)(cF:f.length<=300)(bV:∀p∈j,p.length=64)(bG:∀p∈f,p.2.length=64):Calls prog 65 #[LM a j.length c G f.length S] w λe w'=>∃v s,e=yT (.agg #[v,s])/\w'.ownsRow w.heap.size 9 1 v j.length ((O4 j).map Value.string)/\w'.ownsRow w.heap.size 147 2 s f.length (MH (Qf f))/\(v.ownBlock=none\/s.ownBlock=none\/v.ownBlock≠s.ownBlock)/\yX w w':=by
 obtain⟨i0,b,d,i,l⟩:=O5 ut;have F:=Y (AG b (AG d (AG i l)));clear b d i l;obtain⟨i1,b,d,i,l⟩:=O5 yy;have I:=Y (AG b (AG d (AG i l)));clear b d i l;go_enter func65,ntmps65;go_wp2;go_loopw [5,11] (λ_ i wr=>∃(k:Nat) (v:qD),k<=j.length/\i=Z k/\Dsk w wr (w.heap.size+1) (w.heap.size+1+1) (w.heap.size+1+1+1) 9 147 v (yI none 0 0) (O4 (j.take k)) []/\wr.cell? (yA w.heap.size 1)=some (yI G f.length S)) (λ_ i _=>j.length-(intOf i).toNat)
 case atStart=>exact⟨0,_,AL _,rfl,Dsk.start3 _ _ _ _ _ _ _ _,γ⟩
 case round =>
  obtain⟨k,v,hk,rfl,d,n⟩:=hrel
  by_cases R:k<j.length
  ·obtain⟨b,o,x,rfl,bZ,u,A⟩:=(h.I d.bel).at R
   have B:x.length=64:=by rw[A.j];exact bV _ (by simp[List.getD,R])
   have l:(x.map (Value.int .u8)).length=64:=by simp[B]
   have aH:(O4 (j.take k)).length=k:=by simp[O4];omega
   have z:=Y aH;have m:=Y d;have p:=Y n;clear d n aH;have L:Hid ((prog.info? 143).map (·.size)=some (x.map (Value.int .u8)).length):=by rw[l];show _=_;kernel_rfl
   have O:=Y l.symm;clear l
   go_wp2_with (first|(with_reducible refine YO 143 _ rfl ?_;refine AZ rfl 143 _ rfl b (o+k*64) rfl (x.map (Value.int .u8)) _ u underlying143 rfl L.j ?_)|(with_reducible refine WJ 143 _ _ rfl ?_;refine Ox rfl 143 _ _ rfl (x.map (Value.int .u8)) (VQ x) rfl rfl _ _ (by rw[<-O.j];kernel_rfl) L.j ?_;intro l t q C))
   have r:=Y (m.j.I q);have U:=(m.j.I q).d0;have V:=(m.j.I q).fd0;have cA:w.heap.size+1+1<l.heap.size:=by have:=r.j.sz;omega
   have aN:w.heap.size+1+1+1<=l.heap.size:=r.j.sz;have bW:=t.drew.text (P:=prog) x 0 64 64 B (λi hi=>by simp[List.getD,show i<x.length by omega]) 24 5 9 underlying24 underlying5 underlying9;have T:Hid (l.cell? (yA w.heap.size 1)=some (yI G f.length S)):=(q.cell (p:=(yA w.heap.size 1)) (by have:=m.j.sz;show w.heap.size<wr.heap.size;omega)).E p.j;have J:=Y (r.j.drew.own.alloc (.cells #[yQ (strOfNums x)] 9));have y:=Y (r.j.drew.alloc (.cells #[yQ (strOfNums x)] 9));clear t q C m p u
   go_region_law (first|(refine step_append_lies _ ρ _ _ _ ρ (w.heap.size+1+1+1) 9 i0 (yQ empty) 1 16 underlying27 F.j.1 F.j.2.1 F.j.2.2.1 F.j.2.2.2 rfl ω v (O4 (j.take k)).length ((O4 (j.take k)).map Value.string) ρ J.j (yA l.heap.size 0) 1 1 [yQ (strOfNums x)] ρ rfl (World.news_of_block (AU l.drew _)) (by intro u D;simp at D;subst D;rfl) ω (by rw[z.j];unfold maxLen;omega) (by rw[z.j];omega) ξ (l.heap.size+1) σ ?_;intro g C w3 q m t bP;obtain⟨W,X⟩:=y.j.V m;have N:=Y q;have H:=Y m;have M:=Y t;clear q m t))
   all_goals
    have m:=y.j.push N.j H.j M.j σ;have p:=(y.j.far H.j w.heap.size 1 0 ω ω (yI (zY g 0) ((O4 (j.take k)).length+1) C)).E ((FD (w:=l.drew) _ w.heap.size 1 (by show w.heap.size<l.heap.size;omega)).E T.j);rw[A.j,<-Ul j k R]at m;have q:=Y m;have t:=Y p;clear m p;go_wp2;go_roundw
    case rel=>exact⟨k+1,_,ω,ν,q.j,t.j⟩
    case measure=>simp[intOf];omega
  have bY:Hid (j.take k=j):=AR ω
  rw[bY.j]at d;have b:w.heap.size<wr.heap.size:=by have:=d.sz;omega
  go_wp2;go_loopw [7,26] (λ_ i wr=>∃(k:Nat) (s:qD),k<=f.length/\i=Z k/\Dsk w wr (w.heap.size+1) (w.heap.size+1+1) (w.heap.size+1+1+1) 9 147 v s (O4 j) (Qf (f.take k))) (λ_ i _=>f.length-(intOf i).toNat)
  case atStart=>exact⟨0,_,AL _,rfl,d⟩
  case round =>
   clear d n b;obtain⟨p,s,cE,rfl,d⟩:=hrel
   by_cases L:p<f.length
   ·obtain⟨b,o,n,x,rfl,bZ,u,A⟩:=(h'.I d.bel).at L
    have B:x.length=64:=by
     have:=bG (n,x) (by rw[A.j];simp[List.getD,L]);exact this
    have l:(Z n::x.map (Value.int .u8)).length=65:=by simp[B]
    have aH:(Qf (f.take p)).length=p:=by simp[Qf];omega
    have z:=Y aH;have m:=Y d;clear d aH;have T:Hid ((prog.info? 145).map (·.size)=some (Z n::x.map (Value.int .u8)).length):=by rw[l];show _=_;kernel_rfl
    have O:=Y l.symm;clear l;have cI:=Qo
    go_wp2_with (first|(with_reducible refine YO 145 _ rfl ?_;refine AZ rfl 145 _ rfl b (o+p*65) rfl (Z n::x.map (Value.int .u8)) _ u underlying145 rfl T.j ?_)|(with_reducible refine WJ 145 _ _ rfl ?_;refine Ox rfl 145 _ _ rfl (Z n::x.map (Value.int .u8)) (Qg n x) rfl rfl _ _ (by rw[<-O.j];kernel_rfl) T.j ?_;intro l t q C))
    have r:=Y (m.j.I q);have U:=(m.j.I q).d1;have V:=(m.j.I q).fd1;have cA:w.heap.size+1+1<l.heap.size:=by have:=r.j.sz;omega
    have cH:wr.heap.size<l.heap.size:=ω
    have aN:w.heap.size+1+1+1<=l.heap.size:=r.j.sz;have cC:l.cell? (yA wr.heap.size 0)=some (Z n):=t.y 0;have bW:=t.drew.text (P:=prog) x 1 64 64 B (λi hi=>by rw[show 1+i=i+1 by omega];simp[List.getD,show i<x.length by omega]) 24 5 9 underlying24 underlying5 underlying9;have J:=Y (r.j.drew.own'.alloc (.cells #[Z n,yQ (strOfNums x)] 147));have y:=Y (r.j.drew.alloc (.cells #[Z n,yQ (strOfNums x)] 147));clear t q C m u
    go_region_law (first|(refine step_append_lies _ ρ _ _ _ ρ (w.heap.size+1+1+1) 147 i1 (.agg #[Z 0,yQ empty]) 2 24 underlying30 I.j.1 I.j.2.1 I.j.2.2.1 I.j.2.2.2 rfl ω s (Qf (f.take p)).length (MH (Qf (f.take p))) ρ J.j (yA l.heap.size 0) 1 1 [Z n,yQ (strOfNums x)] ρ rfl (World.news_of_block (AU l.drew _)) (by intro u D;simp at D;rcases D with rfl|rfl<;>rfl) ω (by rw[z.j];unfold maxLen;omega) (by rw[z.j];omega) ξ (l.heap.size+1) σ ?_;intro g C w3 q m t bP;obtain⟨W,X⟩:=y.j.grown2 m;have N:=Y q;have H:=Y m;have M:=Y t;clear q m t))
    all_goals
     have m:=y.j.push2 (x:=(n,strOfNums x)) N.j H.j M.j σ;rw[show(n,strOfNums x)=((f.getD p (0,[])).1,strOfNums (f.getD p (0,[])).2) by rw[<-A.j],<-Uh f p L]at m;have q:=Y m;clear m;go_wp2;go_roundw
     case rel=>exact⟨p+1,_,ω,ν,q.j⟩
     case measure=>simp[intOf];omega
   have x:Hid (f.take p=f):=AR ω
   rw[x.j]at d;have m:=Y d;have U:=d.d0;have V:=d.d1;have z:=d.r0;have A:=d.r1;have W:=d.fr0;have X:=d.fr1;have u:=d.own;have y:=d.own';obtain⟨b,t,r,rfl⟩:∃a n c,v=yI a n c:=by rcases MC d.own with ⟨e,_⟩|⟨g,c,e,_⟩<;>exact⟨_,_,_,e⟩
   obtain⟨i,q,l,rfl⟩:∃a n c,s=yI a n c:=by rcases MC d.own' with ⟨e,_⟩|⟨g,c,e,_⟩<;>exact⟨_,_,_,e⟩
   clear d u y;go_wp2;have aH:(O4 j).length=j.length:=by simp[O4]
   have y:(Qf f).length=f.length:=by simp[Qf]
   have d:=EC (EC m.j.own (a:=(yA (w.heap.size+1) 0)) (by show w.heap.size+1<_;omega) (yI b t r)) (a:=(yA (w.heap.size+1) 1)) (by show w.heap.size+1<_;omega) (yI i q l);have u:=EC (EC m.j.own' (a:=(yA (w.heap.size+1) 0)) (by show w.heap.size+1<_;omega) (yI b t r)) (a:=(yA (w.heap.size+1) 1)) (by show w.heap.size+1<_;omega) (yI i q l);rw[aH]at d;rw[y]at u;refine AE (v:=.agg #[yI b t r,yI i q l]) (by simp[results,results65,go_sem,z,A]) rfl ⟨_,_,rfl,d.J ω,u.J ω,m.j.apart,?_⟩;exact(m.j.bel.setCell (by show w.heap.size<=w.heap.size+1;omega) _).setCell (by show w.heap.size<=w.heap.size+1;omega) _
theorem Rl(a:xA)(i:List (List Int))(n c:Nat)(r:xA)(f:List (Int×List Int))(q t:Nat)(N:i.length=n)(D:f.length=q)(w:xV)(h:Plt w a i)(J:Hld w r f)(M:n<=200)(C:q<=300)(A:∀p∈i,p.length=64)(z:∀p∈f,p.2.length=64):Calls prog 65 #[LM a n c r q t] w λe w'=>∃b l d j,e=yT (LM b n l d q j)/\OwnD w' b (O4 i) d (Qf f)/\(∀g,blk b n=some g->w.heap.size<=g)/\(∀g,blk d q=some g->w.heap.size<=g)/\yX w w':=by
 subst N D;refine(Xg a i c r f t w h J M C A z).J ?_;rintro e w' ⟨v,y,rfl,S,T,B,L⟩;have u:(O4 i).length=i.length:=by simp[O4]
 have x:(Qf f).length=f.length:=by simp[Qf]
 have F:∃b l,v=yI b i.length l/\OwnS w' b ((O4 i).map Value.string)/\(∀g,blk b i.length=some g->w.heap.size<=g)/\(blk b i.length=none\/blk b i.length=v.ownBlock):=by
  rcases MC S with ⟨e,j⟩|⟨g,m,e,p,_,s⟩
  ·refine⟨none,0,by rw[j];exact e,.inl ?_,λg d=>?_,.inl ?_⟩
   ·rw[AD (u.E j)];rfl
   ·rw[j]at d;cases d
   rw[j];rfl
  refine⟨_,m,e,.inr ⟨g,rfl,s⟩,λH d=>?_,?_⟩
  ·unfold blk at d;split at d
   ·cases d
   cases d;exact p
  unfold blk;split
  ·exact .inl rfl
  right;rw[e];rfl
 have G:∃b l,y=yI b f.length l/\OwnS w' b (MH (Qf f))/\(∀g,blk b f.length=some g->w.heap.size<=g)/\(blk b f.length=none\/blk b f.length=y.ownBlock):=by
  rcases MC T with ⟨e,j⟩|⟨g,m,e,p,_,s⟩
  ·refine⟨none,0,by rw[j];exact e,.inl ?_,λg d=>?_,.inl ?_⟩
   ·rw[AD (x.E j)];rfl
   ·rw[j]at d;cases d
   rw[j];rfl
  refine⟨_,m,e,.inr ⟨g,rfl,s⟩,λH d=>?_,?_⟩
  ·unfold blk at d;split at d
   ·cases d
   cases d;exact p
  unfold blk;split
  ·exact .inl rfl
  right;rw[e];rfl
 obtain⟨b,l,p,H,I,d⟩:=F;obtain⟨j,m,s,O,R,k3⟩:=G;refine⟨b,l,j,m,by rw[p,s],⟨H,O,?_⟩,I,R,L⟩;rw[u,x];rcases d with d|d
 ·exact .inl d
 rcases k3 with k3|k3
 ·exact .inr (.inl k3)
 rw[d,k3];exact B
theorem Pj{i:Func}{p u:Tmp}{f:TypeId}(h:i.results=#[.cell p f,.tmp u])(c:Array qD)(w:xV)(b o:Nat)(q:c.getD p undef=zW b o)
  (e:List qD)(d:TypeDesc)(j:w.rangeAt b o e)(r:P.underlying f=some d)(l:d.isRow=true)(m:(P.info? f).map (·.size)=some e.length):(results i c).run P w=.ok (.tuple #[.agg e.toArray,c.getD u undef]) w:=by
 have n:=JE (P:=P) w b o f e d j r l m;rw[results_cell_tmp h];simp[q,asAddr,n,Result.andThen]
set_option maxRecDepth 100000 in
theorem Vh(g n c m:Nat)(b:List (List Int))(w:xV)(i:PR w g b)(r:b.length=n)(aH:n<=200)(s:m<n):Calls prog 321 #[yI (zY g 0) n c,Z (m:Int)] w λe w'=>e=yT (.tuple #[.agg ((b.getD m []).map (Value.int .u8)).toArray,yR true])/\yX w w':=by
 have e:∀o,(w.alloc o).rangeAt g (m*64) ((b.getD m []).map (Value.int .u8)):=λo=>(i.I (Oq w o)).range (k:=m) ω
 have d:=Pw i.len (k:=m) ω;obtain⟨x,j⟩:∃x,Hid (x=b.getD m []):=⟨_,Y rfl⟩;rw[<-j.j]at e d⊢;have h:(x.map (Value.int .u8)).toArray.size=64:=by simp[d]
 have f:Hid ((prog.info? 143).map (·.size)=some (x.map (Value.int .u8)).length):=by show _=_;rw[BO,d];kernel_rfl
 have l:=Y e;have p:¬((m:Int)<0):=ω
 have q:¬(n<=m):=ω
 clear e;go_enter func321,ntmps321
 go_wp2_with (first|(with_reducible refine YO 143 _ rfl ?_;refine AZ rfl 143 _ rfl g (m*64) rfl (x.map (Value.int .u8)) _ (by exact l.j _) underlying143 rfl f.j ?_)|(with_reducible refine WJ 143 _ _ rfl ?_;refine BU rfl 143 _ _ rfl w.heap.size 0 (x.map (Value.int .u8)).toArray rfl rfl (by rw[h];exact(LS w _ _).there κ) (by rw[h];kernel_rfl) (GH (VQ x)) ?_))
 refine AE (v:=.tuple #[.agg (x.map (Value.int .u8)).toArray,yR true]) (Pj (p:=4) (u:=5) results321 _ _ w.heap.size 0 rfl (x.map (Value.int .u8)) _ (EE _ _ _ _ (by rw[BO,d];exact(LS w _ _).there κ)) underlying143 rfl f.j) rfl ⟨rfl,?_⟩;exact Go.below_setCells (AA _) _ _ _ (Oq _ _)
set_option maxRecDepth 100000 in
theorem vC(a b:xA)(n c f d:Nat)(w:xV):Calls prog 217 #[.agg #[yI a n c,yI b f d]] w λe w'=>e=yT (.iface 301 (.agg #[yI b f d,.iface 107 (yI a n c)]))/\yX w w':=by
 go_enter func217,ntmps217;go_wp2;go_ret;exact⟨rfl,Oq _ _⟩
theorem Yb(n:Nat)(w:xV)(M:8<=n)(A:n<=200):Calls prog 37 #[Z (n:Int)] w λe w'=>∃g c b d,e=yT (LM (zY g 0) n c b 0 d)/\w.heap.size<=g/\Row w' g ((List.replicate n Pm).map Value.string)/\yX w w':=by
 have aH:(8:Int)<=(n:Int):=ω
 have y:(n:Int)<=200:=ω
 have B:decide (8<=(n:Int)/\(n:Int)<=200)=true:=AM ⟨aH,y⟩;go_enter func37,ntmps37
 go_wp2_with (first|(go_at_call 35;refine(br _ _).J ?_;rw[B];rintro e w' ⟨rfl,rfl⟩)|(at_make;refine py rfl _ _ 107 rfl 143 _ 64 64 underlying107 Ty n rfl rfl ω ω ?_;intro u d i I;rw[Sj]at d))
 have f:Below (w.alloc (.cells #[yI none 0 0,yI none 0 0] 32)).heap.size (w.alloc (.cells #[yI none 0 0,yI none 0 0] 32)) u:=by first|exact i|simpa using i
 simp only[BE]at d;have c:=(Vg d).I ((AB _ _).alloc (AA _) (.cells #[yI (zY (w.heap.size+1) 0) n n,yI none 0 0] 110));refine(Rl (zY (w.heap.size+1) 0) (List.replicate n (List.replicate 64 0)) n n none [] 0 0 σ rfl _ c (.inl rfl) A ω (λp c=>by rw[List.eq_of_mem_replicate c];simp) (λp c=>by simp at c)).J ?_;rintro e h ⟨F,r,l,s,rfl,t,q,z,p⟩;have b:=f.E (((AB _ _).alloc (AA _) _).E (p.J σ) |>.J f.size);have H:w.heap.size+1<=u.heap.size:=by have:=f.size;simpa using this
 obtain⟨g,rfl,j⟩:=t.s.resolve_left (ir (by simp[O4];omega));have G:w.heap.size+1<=g:=by have:=q g (ML g 0 n ω);simp at this;omega
 have m:O4 (List.replicate n (List.replicate 64 0))=List.replicate n Pm:=by simp[O4,Pm]
 rw[m]at j;have C:h.cell? (yA w.heap.size 0)=some (yI none 0 0):=(b.cell (p:=(yA w.heap.size 0)) σ).E γ;have D:h.cell? (yA w.heap.size 1)=some (yI none 0 0):=(b.cell (p:=(yA w.heap.size 1)) σ).E γ;have J:h.frozen? (yA w.heap.size 0)=false:=(b.frozen (p:=(yA w.heap.size 0)) σ).E γ;have L:h.frozen? (yA w.heap.size 1)=false:=(b.frozen (p:=(yA w.heap.size 1)) σ).E γ;have x:=Y j;have v:=Y (((AB w.heap.size w).alloc (AA _) (.cells #[yI none 0 0,yI none 0 0] 32)).E (b.J σ));clear b p t q z c d f i j m;go_wp2;refine AE (v:=LM (zY g 0) n r l 0 s) (by simp[results,results37,go_sem,C,D]) rfl ⟨g,r,l,s,rfl,ω,?_,?_⟩
 ·exact(x.j.other _ (by show w.heap.size≠g;omega) _).other _ (by show w.heap.size≠g;omega) _
 exact(v.j.setCell (AA _) _).setCell (AA _) _
end
end Go.Proofs.YtkdedmclofhndaaGreatDoor
namespace Go.Proofs.YtkdedmclofhndaaGreatDoor.nw
open _root_.ByteArray(empty)
open _root_.Go.Proofs.Tryz
open Go.RowKit
theorem new_i_no(n:Int)(w:xV)(h:¬(8<=n/\n<=200)):Calls prog 37 #[Z n] w λe a=>e=yT (LM none 0 0 none 0 0)/\yX w a:=by
 have b:decide (8<=n/\n<=200)=false:=AH h;go_enter func37,ntmps37;go_wp2_with (go_at_call 35;refine(br _ _).J ?_;rw[b];rintro e a ⟨rfl,rfl⟩);exact AE (v:=LM none 0 0 none 0 0) (by simp[results,results37,go_sem]) rfl ⟨rfl,Oq _ _⟩
theorem new_i_any(n:Int)(w:xV):Calls prog 37 #[Z n] w λe b=>∃a c d f,e=yT (LM a (newSS n).length c d 0 f)/\OwnS b a ((newSS n).map Value.string)/\(∀g,blk a (newSS n).length=some g->w.heap.size<=g)/\yX w b:=by
 by_cases h:8<=n/\n<=200
 ·obtain⟨m,rfl⟩:∃m:Nat,n=(m:Int):=⟨n.toNat,ω⟩
  have i:newSS (m:Int)=List.replicate m Pm:=by simp[newSS,h]
  rw[i];refine(Yb m w ω ω).J ?_;rintro e b ⟨g,c,d,f,rfl,l,o,j⟩
  exact⟨_,c,d,f,by rw[DU],.inr ⟨g,rfl,o⟩,λk a=>by rw[DU,ML g 0 m ω]at a;cases a;exact l,j⟩
 have i:newSS n=[]:=by simp[newSS,h]
 rw[i];refine(new_i_no n w h).J ?_;rintro e b ⟨rfl,j⟩;exact⟨none,0,none,0,rfl,.inl rfl,(λk a=>by cases a),j⟩
abbrev nwOk(n wd:Int):Prop:=(8<=n/\n<=200)/\1<=wd/\wd<=8
def nwS(n a:Int):List yZ:=if nwOk n a then newSS n else []
def nwM(n a:Int):Nat:=if nwOk n a then 1 else 0
def nwW(n a:Int):Int:=if nwOk n a then a else 0
theorem nw_s_no(n f:Int)(w:xV)(h:¬nwOk n f):Calls prog 9 #[Z n,Z f] w λe a=>NwPost w a e 0 [] 0:=by
 have D:∀a,yX w a->NwPost w a (yT (worldV 0 none 0 0 none 0 none 0 0)) 0 [] 0:=λa c=>⟨none,0,none,0,none,0,rfl,.inl rfl,.inl rfl,λg b=>(by cases b),λg b=>(by cases b),c⟩
 by_cases C:8<=n/\n<=200
 ·have X:decide (1<=f/\f<=8)=false:=AH (λx=>h ⟨C,x⟩)
  obtain⟨m,d⟩:∃m:Nat,(newSS n).length=m:=⟨_,rfl⟩;have hm:m≠0:=by rw[<-d];unfold newSS;rw[AI C];simp;omega
  have bV:¬(m:Int)=0:=ω
  go_enter func9,ntmps9
  go_wp2_with (first|(go_at_call 23;refine(new_s_any n _).J ?_;rintro e w1 ⟨a,c,F,c',rfl,_,_,b⟩;rw[d];have A:=Y (((AB w.heap.size w).alloc (AA _) _).E (b.J σ));have R:=(LS w _ _).I b;obtain⟨p,q,r,s,t,u,v,x,y,z,g,i,j,k,l,o,B⟩:=c16 R;obtain⟨M,N,O,P,Q,S,T,U,V,W,G,H,I,J,K,L⟩:=f16 R;clear R;clear b)|(go_at_call 24;refine(QH _ _).J ?_;rw[X];rintro e wz ⟨rfl,E⟩;rw[E];clear E wz))
  refine AE (v:=worldV 0 none 0 0 none 0 none 0 0) (by simp[results,results9,go_sem,worldV,B,p,q,r,s,t,u,v,x,y,z,g,i,j,k,l,o]) rfl (D _ ?_);refine Below.alloc ?_ τ _
  iterate 16(refine GR ?_ (by show w.heap.size<=w.heap.size;omega) _)
  exact A.j
 have d:(newSS n).length=0:=by unfold newSS;rw[AF C];rfl
 go_enter func9,ntmps9
 go_wp2_with (first|(go_at_call 23;refine(new_s_any n _).J ?_;rintro e w1 ⟨a,c,F,c',rfl,_,_,b⟩;rw[d];have A:=Y (((AB w.heap.size w).alloc (AA _) _).E (b.J σ));have R:=(LS w _ _).I b;obtain⟨p,q,r,s,t,u,v,x,y,z,g,i,j,k,l,o,B⟩:=c16 R;obtain⟨M,N,O,P,Q,S,T,U,V,W,G,H,I,J,K,L⟩:=f16 R;clear R;clear b))
 refine AE (v:=worldV 0 none 0 0 none 0 none 0 0) (by simp[results,results9,go_sem,worldV,B,p,q,r,s,t,u,v,x,y,z,g,i,j,k,l,o]) rfl (D _ ?_);refine Below.alloc ?_ τ _
 iterate 16(refine GR ?_ (by show w.heap.size<=w.heap.size;omega) _)
 exact A.j
theorem nw_i_no(n c:Int)(w:xV)(h:¬nwOk n c):Calls prog 12 #[Z n,Z c] w λe a=>NwPost w a e 0 [] 0:=by
 have i:∀a,yX w a->NwPost w a (yT (worldV 0 none 0 0 none 0 none 0 0)) 0 [] 0:=λa d=>⟨none,0,none,0,none,0,rfl,.inl rfl,.inl rfl,λg b=>(by cases b),λg b=>(by cases b),d⟩
 by_cases f:8<=n/\n<=200
 ·have d:decide (8<=n/\n<=200)=true:=AM f
  have g:decide (1<=c/\c<=8)=false:=AH (λx=>h ⟨f,x⟩);go_enter func12,ntmps12
  go_wp2_with (first|(go_at_call 35;refine(br _ _).J ?_;rw[d];rintro e b ⟨rfl,a⟩;rw[a];clear a b)|(go_at_call 36;refine(RH _ _).J ?_;rw[g];rintro e b ⟨rfl,a⟩;rw[a];clear a b))
  refine AE (v:=worldV 0 none 0 0 none 0 none 0 0) (by simp[results,results12,go_sem,worldV]) rfl (i _ ?_);exact(AB _ _).alloc (AA _) _
 have d:decide (8<=n/\n<=200)=false:=AH f
 go_enter func12,ntmps12
 go_wp2_with (first|(go_at_call 35;refine(br _ _).J ?_;rw[d];rintro e b ⟨rfl,a⟩;rw[a];clear a b))
 refine AE (v:=worldV 0 none 0 0 none 0 none 0 0) (by simp[results,results12,go_sem,worldV]) rfl (i _ ?_);exact(AB _ _).alloc (AA _) _
end Go.Proofs.YtkdedmclofhndaaGreatDoor.nw
namespace Go.Proofs.YtkdedmclofhndaaGreatDoor.nw
open _root_.ByteArray(empty)
open _root_.Go.Proofs.Tryz
open Go.RowKit
theorem nw_i_yes(n d:Int)(w:xV)(r:8<=n/\n<=200)(P:1<=d/\d<=8):Calls prog 12 #[Z n,Z d] w λe a=>NwPost w a e d (newSS n) 1:=by
 have N:decide (1<=d/\d<=8)=true:=AM P;have Q:decide (8<=n/\n<=200)=true:=AM r;obtain⟨m,i⟩:∃m:Nat,(newSS n).length=m:=⟨_,rfl⟩;have S:m≠0:=by rw[<-i];unfold newSS;rw[AI r];simp;omega
 have cF:¬(m:Int)=0:=ω
 have f:=Y i;go_enter func12,ntmps12
 go_wp2_with (first|(go_at_call 35;refine(br _ _).J ?_;rw[Q];rintro e j ⟨rfl,b⟩;rw[b];clear b j)|(go_at_call 36;refine(RH _ _).J ?_;rw[N];rintro e j ⟨rfl,b⟩;rw[b];clear b j)|(go_at_call 37;refine(new_i_any n _).J ?_;rintro e s ⟨a,c,l,q,rfl,k,h,g⟩;rw[i]at h⊢;have p:=Y k;have o:=Y h;have K:=Y (((AB w.heap.size w).alloc (AA _) _).E (g.J σ));have R:=(LS w _ _).I g;obtain⟨A,B,C,D,E,F,G,H,I,J,t,u,v,x,y,z,L⟩:=c16 R;obtain⟨bH,bI,bJ,bP,bQ,bR,bT,bU,bV,bW,T,U,V,W,X,bB⟩:=f16 R;clear R;clear g k h))
 have M:=p.j.lt m (λb=>ir (by rw[f.j];exact b))
 have j:∀g,a=zY g 0->(newSS n).map Value.string≠[]->w.heap.size<g:=λg b h=>by
  have:=o.j g (by subst b;exact ML _ _ _ S);simp at this;omega
 refine AE (v:=worldV d a m c l q (zY s.heap.size 0) 1 1) (by simp[results,results12,go_sem,worldV,L,A,B,C,D,E,F,G,H,I,J,t,u,v,x,y,z]) rfl ⟨a,c,l,q,_,1,by rw[f.j],?_,?_,?_,?_,?_⟩
 ·refine OwnS.I ?_ ((AB _ _).alloc (AA _) _)
  iterate 16(refine OwnS.setw ?_ _ (λg b h=>by have:=j g b h;show w.heap.size≠g;omega) _)
  exact p.j
 ·exact .inr ⟨s.heap.size,rfl,row_atw σ⟩
 ·intro g b
  rw[f.j]at b;have O:=o.j g b;have R:=M g b;simp at O
  exact⟨ω,λk h=>by rw[ML _ _ _ ω]at h;cases h;omega⟩
 ·intro g b
  rw[ML _ _ _ ω]at b;cases b;omega
 refine Below.alloc ?_ τ _
 iterate 16(refine GR ?_ (by show w.heap.size<=w.heap.size;omega) _)
 exact K.j
theorem nw_s(n a:Int)(w:xV):Calls prog 9 #[Z n,Z a] w λe b=>NwPost w b e (nwW n a) (nwS n a) (nwM n a):=by
 by_cases h:nwOk n a
 ·unfold nwW nwS nwM;rw[AI h,AI h,AI h];exact nw_s_yes n a w h.1 h.2
 unfold nwW nwS nwM;rw[AF h,AF h,AF h];exact nw_s_no n a w h
theorem nw_i(n a:Int)(w:xV):Calls prog 12 #[Z n,Z a] w λe b=>NwPost w b e (nwW n a) (nwS n a) (nwM n a):=by
 by_cases h:nwOk n a
 ·unfold nwW nwS nwM;rw[AI h,AI h,AI h];exact nw_i_yes n a w h.1 h.2
 unfold nwW nwS nwM;rw[AF h,AF h,AF h];exact nw_i_no n a w h
end Go.Proofs.YtkdedmclofhndaaGreatDoor.nw
