import Derived.Deep.MidRow
import Derived.Lib.LazyBuf
import Derived.Test.YteflhojcomcfaaaGreatDoorPrG37
import Derived.Test.YteflhojcomcfaaaGreatDoorPrG38
import Derived.Laws.IdiomStrings
set_option maxHeartbeats 16000000
set_option maxRecDepth 8000
set_option linter.all false
namespace Go.Proofs.YteflhojcomcfaaaGreatDoor
open _root_.ByteArray(empty)
open Tryz
open Go.RowKit
variable {a:Act}{aB:Array Oper}{Q:Exit->Act->Q9->Prop}{fn:Func}{xs ys:List Int}{aA:List Oper}{cs:List Ra}{F N g n o:Nat}{op:Oper}{P:Program}{w w':Q9}
section
def RF(xs:List Int)(o:Nat)(ys:List Int):List Int:=xs.take o++ys++xs.drop (o+ys.length)
theorem qk(xs:List Int)(o:Nat)(ys:List Int)(h:o+ys.length<=xs.length):(RF xs o ys).length=xs.length:=by
 simp[RF];omega
theorem O8(xs:List Int)(o:Nat)(ys:List Int)(h:o+ys.length<=xs.length)(i:Nat)(b:i<ys.length):(RF xs o ys).getD (o+i) 0=ys.getD i 0:=by
 have c:(xs.take o).length=o:=q
 unfold RF;rw[AY,BY,DY d,c,show o+i-o=i by omega,BO b,AY]
theorem P8(xs:List Int)(o:Nat)(ys:List Int)(h:o+ys.length<=xs.length)(i:Nat)(b:i<o\/o+ys.length<=i):(RF xs o ys).getD i 0=xs.getD i 0:=by
 have c:(xs.take o).length=o:=q
 unfold RF;rcases b with b|b
 .rw[AY,BY,BO d,GM b,AY]
 rw[AY,DY q,AK,c,FE,show o+ys.length+(i-(o+ys.length))=i by omega,AY]
structure Fm(w:Q9)(F:Nat)(xs:List Int):Prop where
 cell:∀i,i<xs.length->w.cell? (Ki F i)=some (.int .u8 (xs.getD i 0))
 froz:∀i,i<xs.length->w.frozen? (Ki F i)=false
theorem Fm.drew(h:Fm w F xs):Fm w.drew F xs:=⟨h.cell,h.froz⟩
theorem Fm.wrote(h:Fm w F xs)(c:Wrote w w' F o ys)(b:o+ys.length<=xs.length):Fm w' F (RF xs o ys):=by
 have aB:=qk xs o ys b;refine⟨λi d=>?_,λi d=>(c.frozen _).E (h.froz i ω)⟩
 by_cases aA:o<=i/\i<o+ys.length
 .have:=c.inside (i-o) ω
  rw[show o+(i-o)=i by omega]at this;rw[this];have e:=O8 xs o ys b (i-o) ω;rw[show o+(i-o)=i by omega]at e;rw[e]
 rw[c.outside i ω,h.cell i ω,P8 xs o ys b i ω]
theorem Fm.I(h:Fm w F xs)(c:Q3 w w')(hF:F<w.heap.size):Fm w' F xs :=⟨λi b=>(c.cell (p:=(Ki F i)) hF).E (h.cell i b),λi b=>(c.frozen (p:=(Ki F i)) hF).E (h.froz i b)⟩
theorem UV(b:Nat):∀(vs:List Ra) (o:Nat) (w:Q9),(w.setCells b o vs).heap.size=w.heap.size
 | [],_,_=>rfl
 | v::r,o,w=>by rw[World.setCells,UV b r];simp[World.setCell]
theorem qo(b:Nat):∀(vs:List Ra) (o:Nat) (w:Q9) (k:Nat),k≠b->(w.setCells b o vs).heap[k]?=w.heap[k]?
 | [],_,_,_,_=>rfl
 | v::r,o,w,k,h=>by rw[World.setCells,qo b r _ _ _ h,BM _ _ _ _ h]
theorem ed(b:Nat):∀(vs:List Ra) (o:Nat) (w:Q9),(w.setCells b o vs).os=w.os/\(w.setCells b o vs).tape=w.tape/\(w.setCells b o vs).output=w.output
 | [],_,_=>⟨rfl,rfl,rfl⟩
 | v::r,o,w=>by rw[World.setCells];exact ed b r (o+1) _
theorem xK(w:Q9)(b o:Nat)(t:Q4)(m:∀c,c<t.size->(w.cell? (Ki b (o+c))).isSome=true):Wrote w (w.setCells b o (t.data.toList.map λx=>Value.int .u8 (x.toNat:Int))) b o (LF t):=by
 have d:(t.data.toList.map λx=>Value.int .u8 (x.toNat:Int)).length=t.size:=j
 obtain⟨f,h,l⟩:=ed b (t.data.toList.map λx=>Value.int .u8 (x.toNat:Int)) o w;refine⟨f,h,l,UV _ _ _ _,λk q=>qo _ _ _ _ _ q,λi c=>?_,λx e=>?_,λa=>ET _ _ _ _ _⟩
 .rw[NK]at c
  rw[JJ b _ o w (by rw[d];exact m) i (by rw[d];exact c)];have p:i<t.data.toList.length:=by simpa using c
  simp[LF,List.getD,AO p]
 rw[NK]at e
 exact EE b _ o w (Ki b x) (λ_ _=>by rw[d];simpa using e)
theorem Fm.text(h:Fm w F xs)(aB e aA:TypeId)(j:P.underlying aB=some (.slice e))(d:P.underlying e=some (.int .u8))(c:P.underlying aA=some .string)(o n b:Nat)(k:o+n<=xs.length):(convert aB aA (Y (Hw F o) n b)).run P w=.ok (Ow (strOfNums ((xs.drop o).take n))) w :=EO (P:=P) w aB e j d F o n b ((xs.drop o).take n) τ (λi f=>by
  rw[h.cell (o+i) ω]
  simp[List.getD,GM f,FE]) aA c
theorem Fm.step(h:Fm w F xs)(c:xs.length=64)(b:Wrote w w' F o ys)(d:o+ys.length<=64):∃aA,Hid (aA=RF xs o ys)/\aA.length=64/\Fm w' F aA :=⟨RF xs o ys,(rfl:RF xs o ys=RF xs o ys),by rw[qk _ _ _ ω,c],h.wrote b ω⟩
theorem Fm.range(h:Fm w F xs):w.rangeAt F 0 (xs.map (Value.int .u8)):=λj v hv=>by
 obtain⟨b,e⟩:=DJ.1 hv;simp at b;rw[BK,h.cell j b];simp at e;subst e;simp[List.getD,AO b]
structure PI(W w:Q9)(c0 c1 c2 c3:Ra):Prop where
 size:W.heap.size+3<=w.heap.size
 bel:Q3 W w
 b0:w.cell? (Ki W.heap.size 0)=some c0
 b1:w.cell? (Ki W.heap.size 1)=some c1
 b2:w.cell? (Ki W.heap.size 2)=some c2
 b3:w.cell? (Ki W.heap.size 3)=some c3
 there:w.there (W.heap.size+1) 0 64
section
variable {W w w':Q9} {c0 c1 c2 c3:Ra}
theorem PI.drew(h:PI W w c0 c1 c2 c3):PI W w.drew c0 c1 c2 c3:=⟨h.size,h.bel.drew,h.b0,h.b1,h.b2,h.b3,h.there⟩
theorem PI.I(h:PI W w c0 c1 c2 c3)(b:Q3 w w'):PI W w' c0 c1 c2 c3 :=have d:=h.size
 ⟨AJ d b.size,h.bel.E (b.J ω),(b.cell (p:=⟨_,0,none⟩) (by show W.heap.size<_;omega)).E h.b0,(b.cell (p:=⟨_,1,none⟩) (by show W.heap.size<_;omega)).E h.b1,
  (b.cell (p:=⟨_,2,none⟩) (by show W.heap.size<_;omega)).E h.b2,(b.cell (p:=⟨_,3,none⟩) (by show W.heap.size<_;omega)).E h.b3,
  λj c=>by rw[b.cell (p:=⟨_,_,none⟩) (by show W.heap.size+1<_;omega),b.frozen (p:=⟨_,_,none⟩) (by show W.heap.size+1<_;omega)];exact h.there j c⟩
theorem PI.wrote(h:PI W w c0 c1 c2 c3)(e:Wrote w w' (W.heap.size+1+1) o ys):PI W w' c0 c1 c2 c3 :=have d:=h.size;have b:Below (W.heap.size+1+1) w w':=e.I AA
 ⟨AJ d b.size,h.bel.E (b.J ω),(b.cell (p:=⟨_,0,none⟩) (by show W.heap.size<_;omega)).E h.b0,(b.cell (p:=⟨_,1,none⟩) (by show W.heap.size<_;omega)).E h.b1,
  (b.cell (p:=⟨_,2,none⟩) (by show W.heap.size<_;omega)).E h.b2,(b.cell (p:=⟨_,3,none⟩) (by show W.heap.size<_;omega)).E h.b3,
  λj c=>by rw[b.cell (p:=⟨_,_,none⟩) (by show W.heap.size+1<_;omega),b.frozen (p:=⟨_,_,none⟩) (by show W.heap.size+1<_;omega)];exact h.there j c⟩
theorem PI.toS(h:PI W w c0 c1 c2 c3):w.cell? (Ki W.heap.size 0)=some c0/\w.cell? (Ki W.heap.size 1)=some c1/\w.cell? (Ki W.heap.size 2)=some c2/\w.cell? (Ki W.heap.size 3)=some c3/\PI W w c0 c1 c2 c3:=⟨h.b0,h.b1,h.b2,h.b3,h⟩
theorem PI.ofS(h:w.cell? (Ki W.heap.size 0)=some c0/\w.cell? (Ki W.heap.size 1)=some c1/\w.cell? (Ki W.heap.size 2)=some c2/\w.cell? (Ki W.heap.size 3)=some c3/\PI W w c0 c1 c2 c3):PI W w c0 c1 c2 c3:=h.2.2.2.2
end
theorem de(w:Q9)(b o:Nat)(h:w.heap.size<=b):w.frozen? (Ki b o)=false:=by
 have e:w.heap[b]?=none:=by simp[h]
 simp[World.frozen?,e]
theorem Lz{c:Code}(w:Q9)(e f k l:Ra)(p r s:TypeId)(A B:Array Ra)(t:A=Array.replicate 64 (.int .u8 0))(u:B=Array.replicate 64 (.int .u8 0))
  (h:∀b,PI w b e f k l->Fm b (w.heap.size+1+1) (List.replicate 64 0)->c.wp P Q a b):c.wp P Q a (((w.alloc (.cells #[e,f,k,l] p)).alloc (.cells A r)).alloc (.cells B s)):=by
 subst t u
 have aA:∀(i:Nat) {v:Ra},#[e,f,k,l][i]?=some v->(((w.alloc (.cells #[e,f,k,l] p)).alloc (.cells (Array.replicate 64 (.int .u8 0)) r)).alloc (.cells (Array.replicate 64 (.int .u8 0)) s)).cell? (Ki w.heap.size i)=some v:=λi v hv=>by
  rw[ES _ _ _ q,ES _ _ _ j,EI _ _ _ _ z];exact hv
 refine h _ ⟨j,((LH _ _).alloc j _).alloc q _,aA _ z,aA _ z,aA _ z,aA _ z,λb x=>?_⟩ ⟨λi m=>?_,λi m=>?_⟩
 .rw[BK,ES _ _ _ j,EI _ _ _ _ j,DU,DU,DU]
  simp[x,de]
 .rw[EI _ _ _ _ j]
  have aB:i<64:=by simpa only[DX] using m
  rw[Array.getElem?_replicate,G aB,AY,EP,G aB];rfl
 rw[DU,DU,DU]
 exact de _ _ _ d
theorem Bo{p:Tmp}{e:TypeId}(h:fn.results=#[.cell p e])(c:Array Ra)(w:Q9)(b o:Nat)(f:c.getD p undef=Dr b o)
  (cs:List Ra)(d:TypeDesc)(i:w.rangeAt b o cs)(m:P.underlying e=some d)(j:d.isRow=true)(k:(P.info? e).map (·.size)=some cs.length):(results fn c).run P w=.ok (.agg cs.toArray) w:=by
 have l:=JE (P:=P) w b o e cs d i m j k;simp only[results,h];rw[Array.getD_eq_getD_getElem?]at f;simp[f,asAddr,l]
theorem YV(xs:List Int):∀v∈xs.map (Value.int .u8),v.oneCell'=true:=λv hv=>by
 obtain⟨x,_,rfl⟩:=DW.1 hv;rfl
theorem Mf(xs ys:List Int)(n:Nat)(b:ys.length=n):(RF xs 0 ys).drop n=xs.drop n:=by
 unfold RF;rw[FZ,EL,BK,<-b,List.drop_left]
theorem Fm.isSome(h:Fm w F xs)(o m:Nat)(c:o+m<=xs.length):∀j,j<m->(w.cell? (Ki F (o+j))).isSome=true:=λj b=>by
 rw[h.cell (o+j) ω];rfl
theorem Fm.frozen(h:Fm w F xs)(o m:Nat)(c:o+m<=xs.length):∀j,j<m->w.frozen? (Ki F (o+j))=false:=λj b=>h.froz (o+j) ω
theorem Fm.copied(h:Fm w F xs)(o:Nat)(t:Q4)(b:o+t.size<=xs.length):Wrote w (w.setCells F o (t.data.toList.map λx=>Value.int .u8 (x.toNat:Int))) F o (LF t) :=xK w F o t (h.isSome o t.size b)
theorem qj(A ys:List Int)(j o:Nat)(b:A.length=o):RF (A++List.replicate j 0) o ys=A++ys++List.replicate (j-ys.length) 0:=by
 unfold RF;rw[JW d,AS d,<-b,List.drop_length_add_append,List.drop_replicate]
theorem Cp(k l m:Int)(p:Q4)(n:Nat)(h:n<=64){aA aB b c d e:List Int}(u:aA=List.replicate 64 0)(f:aB=RF aA n (be 1 k))(i:b=RF aB (n+1) (be 2 l))(q:c=RF b (n+3) (be 4 m))
  (r:d=RF c (n+7) (be 1 (p.size:Int)))(s:e=RF d (n+8) (LF p)):e=List.replicate n 0++ZC k l m p n:=by
 have t:aA=List.replicate n 0++List.replicate (64-n) 0:=by rw[u,List.replicate_append_replicate];congr 1;omega
 rw[t,qj _ _ _ n j]at f;rw[f,qj _ _ _ (n+1) (by simp[QN])]at i;rw[i,qj _ _ _ (n+3) (by simp[QN])]at q;rw[q,qj _ _ _ (n+7) (by simp[QN])]at r;rw[r]at s;rw[s,qj _ _ _ (n+8) (by simp[QN])];unfold ZC ac;simp only[BY,QN,NK]
 congr 7
 omega
theorem rM(a b:Q4):LF (a++b)=LF a++LF b:=by simp[LF]
theorem Gf(xs:List Int)(h:∀x∈xs,0<=x/\x<256):LF (strOfNums xs)=xs:=by
 unfold LF;rw[strOfNums_data,IP]
 conv=>rhs;rw[<-List.map_id xs]
 apply IJ
 intro x b;have:=h x b;simp only[Function.comp,id];rw[UInt8.toNat_ofNat'];omega
theorem sq(n:Nat)(v:Int):∀x∈be n v,0<=x/\x<256:=λx b=>by
 unfold be at b;obtain⟨i,_,rfl⟩:=DW.1 b;omega
theorem Il(p:Q4):∀x∈LF p,0<=x/\x<256:=λx b=>by
 unfold LF at b;obtain⟨c,_,rfl⟩:=DW.1 b;have:=c.toNat_lt;omega
theorem Ep(k l m:Int)(p:Q4)(n:Nat):∀x∈ZC k l m p n,0<=x/\x<256:=λx b=>by
 unfold ZC ac at b;simp only[BZ,List.mem_replicate]at b;rcases b with ((((h|h)|h)|h)|h)|h
 .exact sq _ _ x h
 .exact sq _ _ x h
 .exact sq _ _ x h
 .exact sq _ _ x h
 .exact Il _ x h
 omega
theorem Fb(k l m:Int)(p:Q4)(n:Nat)(h:p.size+n<=56){aA:List Int}{b:Q4}{M:Nat}(i:M=64-n)(e:aA=List.replicate n 0++ZC k l m p n)(f:b=strOfNums ((aA.drop n).take M)):b=strOfNums (ZC k l m p n)/\RF aA 0 (LF (WM b n))=LF (WQ k l m p n):=by
 have q:=xC k l m p n h
 have c:b=strOfNums (ZC k l m p n):=by
  rw[f,e,KA j,AS d]
 refine⟨c,?_⟩;unfold RF WQ;rw[<-c,rM,NK,th,e,FZ,EL,BK,KA j]
 congr 1
 rw[c,Gf _ (Ep k l m p n)]
theorem I2(w:Q9)(A:Array Ra)(t:TypeId)(n:Nat)(v:Ra)(b:A=Array.replicate n v):(w.alloc (.cells A t)).there w.heap.size 0 n:=λj c=>by
 subst b;rw[BK,EI _ _ _ _ z,DU];exact⟨by simp[c],de _ _ _ C⟩
theorem lQ{e:Array Oper}(f:op.guard=none)(d:TypeId)(x y:Operand)(l:op.op=.store d x y)
  (xs:List Int)(p:a.eval x=Dr w.heap.size 0)(q:a.eval y=.agg (xs.map (Value.int .u8)).toArray)(A:Array Ra)(t:TypeId)(v:Ra)(k:A=Array.replicate xs.length v)
  (b:(P.info? d).map (·.size)=some xs.length)
  (h:∀c,Fm c w.heap.size xs->Q3 w c->c.heap.size=w.heap.size+1->wpList P e Q aA (a.put op.dst undef) c):wpList P e Q (op::aA) a (w.alloc (.cells A t)):=by
 have aB:=I2 w A t xs.length v k;have c:(xs.map (Value.int .u8)).toArray.size=xs.length:=j
 refine BV f d x y l w.heap.size 0 _ p q (by rw[c];exact aB) (by rw[c];exact b) (GH (YV xs)) ?_;have m:=EG (w.alloc (.cells A t)) w.heap.size 0 (xs.map (Value.int .u8)) (by rw[BP];exact aB);refine h _ ⟨λi b=>?_,λi b=>?_⟩ (Go.below_setCells C _ _ _ (LH _ _)) (by rw[UV];simp)
 .have:=m i (.int .u8 (xs.getD i 0)) (by simp[List.getD,AO b])
  simpa using this
 rw[ET,DU];exact de _ _ _ C
end
set_option maxRecDepth 4000 in
theorem tY(k l m:Int)(p:Q4)(n:Nat)(w:Q9)(J:OB k l m p n=true):Calls prog 226 #[OD k l m p,Z (n:Int)] w λe w'=>e=Q2 (.agg ((LF (WQ k l m p n)).map (Value.int .u8)).toArray)/\Q3 w w':=by
 have T:=AW (by unfold OB at J;exact J);obtain⟨eB,eE,dP,dQ,dR,dU,dV,dZ,L,_⟩:=T
 have K:=λq=>ux (P:=prog) (t:=121) underlying121 (λ_=>h) (w.heap.size+1+1) 0 n d .i64 (n:Int) z q
 rw[BK]at K;obtain⟨M,t⟩:∃M,Hid (M=64-n):=⟨64-n,RP z⟩;rw[<-t.j]at K;have cW:(56:Int)<=(M:Int):=by have:=t.j;omega
 have cX:(M:Int)<=63:=by have:=t.j;omega
 have cZ:(1:Int)<=(M:Int):=d
 have dB:(3:Int)<=(M:Int):=d
 have dF:(7:Int)<=(M:Int):=d
 have dH:(8:Int)<=(M:Int):=d
 have eG:IntKind.u64.wrap k=k:=dj k d d;have eH:IntKind.u64.wrap l=l:=dj l d d;have eI:IntKind.u64.wrap m=m:=dj m d d;have eJ:IntKind.u64.wrap (p.size:Int)=(p.size:Int):=dj _ d d;have dL:¬(M=1):=d
 have dM:¬(M=3):=d
 have dN:¬(M=7):=d
 go_enter func226,ntmps226;go_wp2_with fail;refine Lz w (Z k) (Z l) (Z m) (Ow p) _ _ _ _ _ z z ?_;intro wa s b;have c:(List.replicate 64 (0:Int)).length=64:=σ
 obtain⟨cL,I⟩:=nHz (List.replicate 64 (0:Int));rw[<-I.j]at b c;have r:=b;have i:=s;clear b s;have A:=RP i.toS;clear i
 go_region_held3 (λw'=>w'.cell? (Ki w.heap.size 0)=some (Z k)/\w'.cell? (Ki w.heap.size 1)=some (Z l)/\w'.cell? (Ki w.heap.size 2)=some (Z m)/\w'.cell? (Ki w.heap.size 3)=some (Ow p)/\PI w w' (Z k) (Z l) (Z m) (Ow p))
  (first|assumption|exact(PI.ofS A.j).drew.toS|exact(PI.wrote (PI.ofS (by assumption)) (by assumption)).toS)
  (first|(go_at_call 280;refine(jp (w.heap.size+1+1) n 1 M k _ d d d (λi b=>⟨_,r.drew.cell (n+i) (by rw[c];omega)⟩) (λi b=>r.drew.froz (n+i) (by rw[c];omega))).J ?_;rintro e wb ⟨rfl,B⟩))
 have y:PI w wb (Z k) (Z l) (Z m) (Ow p):=PI.ofS (by assumption);obtain⟨eK,U,v,s⟩:=r.drew.step c B (by rw[QN];omega);clear A B r c;go_wp2_with fail;have A:=RP y.toS;clear y
 go_region_held3 (λw'=>w'.cell? (Ki w.heap.size 0)=some (Z k)/\w'.cell? (Ki w.heap.size 1)=some (Z l)/\w'.cell? (Ki w.heap.size 2)=some (Z m)/\w'.cell? (Ki w.heap.size 3)=some (Ow p)/\PI w w' (Z k) (Z l) (Z m) (Ow p))
  (first|assumption|exact(PI.ofS A.j).drew.toS|exact(PI.wrote (PI.ofS (by assumption)) (by assumption)).toS)
  (first|(go_at_call 280;refine(jp (w.heap.size+1+1) (n+1) 2 (M-1) l _ d d d (λi b=>⟨_,s.drew.cell (n+1+i) (by rw[v];omega)⟩) (λi b=>s.drew.froz (n+1+i) (by rw[v];omega))).J ?_;rintro e wc ⟨rfl,B⟩))
 have r:PI w wc (Z k) (Z l) (Z m) (Ow p):=PI.ofS (by assumption);obtain⟨eL,V,y,c⟩:=s.drew.step v B (by rw[QN];omega);clear A B s v;go_wp2_with fail;have A:=RP r.toS;clear r
 go_region_held3 (λw'=>w'.cell? (Ki w.heap.size 0)=some (Z k)/\w'.cell? (Ki w.heap.size 1)=some (Z l)/\w'.cell? (Ki w.heap.size 2)=some (Z m)/\w'.cell? (Ki w.heap.size 3)=some (Ow p)/\PI w w' (Z k) (Z l) (Z m) (Ow p))
  (first|assumption|exact(PI.ofS A.j).drew.toS|exact(PI.wrote (PI.ofS (by assumption)) (by assumption)).toS)
  (first|(go_at_call 280;refine(jp (w.heap.size+1+1) (n+3) 4 (M-3) m _ d d d (λi b=>⟨_,c.drew.cell (n+3+i) (by rw[y];omega)⟩) (λi b=>c.drew.froz (n+3+i) (by rw[y];omega))).J ?_;rintro e wd ⟨rfl,B⟩))
 have v:PI w wd (Z k) (Z l) (Z m) (Ow p):=PI.ofS (by assumption);obtain⟨eM,W,s,r⟩:=c.drew.step y B (by rw[QN];omega);clear A B c y;go_wp2_with fail;have y:=RP v.toS;clear v
 go_region_held3 (λw'=>w'.cell? (Ki w.heap.size 0)=some (Z k)/\w'.cell? (Ki w.heap.size 1)=some (Z l)/\w'.cell? (Ki w.heap.size 2)=some (Z m)/\w'.cell? (Ki w.heap.size 3)=some (Ow p)/\PI w w' (Z k) (Z l) (Z m) (Ow p))
  (first|assumption|exact(PI.ofS y.j).drew.toS|exact(PI.wrote (PI.ofS (by assumption)) (by assumption)).toS)
  (first|(go_at_call 280;refine(jp (w.heap.size+1+1) (n+7) 1 (M-7) (p.size:Int) _ d d d (λi b=>⟨_,r.drew.cell (n+7+i) (by rw[s];omega)⟩) (λi b=>r.drew.froz (n+7+i) (by rw[s];omega))).J ?_;rintro e O ⟨rfl,A⟩))
 have v:PI w O (Z k) (Z l) (Z m) (Ow p):=PI.ofS (by assumption);obtain⟨eO,X,c,b⟩:=r.drew.step s A (by rw[QN];omega);clear y A r s;go_wp2_with fail;have cY:¬(M=8):=d
 have x:p.size<=M-8:=by have:=t.j;omega
 have s:=RP (b.drew.copied (n+8) p (by rw[c];omega));have y:=RP (b.drew.isSome (n+8) p.size (by rw[c];omega));have B:=RP (b.drew.frozen (n+8) p.size (by rw[c];omega));have i:=RP v.toS;clear v
 go_region_held3 (λw'=>w'.cell? (Ki w.heap.size 0)=some (Z k)/\w'.cell? (Ki w.heap.size 1)=some (Z l)/\w'.cell? (Ki w.heap.size 2)=some (Z m)/\w'.cell? (Ki w.heap.size 3)=some (Ow p)/\PI w w' (Z k) (Z l) (Z m) (Ow p))
  (first|assumption|exact(PI.ofS i.j).drew.toS|exact(PI.wrote (PI.ofS i.j).drew s.j).toS)
  (first|(refine step_copy_string f _ _ _ _ f 5 underlying22 (λ_=>h) (w.heap.size+1+1) (n+8) (M-8) (M-8) f p f x y.j B.j ?_))
 have r:=PI.wrote (PI.ofS i.j).drew s.j;obtain⟨A,j,aA,C⟩:=b.drew.step c s.j (by rw[NK];omega);clear i s y B b c;obtain⟨R,b⟩:=nMz (O.drew.setCells (w.heap.size+1+1) (n+8) (List.map (λc=>Value.int IntKind.u8 (c.toNat:Int)) p.data.toList));rw[<-b]at C r⊢;clear b;go_wp2_with fail
 have eF:=λq=>xv (P:=prog) (t:=121) underlying121 (λ_=>h) (w.heap.size+1+1) 0 n d d .i64 (n:Int) z q
 obtain⟨s,D⟩:=nHz (strOfNums ((A.drop n).take M));have u:s.size=M:=by rw[D.j,CY,AZ,BS,aA];have:=t.j;omega
 have hF:w.heap.size+1+1<R.drew.heap.size:=by have:=r.size;show _<R.heap.size;omega
 have E:∀(q:Q9) (xs:List Int),xs.length=64->(xs.drop n).take M=(A.drop n).take M->Fm q (w.heap.size+1+1) xs->PI w q (Z k) (Z l) (Z m) (Ow p) ->
   (convert 22 9 (Y (Hw (w.heap.size+1+1) n) M M)).run prog q=.ok (Ow s) q/\q.there (w.heap.size+1+1) 0 64/\PI w q (Z k) (Z l) (Z m) (Ow p):=λq xs b v i L=>by
  refine⟨?_,λb B=>⟨?_,?_⟩,L⟩
  .rw[i.text 22 5 9 underlying22 underlying5 underlying9 n M M (by have:=t.j;omega),v,D.j]
  .exact i.isSome 0 64 d b B
  exact i.frozen 0 64 d b B
 have y:=RP E;have i:=RP C;have v:=RP r;clear E C r;have r:(WM s n).size=n:=th _ _
 go_region_held3 (λw'=>(convert 22 9 (Y (Hw (w.heap.size+1+1) n) M M)).run prog w'=.ok (Ow s) w'/\w'.there (w.heap.size+1+1) 0 64/\PI w w' (Z k) (Z l) (Z m) (Ow p))
  (first|assumption|exact y.j _ A aA z i.j.drew v.j.drew|exact y.j _ A aA z (i.j.drew.I aB hF) (v.j.drew.I aB)|exact y.j _ _ (by rw[qk _ _ _ (by rw[NK,r];omega)];exact aA) (by rw[Mf _ _ n (by rw[NK,r])]) ((i.j.drew.I aB hF).wrote ((i.j.drew.I aB hF).copied 0 (WM s n) (by rw[r];omega)) (by rw[NK,r];omega)) (PI.wrote (v.j.drew.I aB) ((i.j.drew.I aB hF).copied 0 (WM s n) (by rw[r];omega))))
  (first|(go_at_call 281;refine(Om s _ n (by rw[u];omega) d d).J ?_;rintro e E ⟨rfl,aB⟩)|(refine step_copy_string f _ _ _ _ f 5 underlying22 (λ_=>h) (w.heap.size+1+1) 0 n 64 f (WM s n) f (by rw[r];omega) (λb B=>((y.j _ A aA z (i.j.drew.I aB hF) (v.j.drew.I aB)).2.1 b (by rw[r]at B;omega)).1) (λb B=>((y.j _ A aA z (i.j.drew.I aB hF) (v.j.drew.I aB)).2.1 b (by rw[r]at B;omega)).2) ?_))
 have E:=(i.j.drew.I aB hF).copied 0 (WM s n) (by rw[r];omega);have C:=PI.wrote (v.j.drew.I aB) E;obtain⟨b,H,B,G⟩:=(i.j.drew.I aB hF).step aA E (by rw[NK,r];omega)
 have S:Hid (b=LF (WQ k l m p n)):=by
  have h5:=Cp k l m p n d I.j U.j V.j W.j X.j j.j;show b=_;rw[H.j,(Fb k l m p n d t.j h5 D.j).2]
 clear E i v y aB hF;obtain⟨v,i⟩:=nMz (E.setCells (w.heap.size+1+1) 0 (List.map (λc=>Value.int IntKind.u8 (c.toNat:Int)) (WM s n).data.toList));rw[<-i]at G C⊢;clear i;have c:(b.map (Value.int .u8)).toArray.size=64:=by simp[B]
 go_wp2_with (first
  | (refine BE rfl 121 _ rfl (w.heap.size+1+1) 0 rfl (b.map (Value.int .u8)) _ G.range underlying121 rfl (by rw[BP,B];kernel_rfl) ?_)
  | (refine BV rfl 121 _ _ rfl (w.heap.size+1) 0 (b.map (Value.int .u8)).toArray rfl rfl (by rw[c];exact C.there) (by rw[c];kernel_rfl) (GH (YV b)) ?_))
 refine AE (v:=.agg (b.map (Value.int .u8)).toArray) (Bo (p:=4) results226 _ _ (w.heap.size+1) 0 z (b.map (Value.int .u8)) _ (EG _ _ _ _ (by rw[BP,B];exact C.there)) underlying121 z (by rw[BP,B];kernel_rfl)) z ⟨by rw[S.j],?_⟩;exact below_setCells d _ _ _ C.bel
def NB(k l m:Int)(p:Q4)(n:Int):Q4:=if OB k l m p n=true then WQ k l m p n.toNat else empty
theorem jh(k l m:Int)(p:Q4)(n:Int)(w:Q9)(f:p.size<=1048576):Calls prog 166 #[OD k l m p,Z n] w λe w'=>e=Q2 (Ow (NB k l m p n))/\Q3 w w':=by
 unfold NB
 cases h:OB k l m p n with
 | true =>
  have c:=AW (by unfold OB at h;exact h);have e:1<=n:=c.1;obtain⟨b,rfl⟩:∃b:Nat,n=(b:Int):=⟨n.toNat,d⟩;rw[G z,DO];exact La k l m p b w h
 | false=>rw[A j];exact Iu k l m p n w f h
def dh(s:Q4)(l f:Int)(n m N i:Nat):Q4:=NB (if i+1=N then 2 else 1) l (f+(i:Int)) (s.extract (i*m) (i*m+m)) (n:Int)
def xq(l f:Int)(N:Nat):Bool:=decide (1<=l/\l<=60000/\1<=f/\f+(N:Int)<=1000000001)
def XD(s:Q4)(l f:Int)(n m N k:Nat):List Q4:=(List.range k).map (dh s l f n m N)
theorem yw(s:Q4)(l f:Int)(n m N k:Nat):XD s l f n m N (k+1)=XD s l f n m N k++[dh s l f n m N k]:=by simp[XD,GY]
theorem vh(s:Q4)(l f:Int)(n m N k:Nat):(XD s l f n m N k).length=k:=by simp[XD]
def PK(s:Q4)(l f:Int)(n m:Nat):List Q4:=if xq l f (RK s.size m)=true then XD s l f n m (RK s.size m) (RK s.size m) else []
theorem tT(l m:Nat):RK l m<=l+1:=by
 unfold RK
 split
 .omega
 have:=KX (l-1) m;omega
theorem wZ(l m:Nat):0<RK l m:=by
 unfold RK
 split
 .omega
 exact Nat.succ_pos _
theorem G0(l m k:Nat)(e:0<m)(b:k<RK l m):l<=(k+1)*m<->k+1=RK l m:=by
 unfold RK at b⊢
 by_cases c:l=0
 .rw[G c]at b⊢
  omega
 rw[A c]at b⊢
 constructor
 .intro h
  have:(l-1) / m<k+1:=(KY e).2 d;omega
 intro h
 have f:(l-1) / m<k+1:=d
 have:=(KY e).1 f;omega
theorem Kh(s:Q4)(a m:Nat):(s.extract a (a+m)).size<=m:=by simp only[AQ];omega
theorem vk{s:Q4}{l f:Int}{m:Nat}(b:N=RK s.size m)(h:1<=l/\l<=60000/\1<=f/\f+(N:Int)<=1000000001):PK s l f n m=XD s l f n m N N:=by
 unfold PK xq;rw[<-b,G (by simpa using h)]
theorem gk{s:Q4}{l f:Int}{m:Nat}(b:N=RK s.size m)(h:¬(1<=l/\l<=60000/\1<=f/\f+(N:Int)<=1000000001)):PK s l f n m=[]:=by
 unfold PK xq;rw[<-b,A (by simpa using h)]
def vq(w w':Q9)(e:Ending)(b:List Q4):Prop:=∃a c,e=Q2 (Y a b.length c)/\OwnS w' a (b.map Value.string)/\(∀g,blk a b.length=some g->w.heap.size<=g)/\Q3 w w'
theorem mz{v:Ra}{a:Q5}{c:Nat}(hv:v=Y a 0 c)(b:Q3 w w'):vq w w' (Q2 v) []:=⟨a,c,by rw[hv];rfl,.inl z,λg h=>(by cases h),b⟩
theorem tH{v:Ra}{k:Nat}{e:TypeId}{b:List Q4}(h:w'.ownsRow w.heap.size e 1 v k (b.map Value.string))(p:k=b.length)(l:Q3 w w'):vq w w' (Q2 v) b:=by
 rcases MS h with ⟨f,j⟩|⟨g,c,f,j,_,m⟩
 .have:b=[]:=AD d
  subst this;exact mz f l
 subst p
 refine⟨_,c,by rw[f],.inr ⟨g,z,m⟩,λq aA=>?_,l⟩
 by_cases i:b.length=0
 .rw[i]at aA;cases aA
 rw[ND g 0 _ i]at aA;cases aA;exact j
set_option maxRecDepth 4000 in
theorem Af(s:Q4)(l f:Int)(n m:Nat)(w:Q9)(hs:s.size<=1048576)(hm:n+m=56)(h1:1<=n)(h2:n<=8):Calls prog 175 #[Ow s,Z l,Z f,Z (n:Int)] w λe w'=>vq w w' e (PK s l f n m):=by
 have A:decide (1<=(n:Int)/\(n:Int)<=8)=true:=q
 have u:∀o,Q3 w (w.alloc o):=λo=>LH _ _
 obtain⟨N,t⟩:=x (RK s.size m);have bR:N<=1048577:=by have:=tT s.size m;rw[t.j];omega
 have bQ:0<N:=by rw[t.j];exact wZ _ _
 obtain⟨R,v⟩:=x (PK s l f n m);rw[<-v.j]
 by_cases bU:1<=l
 focus
  by_cases bV:l<=60000
  focus
   by_cases bW:1<=f
   focus
    by_cases bY:f<=1000000000
    .by_cases bT:(N:Int)<=1000000000-f+1
     .have D:Hid (R=XD s l f n m N N):=by show _=_;rw[v.j];exact vk t.j d
      clear v;obtain⟨i0,b,c,h,i⟩:=info_parts zb;have G:=LE (AG b (AG c (AG h i)));clear b c h i;go_enter func175,ntmps175
      go_wp2_with (first|(go_at_call 43;refine(RZ _ _).J ?_;rw[A];rintro e E ⟨rfl,rfl⟩)|(go_at_call 241;refine(nF s n m _ hs hm h1 h2).J ?_;rw[<-t.j];rintro e E ⟨g,c,rfl,hg,aB,b⟩;have aQ:=LE aB;clear aB))
      simp only[BG]at hg;have bG:Q3 w E:=(u _).E (b.J j);have aM:E.ownsRow w.heap.size 9 1 (Y (Hw w.heap.size 0) 0 0) 0 []:=MK (DH w #[] 0 AA j j) b;clear b;go_loopw [9,11,12] (λy i _ wr=>∃k:Nat,k<=N/\i=Z k/\wr.ownsRow w.heap.size 9 1 y k ((XD s l f n m N k).map Value.string)/\y.ownBlock≠some g/\Row wr g ((ek s m N).map Value.string)/\Q3 w wr) (λ_ i _ _=>N-(intOf i).toNat)
      case atStart =>
       exact⟨0,AL,z,aM,by simp[Value.ownBlock];omega,aQ.j,bG⟩
      case round =>
       obtain⟨k,hk,rfl,S,aX,aB,O⟩:=hrel
       by_cases bI:k<N
       .have hc:=aB.cell k (Ow (s.extract (k*m) (k*m+m))) (by simp[ek,bI])
        obtain⟨p,U⟩:=x (s.extract (k*m) (k*m+m));rw[<-U.j]at hc;have aY:p.size<=1048576:=by rw[U.j];have:=Kh s (k*m) m;omega
        have bP:w.heap.size<=wr.heap.size:=O.size;have bH:=aB.lt;have HB:=LE O;have bF:=LE aB;have V:=LE S;clear O aB S;obtain⟨F,C⟩:=x (dh s l f n m N k);obtain⟨kd,L⟩:=nMz (if k+1=N then 2 else 1:Int);have aT:Hid (NB kd l (f+(k:Int)) p (n:Int)=F):=by show _=_;rw[C.j,U.j,L];rfl
        have H:∀(i:Q9),Q3 wr i->∀(B:Q9) (y h:Nat),B.ownsRow w.heap.size 9 1 (Y (Hw y 0) (k+1) h) (k+1) ((XD s l f n m N k).map Value.string++[Ow F])->(i.alloc (.cells #[Ow F] 9)).grownBy B u9.ownBlock->(u9.ownBlock=some y\/y=i.heap.size+1)->(∃b:Nat,b<=N/\Z ((k:Int)+1)=Z b/\B.ownsRow w.heap.size 9 1 (Y (Hw y 0) (k+1) h) b ((XD s l f n m N b).map Value.string)/\(Y (Hw y 0) (k+1) h).ownBlock≠some g/\Row B g ((ek s m N).map Value.string)/\Q3 w B):=λi r B y h K J T=>by
         have aZ:=r.size;refine⟨k+1,d,ν,?_,?_,?_,?_⟩
         .rw[yw,DC,<-C.j];exact K
         .rcases T with T|T
          .intro b;exact aX (T.E (by simpa[Value.ownBlock] using b))
          simp[Value.ownBlock];omega
         .exact((bF.j.I r).alloc _).V J (λb=>aX b.symm)
         exact mm ((HB.j.E (r.J bP)).alloc d _) ((MK V.j r).alloc _) J q
        have I:=LE H;clear H
        by_cases K:k+1=N
        .have hq:((k:Int) == (N:Int)-1)=true:=q
         rw[AI K]at L;subst L;clear K
         go_wp2_with (first|(go_at_call 166;refine(jh 2 l (f+(k:Int)) p (n:Int) _ aY).J ?_;rw[aT.j];rintro e i ⟨rfl,r⟩;have aZ:=r.size;have X:=LE ((MK V.j r).alloc (.cells #[Ow F] 9)))|(at_builtin;refine SX _ z _ _ 29 z w.heap.size underlying29 G.j z d _ k _ z X.j (Ki i.heap.size 0) 1 1 [Ow F] z z (World.news_of_block (AV i _)) (by intro b M;simp at M;subst M;rfl) q (i.heap.size+1) j ?_;intro y h B H aA J aS;have W:=LE (I.j i r B y h H aA J);clear H aA J))
         exact⟨W.j,by simp[intOf];omega⟩
        have hq:((k:Int) == (N:Int)-1)=false:=q
        rw[AF K]at L;subst L
        go_wp2_with (first|(go_at_call 166;refine(jh 1 l (f+(k:Int)) p (n:Int) _ aY).J ?_;rw[aT.j];rintro e i ⟨rfl,r⟩;have aZ:=r.size;have X:=LE ((MK V.j r).alloc (.cells #[Ow F] 9)))|(at_builtin;refine SX _ z _ _ 29 z w.heap.size underlying29 G.j z d _ k _ z X.j (Ki i.heap.size 0) 1 1 [Ow F] z z (World.news_of_block (AV i _)) (by intro b M;simp at M;subst M;rfl) q (i.heap.size+1) j ?_;intro y h B H aA J aS;have W:=LE (I.j i r B y h H aA J);clear H aA J))
        exact⟨W.j,by simp[intOf];omega⟩
       have K:k=N:=d
       subst K;have b:=LE S;clear S aB;go_wp2;go_ret;rw[D.j];exact tH b.j (vh _ _ _ _ _ _ _).symm O
     have D:Hid (R=[]):=by show _=_;rw[v.j];exact gk t.j d
     clear v;go_enter func175,ntmps175
     go_wp2_with (first|(go_at_call 43;refine(RZ _ _).J ?_;rw[A];rintro e E ⟨rfl,rfl⟩)|(go_at_call 241;refine(nF s n m _ hs hm h1 h2).J ?_;rw[<-t.j];rintro e E ⟨g,c,rfl,hg,aB,b⟩;clear aB))
     go_ret;rw[D.j];exact mz z ((u _).E (b.J j))
    focus
     have D:Hid (R=[]):=by show _=_;rw[v.j];exact gk t.j d
    rotate_left
   rotate_left
   focus
    have D:Hid (R=[]):=by show _=_;rw[v.j];exact gk t.j d
   rotate_left
  rotate_left 2
  focus
   have D:Hid (R=[]):=by show _=_;rw[v.j];exact gk t.j d
  rotate_left
 rotate_left 3
 focus
  have D:Hid (R=[]):=by show _=_;rw[v.j];exact gk t.j d
 rotate_left
 all_goals
  clear v;go_enter func175,ntmps175
  go_wp2_with (first|(go_at_call 43;refine(RZ _ _).J ?_;rw[A];rintro e E ⟨rfl,rfl⟩))
  go_ret;rw[D.j];exact mz z (u _)
theorem Fv(k l m:Int)(p:Q4)(n:Int)(w:Q9)(b:p.size<=1048576)(aB:OB k l m p n=false):Calls prog 274 #[OD k l m p,Z n] w λe w'=>e=Q2 (Ow empty)/\Q3 w w':=by
 go_enter func274,ntmps274;go_wp2_with (go_at_call 225;refine(sn k l m p n _ b).J ?_;rw[aB];rintro e c ⟨rfl,aA⟩);go_ret;exact⟨z,(LH _ _).E (aA.J j)⟩
set_option maxRecDepth 4000 in
theorem Fc(k l m:Int)(p:Q4)(n:Nat)(w:Q9)(aA:OB k l m p n=true):Calls prog 274 #[OD k l m p,Z (n:Int)] w λe w'=>e=Q2 (Ow (WQ k l m p n))/\Q3 w w':=by
 have i:=AW (by unfold OB at aA;exact aA);obtain⟨B,C,s,t,u,v,y,A,E,_⟩:=i;go_enter func274,ntmps274;go_wp2_with (go_at_call 225;refine(sn k l m p n _ d).J ?_;rw[aA];rintro e G ⟨rfl,b⟩;obtain⟨q,c,f,h,r,aB⟩:=kc (W:=w) (v0:=Z k) (v1:=Z l) (v2:=Z m) (v3:=Ow p) b ⟨j,j,j,j,j,LH _ _⟩;clear b);refine(tY k l m p n _ aA).J ?_;rintro e H ⟨rfl,b⟩;clear q c f h r;have f:=aB.E (b.J aB.size);clear aB b;obtain⟨xs,b⟩:=x (LF (WQ k l m p n));have c:xs.length=64:=by rw[b.j,NK];exact ka k l m p n d
 have D:(xs.map (Value.int .u8)).toArray.size=64:=by simp[c]
 rw[<-b.j];go_wp2_with (refine lQ z 121 _ _ z xs z z _ _ (.int .u8 0) (by rw[c];rfl) (by rw[c];kernel_rfl) ?_;intro I h q _;have r:=h.text (P:=prog) 22 5 9 underlying22 underlying5 underlying9 0 64 64 d;rw[FI,AS d]at r;clear h);go_ret;refine⟨xi ?_,f.E (q.J f.size)⟩;rw[b.j,WR]
theorem ma(k l m:Int)(p:Q4)(n:Int)(w:Q9)(f:p.size<=1048576):Calls prog 274 #[OD k l m p,Z n] w λe w'=>e=Q2 (Ow (NB k l m p n))/\Q3 w w':=by
 unfold NB
 cases h:OB k l m p n with
 | true =>
  have c:=AW (by unfold OB at h;exact h);have e:1<=n:=c.1;obtain⟨b,rfl⟩:∃b:Nat,n=(b:Int):=⟨n.toNat,d⟩;rw[G z,DO];exact Fc k l m p b w h
 | false=>rw[A j];exact Fv k l m p n w f h
@[reducible] def OI(t h f l:Int):Ra:=.agg #[Z t,Z h,Z f,Z l]
abbrev XX(h f:Int):Prop:=0<=h/\h<=1/\1<=f/\f<=999999000
def ZY(h f:Int):Q4:=strOfNums (be 1 h)++strOfNums (be 4 f)
def QE(t h f l n:Int):Q4:=if XX h f then NB 4 l t (ZY h f) n else empty
theorem nO(h:Int)(w:Q9):Calls prog 247 #[Z h] w λe w'=>e=Q2 (Q1 (decide (0<=h/\h<=1)))/\w'=w:=by
 have d:decide (0<=h/\h<=1)=(decide (h=0) || decide (h=1)):=by rw[JB];simp;omega
 rw[d];go_enter func247,ntmps247
 by_cases b:h=0
 .subst b;go_wp2;go_ret;exact⟨z,z⟩
 by_cases c:h=1
 .subst c;go_wp2;go_ret;exact⟨z,z⟩
 go_wp2;go_ret;simp[b,c]
theorem sL(f:Int)(w:Q9):Calls prog 248 #[Z f] w λe w'=>e=Q2 (Q1 (decide (1<=f/\f<=999999000)))/\w'=w:=by
 go_enter func248,ntmps248
 by_cases b:1<=f<;>by_cases c:f<=999999000<;>(go_wp2;go_ret;simp[b,c])
theorem Jz(t h f l n:Int)(w:Q9)(aA:¬XX h f):Calls prog 236 #[OI t h f l,Z n] w λe w'=>e=Q2 (Ow empty)/\Q3 w w':=by
 have aB:∀o,Q3 w (w.alloc o):=λo=>LH _ _
 unfold XX at aA;go_enter func236,ntmps236
 by_cases b:0<=h<;>by_cases c:h<=1<;>by_cases d:1<=f<;>by_cases e:f<=999999000<;>first|(exfalso;omega)|(clear aA;go_wp2;go_ret;exact⟨z,aB _⟩)
theorem P2(t h f l n:Int)(w:Q9)(s:XX h f):Calls prog 236 #[OI t h f l,Z n] w λe w'=>e=Q2 (Ow (NB 4 l t (ZY h f) n))/\Q3 w w':=by
 obtain⟨C,E,G,H⟩:=s;obtain⟨A,c⟩:∃A,strOfNums (be 1 h)=A:=⟨_,z⟩;obtain⟨B,i⟩:∃B,strOfNums (be 4 f)=B:=⟨_,z⟩;have L:A.size=1:=by rw[<-c,CY,QN]
 have M:B.size=4:=by rw[<-i,CY,QN]
 have p:Hid (ZY h f=A++B):=by show _=_;unfold ZY;rw[c,i]
 have aA:=λk=>kx h 1 1 z k d d d
 have aB:=λk=>kx f 4 4 z k d d d
 simp only[c]at aA;simp only[i]at aB;rw[p.j];have u:(A++B).size<=1048576:=by simp only[AP];omega
 go_enter func236,ntmps236;go_wp2_with fail;have m:w.heap.size<(w.alloc (.cells #[Z t,Z h,Z f,Z l] 39)).heap.size/\(w.alloc (.cells #[Z t,Z h,Z f,Z l] 39)).cell? (Ki w.heap.size 0)=some (Z t)/\(w.alloc (.cells #[Z t,Z h,Z f,Z l] 39)).cell? (Ki w.heap.size 1)=some (Z h)/\(w.alloc (.cells #[Z t,Z h,Z f,Z l] 39)).cell? (Ki w.heap.size 2)=some (Z f)/\(w.alloc (.cells #[Z t,Z h,Z f,Z l] 39)).cell? (Ki w.heap.size 3)=some (Z l)/\Q3 w (w.alloc (.cells #[Z t,Z h,Z f,Z l] 39)):=⟨j,j,j,j,j,LH _ _⟩;have q:=RP m;clear m
 go_region_held3 (λw'=>w.heap.size<w'.heap.size/\w'.cell? (Ki w.heap.size 0)=some (Z t)/\w'.cell? (Ki w.heap.size 1)=some (Z h)/\w'.cell? (Ki w.heap.size 2)=some (Z f)/\w'.cell? (Ki w.heap.size 3)=some (Z l)/\Q3 w w')
  (first|assumption|exact kc (below_drewN D 1) q.j|exact kc (by assumption) (by assumption))
  (first|(go_at_call_of 238 h;refine(aA _).J ?_;rintro e I ⟨rfl,v⟩)|(go_at_call_of 238 f;refine(aB _).J ?_;rintro e J ⟨rfl,x⟩)|(go_at_call 166;refine(jh 4 l t (A++B) n _ u).J ?_;rintro e K ⟨rfl,y⟩))
 rename_i b;have r:=b.2.2.2.2.2;clear b;go_wp2;go_ret;exact⟨z,r⟩
theorem xH(t h f l n:Int)(w:Q9):Calls prog 236 #[OI t h f l,Z n] w λe w'=>e=Q2 (Ow (QE t h f l n))/\Q3 w w':=by
 unfold QE
 by_cases aA:XX h f
 .rw[G aA];exact P2 t h f l n w aA
 rw[A aA];exact Jz t h f l n w aA
section
structure B4(w:Q9)(B:Nat)(v0 v1 v2 v3:Ra):Prop where
 lt:B<w.heap.size
 c0:w.cell? (Ki B 0)=some v0
 c1:w.cell? (Ki B 1)=some v1
 c2:w.cell? (Ki B 2)=some v2
 c3:w.cell? (Ki B 3)=some v3
 f0:w.frozen? (Ki B 0)=false
 f1:w.frozen? (Ki B 1)=false
 f2:w.frozen? (Ki B 2)=false
 f3:w.frozen? (Ki B 3)=false
section
variable {w w':Q9} {B:Nat} {v0 v1 v2 v3:Ra}
theorem B4.past(h:B4 w B v0 v1 v2 v3)(e:B<N)(d:Below N w w'):B4 w' B v0 v1 v2 v3:=by
 have b:∀i,w'.cell? (Ki B i)=w.cell? (Ki B i):=λi=>d.cell (p:=(Ki B i)) e
 have c:∀i,w'.frozen? (Ki B i)=w.frozen? (Ki B i):=λi=>d.frozen (p:=(Ki B i)) e
 exact⟨AC h.lt d.size,(b _).E h.c0,(b _).E h.c1,(b _).E h.c2,(b _).E h.c3,(c _).E h.f0,(c _).E h.f1,(c _).E h.f2,(c _).E h.f3⟩
theorem B4.I(h:B4 w B v0 v1 v2 v3)(b:Q3 w w'):B4 w' B v0 v1 v2 v3:=h.past h.lt b
theorem B4.drew(h:B4 w B v0 v1 v2 v3):B4 w.drew B v0 v1 v2 v3:=⟨h.lt,h.c0,h.c1,h.c2,h.c3,h.f0,h.f1,h.f2,h.f3⟩
theorem B4.alloc(h:B4 w B v0 v1 v2 v3)(o:Obj):B4 (w.alloc o) B v0 v1 v2 v3:=h.I (LH _ _)
theorem B4.new(w:Q9)(v0 v1 v2 v3:Ra)(t:TypeId):B4 (w.alloc (.cells #[v0,v1,v2,v3] t)) w.heap.size v0 v1 v2 v3:=by
 refine⟨σ,?_,?_,?_,?_,?_,?_,?_,?_⟩<;>first|(simp;done)|(rw[DU];exact de _ _ _ AA)
end
section
variable {W w w':Q9} {R B:Nat} {v0 v1 v2 v3 u0 u1 u2 u3:Ra}
end
end
theorem fe(b:TypeId)(x:Operand)(c:op.op=.load b x)(h:wpList P aB Q (op::aA) a w):wpList P aB Q (op::aA) a w:=h
theorem aa(b:TypeId)(x y:Operand)(c:op.op=.store b x y)(h:wpList P aB Q (op::aA) a w):wpList P aB Q (op::aA) a w:=h
theorem OY(w:Q9)(A:Array Ra)(t:TypeId)(g:Nat)(b:g=w.heap.size):Row (w.alloc (.cells A t)) g A.toList:=by subst b;exact LZ w A t
theorem Ov(d x:Operand)(b:Array TypeId)(c:op.op=.call { callee:=.builtin .copy,args:=#[d,x],argTypes:=b })(h:wpList P aB Q (op::aA) a w):wpList P aB Q (op::aA) a w:=h
theorem E0{q:Array Oper}{p:List Oper}{o:Oper}(u:o.guard=none)(b x:Operand)(m s:TypeId)
  (y:o.op=.call { callee:=.builtin .copy,args:=#[b,x],argTypes:=#[m,s] })(aB:TypeId)(E:P.underlying m=some (.slice aB))(H:∀w,(Go.sizeOf aB).run P w=.ok 1 w)
  (g n f:Nat)(A:a.eval b=Y (Hw g 0) n f)(t:Q4)(G:a.eval x=Ow t)(J:t.size=n)(cs:List Ra)(aA:Row w g cs)(I:cs.length=n)
  (h:∀c,Row c g ((LF t).map (Value.int .u8))->w.grownBy c (some g)->c.heap.size=w.heap.size->wpList P q Q p (a.put o.dst (goInt t.size)) c):wpList P q Q (o::p) a w:=by
 have r:∀j,j<t.size->(w.cell? (Ki g (0+j))).isSome=true:=λj l=>by
  rw[BK,aA.cell j _ (AO d)];rfl
 have B:∀j,j<t.size->w.frozen? (Ki g (0+j))=false:=λj l=>by rw[BK];exact aA.froz j d
 have j:=run_copy_string (P:=P) w m s o.type aB g 0 n f t E H d r B;have c:=xK w g 0 t r
 refine IG u λK z=>?_
 unfold Oper.wp;simp[execOp,y,resolve,invoke,builtin,A,G,j,Result.andThen];refine z _ _ (h _ ⟨by rw[c.size];exact aA.lt,λi v hv=>?_,λi C=>?_⟩ ⟨c.os,c.tape,c.output,Nat.le_of_eq c.size.symm,λk _ D=>c.others k (λe=>D (by rw[e]))⟩ c.size)
 .obtain⟨l,e⟩:=DJ.1 hv
  simp at l;have:=c.inside i (by simpa[NK] using l);rw[BK]at this;rw[this];simp at e;subst e;simp[List.getD,AO l]
 rw[c.frozen];exact aA.froz i (by simp[NK]at C;omega)
theorem Row.range(h:Row w g cs):w.rangeAt g 0 cs:=λj v hv=>by rw[BK];exact h.cell j v hv
theorem Row.there(h:Row w g cs)(c:n=cs.length):w.there g 0 n:=λj b=>by
 rw[BK,h.cell j _ (AO ω)];exact⟨rfl,h.froz j ω⟩
def sy:Array Ra:=Array.replicate 64 (.int .u8 0)
set_option maxRecDepth 4000 in
theorem om(t:Q4)(w:Q9)(c:t.size=64):Calls prog 196 #[Ow t] w λe w'=>e=Q2 (.agg ((LF t).map (Value.int .u8)).toArray)/\Q3 w w':=by
 have b:(LF t).length=64:=by rw[NK,c]
 have aA:Hid ((prog.info? 121).map (·.size)=some ((LF t).map (Value.int .u8)).length):=by show _=_;rw[BP,b];kernel_rfl
 have d:((LF t).map (Value.int .u8)).toArray.size=64:=by simp[b]
 have i:=LE c;clear c;go_enter func196,ntmps196
 go_wp2_with (first|(with_reducible refine Ov _ _ _ z ?_;refine E0 z _ _ _ _ z 5 underlying22 (λ_=>h) (w.heap.size+1) 64 64 z t z i.j _ (by exact OY _ _ _ _ j) h ?_;intro p k aB l;have e:=(((LZ w _ _).alloc _).V aB j);have f:=LE (((LH _ _).alloc j _).E (MU aB q (λg m=>by cases m;omega)));clear aB l)|(with_reducible refine fe 121 _ z ?_;refine BE z 121 _ z (w.heap.size+1) 0 z ((LF t).map (Value.int .u8)) _ k.range underlying121 z aA.j ?_)|(with_reducible refine aa 121 _ _ z ?_;refine BV z 121 _ _ z w.heap.size 0 ((LF t).map (Value.int .u8)).toArray z z (by rw[d];exact e.there h) (by rw[d];kernel_rfl) (GH (YV (LF t))) ?_))
 refine H (v:=.agg ((LF t).map (Value.int .u8)).toArray) (Bo (p:=2) results196 _ _ w.heap.size 0 z ((LF t).map (Value.int .u8)) _ (EG _ _ _ _ (by rw[BP,b];exact e.there h)) underlying121 z aA.j) z ⟨z,?_⟩;exact Go.below_setCells C _ _ _ f.j
section
structure DepF(w:Q9)(F:Nat->Prop)(P:Q9->Prop):Prop where
 q:P w
 keep:∀w',Below 0 w w'->(∀b,F b->b<w.heap.size->w'.heap[b]?=w.heap[b]?)->P w'
section
variable {w w':Q9} {F G:Nat->Prop} {P Q:Q9->Prop}
theorem DepF.step(h:DepF w F P)(c:Below 0 w w')(e:∀b,F b->b<w.heap.size->w'.heap[b]?=w.heap[b]?):DepF w' F P :=⟨h.keep w' c e,λk i j=>h.keep k (c.E (i.J AL)) (λb d f=>(j b d (AC f c.size)).E (e b d f))⟩
theorem DepF.I(h:DepF w F P)(c:Q3 w w'):DepF w' F P:=h.step (c.J AL) (λb _ d=>c.block b d)
theorem DepF.V{r:Option Nat}(h:DepF w F P)(c:w.grownBy w' r)(i:∀g,r=some g->¬F g):DepF w' F P :=h.step (MU c AL (λ_ _=>AL)) (λb d f=>c.block b f (λe=>i b e.symm d))
theorem DepF.J(h:DepF w F P)(hF:∀b,b<w.heap.size->F b->G b):DepF w G P:=⟨h.q,λw' d e=>h.keep w' d (λb f c=>e b (hF b c f) c)⟩
theorem DepF.map(h:DepF w F P)(f:∀W,P W->Q W):DepF w F Q:=⟨f _ h.q,λw' b c=>f _ (h.keep w' b c)⟩
theorem DepF.and(h:DepF w F P)(k:DepF w F Q):DepF w F (λW=>P W/\Q W):=⟨⟨h.q,k.q⟩,λw' b c=>⟨h.keep w' b c,k.keep w' b c⟩⟩
theorem yg(h:P w)(f:∀w',Q3 w w'->P w'):DepF w (λb=>b<w.heap.size) P :=⟨h,λw' c e=>f w' ⟨c.os,c.tape,c.output,c.size,λb d=>e b d d⟩⟩
theorem gd{e d:Nat}(h:Dep w e d P)(hF:∀b,e<=b->b<d->F b):DepF w F P :=⟨h.q,λw' f i=>h.keep w' (λb j c=>i b (hF b j c) (AC c h.top)) (AJ h.top f.size)⟩
theorem XP(h:∀W,P W):DepF w F P:=⟨h _,λw' _ _=>h _⟩
end
theorem QF(w:Q9)(b o:Nat)(c:List Ra):w.grownBy (w.setCells b o c) (some b) :=⟨(ed b c o w).1,(ed b c o w).2.1,(ed b c o w).2.2,Nat.le_of_eq (UV b c o w).symm,λi f d=>qo b c o w i (λe=>d (BD some e))⟩
theorem Row.sets(h:Row w g cs)(b:List Ra)(e:b.length=cs.length):Row (w.setCells g 0 b) g b:=by
 have c:w.there g 0 b.length:=h.there e;have f:=EG w g 0 b c;have aA:=World.there_setCells c g 0 b;refine⟨by rw[UV];exact h.lt,λi v hv=>?_,λi d=>?_⟩
 .have:=f i v hv;rwa [BK]at this
 have:=(aA i d).2;rwa [BK]at this
theorem tj{b:Array Oper}(c:op.guard=none)(s:TypeId)(x:Operand)(f:Nat)(e:op.op=.fieldAddr s x f)(v:Ra)(aB:(Instr.fieldAt s (a.eval x) f).run P w=.ok v w)(h:wpList P b Q aA (a.put op.dst v) w):wpList P b Q (op::aA) a w:=by
 refine IG c λK d=>?_
 unfold Oper.wp execOp;simp only[e,aB,IF,IZ,IE];exact d _ _ h
section
variable {w:Q9} {g:Nat} {pre cs post:List Ra}
theorem Row.rangeMid(h:Row w g (pre++cs++post)):w.rangeAt g pre.length cs:=λj v hv=>by
 have b:j<cs.length:=(DJ.1 hv).1;exact h.cell (pre.length+j) v (by rw[BY,DY ω,BO ω,<-hv];congr 1;omega)
theorem Row.thereMid(h:Row w g (pre++cs++post))(c:n=cs.length):w.there g pre.length n:=λj b=>by
 subst c;exact⟨by rw[h.rangeMid j cs[j] (AO b)];rfl,h.froz (pre.length+j) τ⟩
theorem Row.setsMid(h:Row w g (pre++cs++post))(b:List Ra)(d:b.length=cs.length):Row (w.setCells g pre.length b) g (pre++b++post):=by
 have e:w.there g pre.length b.length:=h.thereMid d;refine⟨by rw[UV];exact h.lt,λi v hv=>?_,λi c=>by rw[ET];exact h.froz i (by simp at c⊢;omega)⟩
 by_cases c:i<pre.length
 .rw[EE g b _ w (Ki g i) (λ_ _=>.inl c)]
  refine h.cell i v ?_;rw[BY,BO c]at hv⊢;exact hv
 by_cases f:i<pre.length+b.length
 .have:=EG w g pre.length b e (i-pre.length) v (by rw[BY,DY ω,BO ω]at hv;exact hv)
  rwa [show pre.length+(i-pre.length)=i by omega]at this
 rw[EE g b _ w (Ki g i) (λ_ _=>.inr (by show pre.length+b.length<=i;omega))]
 refine h.cell i v ?_;rw[BY,DY ω,DY ω]at hv⊢;rw[<-d];exact hv
end
theorem WG{v:Q9}{b:Nat->Prop}(h:Row v g cs)(e:b g):DepF v b (λW=>Row W g cs) :=⟨h,λw' c d=>VM h (d g e h.lt) (AC h.lt c.size)⟩
theorem XM{R:Ending->Q9->Prop}(k:Nat)(c:TypeId)(i:fn.results=#[.cell k c])(b:Nat)(l:a.tmps.getD k undef=Dr b 0)(cs:List Ra)(d:TypeDesc)(f:Row w b cs)(m:P.underlying c=some d)(aA:d.isRow=true)(j:(P.info? c).map (·.size)=some cs.length)(h:a.defers=[])(e:R (Q2 (.agg cs.toArray)) w):bodyPost P fn R .ret a w:=by
 refine H (v:=.agg cs.toArray) ?_ h e;have aB:a.tmps[k]?.getD undef=Dr b 0:=by simpa using l
 simp[results,i,aB,asAddr,JE w b 0 c cs d f.range m aA j]
theorem ti{R:Ending->Q9->Prop}(k t:Nat)(c:TypeId)(j:fn.results=#[.cell k c,.tmp t])(b:Nat)(m:a.tmps.getD k undef=Dr b 0)(u:Ra)(p:a.tmps.getD t undef=u)(cs:List Ra)(d:TypeDesc)(h:Row w b cs)(q:P.underlying c=some d)(aA:d.isRow=true)(l:(P.info? c).map (·.size)=some cs.length)(i:a.defers=[])(f:R (Q2 (.tuple #[.agg cs.toArray,u])) w):bodyPost P fn R .ret a w:=by
 refine H (v:=.tuple #[.agg cs.toArray,u]) ?_ i f;have aB:a.tmps[k]?.getD undef=Dr b 0:=by simpa using m
 have e:a.tmps[t]?.getD undef=u:=by simpa using p
 simp[results,j,aB,e,asAddr,JE w b 0 c cs d h.range q aA l]
theorem SA(c:TypeId)(x:Operand)(i:op.op=.load c x)(b o:Nat)(k:a.eval x=Dr b o)(cs:List Ra)(d:TypeDesc)(e:w.rangeAt b o cs)(j:P.underlying c=some d)(f:d.isRow=true)(h:(P.info? c).map (·.size)=some cs.length):(execOp a.eval op).run P w=.ok (.value (.agg cs.toArray)) w:=by
 unfold execOp;simp only[i,k,Instr.loadAt,Instr.sureAddr,IF,IZ,IE,JE w b o c cs d e j f h]
theorem ko(b:op.guard=none)(v:Ra)(w':Q9)(d:(execOp a.eval op).run P w=.ok (.value v) w')(h:wpList P aB Q aA (a.put op.dst v) w'):wpList P aB Q (op::aA) a w:=by
 refine IG b λK c=>?_
 unfold Oper.wp;simp only[d];exact c _ _ h
theorem VD(b:op.guard=none)(v:Ra)(d:(execOp a.eval op).run P w=.ok (.value v) w)(h:wpList P aB Q aA (a.put op.dst v) w):wpList P aB Q (op::aA) a w:=by
 refine IG b λK c=>?_
 unfold Oper.wp;simp only[d];exact c _ _ h
theorem VC{o:Oper}{K:Act->Q9->Prop}{E:Prop}(d:o.guard=none)(c:TypeId)(x y:Operand)(i:o.op=.store c x y)(b k:Nat)(aA:Array Ra)(m:a.eval x=Dr b k)(p:a.eval y=.agg aA)(j:w.there b k aA.size)(f:(P.info? c).map (·.size)=some aA.size)(e:aA.all (·.oneCell')=true)
  (h:K (a.put o.dst undef) (w.setCells b k aA.toList)):if Region.wanted o (yielded aB a.tmps)=true then Oper.wp P o a w K Q else E:=by
 have l:Region.wanted o (yielded aB a.tmps)=true:=by simp[Region.wanted,d]
 rw[G l];exact wp_store_mid c x y i b k aA m p j f e h
theorem rJ{aA:Array Oper}{o:Oper}{K:Act->Q9->Prop}{E:Prop}(aB:o.guard=none)(c:TypeId)(x:Operand)(j:o.op=.load c x)(b k:Nat)(p:a.eval x=Dr b k)(cs:List Ra)(d:TypeDesc)(e:w.rangeAt b k cs)(l:P.underlying c=some d)(f:d.isRow=true)(i:(P.info? c).map (·.size)=some cs.length)
  (h:K (a.put o.dst (.agg cs.toArray)) w):if Region.wanted o (yielded aA a.tmps)=true then Oper.wp P o a w K Q else E:=by
 have m:Region.wanted o (yielded aA a.tmps)=true:=by simp[Region.wanted,aB]
 rw[G m];exact wp_load_mid c x j b k p cs d e l f i h
end
section
structure RI(W w:Q9)(c0 c1 c2 c3:Ra):Prop where
 size:W.heap.size+2<=w.heap.size
 bel:Q3 W w
 b0:w.cell? (Ki W.heap.size 0)=some c0
 b1:w.cell? (Ki W.heap.size 1)=some c1
 b2:w.cell? (Ki W.heap.size 2)=some c2
 b3:w.cell? (Ki W.heap.size 3)=some c3
section
variable {W w w':Q9} {c0 c1 c2 c3:Ra}
theorem RI.drew(h:RI W w c0 c1 c2 c3):RI W w.drew c0 c1 c2 c3:=⟨h.size,h.bel.drew,h.b0,h.b1,h.b2,h.b3⟩
theorem RI.past(h:RI W w c0 c1 c2 c3)(b:Below (W.heap.size+1) w w'):RI W w' c0 c1 c2 c3 :=have c:=h.size
 ⟨AJ c b.size,h.bel.E (b.J ω),(b.cell (p:=⟨_,0,none⟩) (by show W.heap.size<_;omega)).E h.b0,(b.cell (p:=⟨_,1,none⟩) (by show W.heap.size<_;omega)).E h.b1,
  (b.cell (p:=⟨_,2,none⟩) (by show W.heap.size<_;omega)).E h.b2,(b.cell (p:=⟨_,3,none⟩) (by show W.heap.size<_;omega)).E h.b3⟩
theorem RI.I(h:RI W w c0 c1 c2 c3)(b:Q3 w w'):RI W w' c0 c1 c2 c3:=h.past (b.J (by have:=h.size;omega))
theorem RI.wrote(h:RI W w c0 c1 c2 c3)(b:Wrote w w' (W.heap.size+1) o ys):RI W w' c0 c1 c2 c3:=h.past (b.I AA)
theorem RI.toS(h:RI W w c0 c1 c2 c3):w.cell? (Ki W.heap.size 0)=some c0/\w.cell? (Ki W.heap.size 1)=some c1/\w.cell? (Ki W.heap.size 2)=some c2/\w.cell? (Ki W.heap.size 3)=some c3/\RI W w c0 c1 c2 c3:=⟨h.b0,h.b1,h.b2,h.b3,h⟩
theorem RI.ofS(h:w.cell? (Ki W.heap.size 0)=some c0/\w.cell? (Ki W.heap.size 1)=some c1/\w.cell? (Ki W.heap.size 2)=some c2/\w.cell? (Ki W.heap.size 3)=some c3/\RI W w c0 c1 c2 c3):RI W w c0 c1 c2 c3:=h.2.2.2.2
end
theorem Pn{c:Code}(w:Q9)(e f k l:Ra)(m p:TypeId)
  (h:∀b,RI w b e f k l->Fm b (w.heap.size+1) [0,0,0,0,0]->c.wp P Q a b):c.wp P Q a ((w.alloc (.cells #[e,f,k,l] m)).alloc (.cells #[.int .u8 0,.int .u8 0,.int .u8 0,.int .u8 0,.int .u8 0] p)):=by
 refine h _ ⟨j,(LH _ _).alloc j _,j,j,j,j⟩ ⟨λi b=>?_,λi b=>?_⟩
 .rw[EI _ _ _ _ j]
  have aA:i<5:=b;have:i=0\/i=1\/i=2\/i=3\/i=4:=d
  rcases this with h|h|h|h|h<;>subst h<;>rfl
 rw[DU,DU]
 exact de _ _ _ d
theorem Jj(h f:Int){aA aB:List Int}(b:aA=RF [0,0,0,0,0] 0 (be 1 h))(c:aB=RF aA 1 (be 4 f)):strOfNums aB=ZY h f:=by
 have d:(be 1 h).length=1:=QN _ _;have e:(be 4 f).length=4:=QN _ _;unfold ZY;rw[<-WB];subst b c
 congr 1
theorem Qx(t h f l n:Int)(w:Q9)(aB:¬XX h f):Calls prog 273 #[OI t h f l,Z n] w λe w'=>e=Q2 (Ow empty)/\Q3 w w':=by
 have c:∀o,Q3 w (w.alloc o):=λo=>LH _ _
 unfold XX at aB
 by_cases b:0<=h/\h<=1
 .have aA:decide (0<=h/\h<=1)=true:=AM b
  have d:decide (1<=f/\f<=999999000)=false:=q
  clear aB b;go_enter func273,ntmps273
  go_wp2_with (first|(go_at_call 247;refine(nO _ _).J ?_;rw[aA];rintro e i ⟨rfl,rfl⟩)|(go_at_call 248;refine(sL _ _).J ?_;rw[d];rintro e j ⟨rfl,rfl⟩))
  go_ret;exact⟨z,c _⟩
 have aA:decide (0<=h/\h<=1)=false:=AH b
 clear aB b;go_enter func273,ntmps273
 go_wp2_with (first|(go_at_call 247;refine(nO _ _).J ?_;rw[aA];rintro e i ⟨rfl,rfl⟩))
 go_ret;exact⟨z,c _⟩
set_option maxRecDepth 4000 in
theorem M6(t h f l n:Int)(w:Q9)(U:XX h f):Calls prog 273 #[OI t h f l,Z n] w λe w'=>e=Q2 (Ow (NB 4 l t (ZY h f) n))/\Q3 w w':=by
 obtain⟨h1,h2,h3,h4⟩:=U;have W:decide (0<=h/\h<=1)=true:=q
 have X:decide (1<=f/\f<=999999000)=true:=q
 have u1:IntKind.u64.wrap h=h:=dj h d d;have u2:IntKind.u64.wrap f=f:=dj f d d;obtain⟨m,I⟩:=x (ZY h f);rw[<-I.j];go_enter func273,ntmps273
 go_wp2_with (first|(go_at_call 247;refine(nO _ _).J ?_;rw[W];rintro e w1 ⟨rfl,rfl⟩)|(go_at_call 248;refine(sL _ _).J ?_;rw[X];rintro e w2 ⟨rfl,rfl⟩))
 refine Pn w (Z t) (Z h) (Z f) (Z l) _ _ ?_;intro wa B aB;have J:=RP B.toS;clear B
 go_region_held3 (λw'=>w'.cell? (Ki w.heap.size 0)=some (Z t)/\w'.cell? (Ki w.heap.size 1)=some (Z h)/\w'.cell? (Ki w.heap.size 2)=some (Z f)/\w'.cell? (Ki w.heap.size 3)=some (Z l)/\RI w w' (Z t) (Z h) (Z f) (Z l))
  (first|assumption|exact(RI.ofS J.j).drew.toS|exact(RI.wrote (RI.ofS (by assumption)) (by assumption)).toS)
  (first|(go_at_call 280;refine(jp (w.heap.size+1) 0 1 5 h _ d d d (λi A=>⟨_,aB.drew.cell (0+i) q⟩) (λi A=>aB.drew.froz (0+i) q)).J ?_;rintro e wb ⟨rfl,M⟩))
 have C:RI w wb (Z t) (Z h) (Z f) (Z l):=RI.ofS (by assumption);have aA:=aB.drew.wrote M (by rw[QN];simp);obtain⟨E,u⟩:=x (RF [0,0,0,0,0] 0 (be 1 h));have c:E.length=5:=by rw[u.j,qk _ _ _ (by rw[QN];simp)];rfl
 rw[<-u.j]at aA;clear J M aB;go_wp2_with fail;have K:=RP C.toS;clear C
 go_region_held3 (λw'=>w'.cell? (Ki w.heap.size 0)=some (Z t)/\w'.cell? (Ki w.heap.size 1)=some (Z h)/\w'.cell? (Ki w.heap.size 2)=some (Z f)/\w'.cell? (Ki w.heap.size 3)=some (Z l)/\RI w w' (Z t) (Z h) (Z f) (Z l))
  (first|assumption|exact(RI.ofS K.j).drew.toS|exact(RI.wrote (RI.ofS (by assumption)) (by assumption)).toS)
  (first|(go_at_call 280;refine(jp (w.heap.size+1) 1 4 4 f _ d d d (λi A=>⟨_,aA.drew.cell (1+i) (by rw[c];omega)⟩) (λi A=>aA.drew.froz (1+i) (by rw[c];omega))).J ?_;rintro e wc ⟨rfl,O⟩))
 have D:RI w wc (Z t) (Z h) (Z f) (Z l):=RI.ofS (by assumption);have r:=aA.drew.wrote O (by rw[QN,c];omega);obtain⟨s,v⟩:=x (RF E 1 (be 4 f));have T:s.length=5:=by rw[v.j,qk _ _ _ (by rw[QN,c];omega),c]
 rw[<-v.j]at r;have y:strOfNums s=ZY h f:=Jj h f u.j v.j;rw[<-I.j]at y;have V:m.size<=1048576:=by rw[<-y,CY,T];omega
 have L:∀p,Fm p (w.heap.size+1) s->(convert 22 9 (Y (Hw (w.heap.size+1) 0) 5 5)).run prog p=.ok (Ow m) p:=λp z=>by
  have:=z.text (P:=prog) 22 5 9 underlying22 underlying5 underlying9 0 5 5 d;rw[FI,AS d,y]at this;exact this
 have G:=RP L;have H:=RP r;clear K O aA r L;go_wp2_with fail;have b:=RP D.toS;clear D;have R:w.heap.size+1<wc.heap.size:=by have:=(RI.ofS b.j).size;omega
 go_region_held3 (λw'=>(convert 22 9 (Y (Hw (w.heap.size+1) 0) 5 5)).run prog w'=.ok (Ow m) w'/\w'.cell? (Ki w.heap.size 0)=some (Z t)/\w'.cell? (Ki w.heap.size 3)=some (Z l)/\RI w w' (Z t) (Z h) (Z f) (Z l))
  (first|assumption|exact⟨G.j _ H.j.drew,(RI.ofS b.j).drew.b0,(RI.ofS b.j).drew.b3,(RI.ofS b.j).drew⟩|exact⟨G.j _ (H.j.drew.I k R),((RI.ofS b.j).drew.I k).b0,((RI.ofS b.j).drew.I k).b3,(RI.ofS b.j).drew.I k⟩)
  (first|(go_at_call 274;refine(ma 4 l t m n _ V).J ?_;rintro e w4 ⟨rfl,k⟩))
 rename_i j;have S:=j.2.2.2.bel;clear j;go_wp2;go_ret;exact⟨rfl,S⟩
theorem zI(t h f l n:Int)(w:Q9):Calls prog 273 #[OI t h f l,Z n] w λe w'=>e=Q2 (Ow (QE t h f l n))/\Q3 w w':=by
 unfold QE
 by_cases aA:XX h f
 .rw[G aA];exact M6 t h f l n w aA
 rw[A aA];exact Qx t h f l n w aA
end
theorem rU(w:Q9)(o:Obj):(w.alloc o).heap[w.heap.size]?=some o:=by
 show(w.heap.push o)[w.heap.size]?=some o;simp
theorem Mq(w:Q9)(C:Array Ra)(e:TypeId)(n i:Nat)(h:i<n):(w.alloc (.cells C e (n,n+1))).frozen? (Ki w.heap.size i)=false:=by
 simp only[World.frozen?,rU];simp;omega
theorem Js(w:Q9)(C:Array Ra)(e:TypeId)(b:Nat×Nat)(i:Nat):(w.alloc (.cells C e b)).cell? (Ki w.heap.size i)=C[i]?:=by
 simp only[World.cell?,rU];simp
theorem zN(w:Q9)(p:Q4):∃b c,(convert 9 22 (Ow p)).run prog w=.ok (Y (Hw w.heap.size 0) p.size b) c/\Q3 w c/\c.heap.size=w.heap.size+1/\Fm c w.heap.size (LF p)/\p.size<=b:=by
 refine⟨_,_,run_bytes_of_string w _ _ 5 p underlying9 underlying22 underlying5,((D).drew).alloc C _,j,⟨λi b=>?_,λi b=>?_⟩,JL _ _ _ _⟩
 .rw[NK]at b
  refine(Js w.drew _ _ _ i).E ?_;rw[bytesRow_at p _ i b];have c:i<p.data.toList.length:=b;simp only[AY,LF,FO,AO c];rfl
 rw[NK]at b
 exact Mq w.drew _ _ _ i (by unfold bytesRow;simp;omega)
