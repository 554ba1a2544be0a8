import Derived.Test.YtjdmogljfdffeaaGreatDoorPrOpS
import Derived.Test.YtjdmogljfdffeaaGreatDoorPrPfS
import Derived.Lib.AppendZeros
set_option maxHeartbeats 32000000
set_option maxRecDepth 8000
set_option linter.all false
namespace Go.Proofs.YtjdmogljfdffeaaGreatDoor
open _root_.ByteArray(empty)
open Tryz
open Go.RowKit
variable {cs:List Value}{B SB c k lo n:Nat}{a:Option Addr}{e:TypeId}{w:World}
def NH(e:Ev)(a:Option Addr)(c:Nat)(f:Option Addr)(d:Nat):Value:=.agg #[.int .i64 e.K,.slice a e.b.length c,.int .i64 e.cut,.slice f e.fs.length d]
structure Ev.le(e:Ev):Prop where
 b:e.b.length<=1048576/\∀x∈e.b,x.1.size<=1048576/\x.2.1.size<=1048576
 f:e.fs.length<=1048576
theorem oy{f:List Pr}{d:List OpT}{b:Option Addr}(h:OwnDn w f d a b)(m:∀g,blk a f.length=some g->lo<=g)(o:∀g,blk b d.length=some g->lo<=g):Dep w lo w.heap.size (λW=>OwnDn W f d a b) :=⟨h,Y _,λl i j=>⟨(PD h.s RA m).keep l i j,(PD h.p jr o).keep l i j,h.ne⟩⟩
def zp(w d:World)(r:Ending)(D:Dd)(u:Bool):Prop:=∃a c b e,r=.returned (.tuple #[MV D a c b e,.bool u])/\D.rs.length<=c/\OwnDn d D.rs D.ops a b/\(∀g,blk a D.rs.length=some g->w.heap.size<=g)/\(∀g,blk b D.ops.length=some g->w.heap.size<=g)/\Below w.heap.size w d
theorem ZB:(prog.info? 48).map (·.size)=some 12:=κ
theorem Ex(x:Wo)(q:Wp)(f:Option Addr)(r:List Int)(d:Nat)(F:Nat->Prop)(w:World)(h:WoF x w F q)(u:x.le 1048576)(E:Ints w f r)(L:r.length<=1048576):Calls prog 123 #[LO x q,.slice f r.length d] w λe b=>kc w b F e (x.pow r):=by
 have t:=Z (λb j g k3=>WN q.a x.ss q.c q.a' x.ws q.c' f r d b j g k3 L u.l1 u.l2 u.s1 u.s2);obtain⟨i,v⟩:∃i,Hid (i=MC r x.ss x.ws):=⟨_,Z rfl⟩;rw[<-v.l]at t;unfold LE at t;have A:=Z E;clear E;unfold LO;go_enter func123,ntmps123;go_upto_region 1 with fail;generalize b:w.alloc _=M;obtain⟨l,s,y⟩:=LF b;clear b;generalize b:M.alloc _=H;obtain⟨m,C,o⟩:=LF b;clear b;rw[s]at o;have p:=l.j (m.A l.size);have hF:=(h.A (G:=λb=>(F b/\b<w.heap.size)\/w.heap.size+2<=b) (λb g k=>.inl ⟨k,g⟩)).z p;have g:=(y.z m).q;have z:=o.q;have G:w.heap.size+2<=H.heap.size:=ω
 clear l m y o s C h;have l:=g.y 1;have m:=g.y 2;have s:=g.lt;go_wp2_with fail;clear l m s;refine(t.l _ hF.h1.q hF.h2.q (A.l.z p)).A ?_;rintro N I ⟨l,j,m,o,rfl,D,C,s⟩
 have y:DepF I (λb=>(F b/\b<w.heap.size)\/w.heap.size+2<=b) (λW=>Strs W l i):=(QK (PD (lo:=H.heap.size) D VU C) (λb k _=>.inr ω)).map λW k=>k.strs
 replace hF:=hF.z s;replace g:=g.z s;replace z:=z.z s;replace p:=p.j (s.A p.size);clear D C s t A G;have D:=g.y 1;have G:=g.y 2;have K:=g.y 3;have t:=g.E 1;have A:=g.E 2;have C:=g.E 3;have s:=g.lt;go_upto_region 3 with fail;clear D t G A K C;refine BG ?_;refine UB rfl (.agg (sK 0 0 0 0 0 0 0 0 0 (.slice none 0 0))) γ ?_;simp only[J];refine ic rfl _ _ _ rfl (.pointer (some ⟨w.heap.size,4,none⟩)) γ ?_;simp only[J];have G:=OG (OG (OG (BO I (some w.heap.size)) 1 (.slice l i.length j)) 2 (.slice m 0 o)) 3 (.bool false);have R:=((g.set 1 σ (.slice l i.length j)).set 2 σ (.slice m 0 o)).set 3 σ (.bool false);generalize t:World.setCell (World.setCell (World.setCell _ _ _) _ _) _ _=A at G R⊢;clear t s;have s:Row A w.heap.size [.int .i64 x.w,.slice l i.length j,.slice m 0 o,.bool false,.int .i64 x.W,.int .i64 x.S,.int .i64 x.L,.int .i64 x.T,.int .i64 x.H,.int .i64 x.F,.int .i64 x.R,.int .i64 x.U,.int .i64 x.O,.slice q.s x.rs.length q.cs,.slice q.p x.P.length q.cp,.slice q.t x.ts.length q.ct]:=R
 clear R;refine BI rfl 33 _ _ rfl w.heap.size 4 (sK 0 0 0 0 0 0 0 0 0 (.slice none 0 0)) rfl rfl (Row.thereMid (pre:=[.int .i64 x.w,.slice l i.length j,.slice m 0 o,.bool false]) (cs:=(sJ x.W x.S x.L x.T x.H x.F x.R x.U x.O (.slice q.s x.rs.length q.cs))) (post:=[.slice q.p x.P.length q.cp,.slice q.t x.ts.length q.ct]) s rfl) ZH κ ?_
 try simp only[J]
 replace G:=OS G (OQ A w.heap.size 4 (sJ 0 0 0 0 0 0 0 0 0 (.slice none 0 0)));have t:Row _ w.heap.size [.int .i64 x.w,.slice l i.length j,.slice m 0 o,.bool false,.int .i64 0,.int .i64 0,.int .i64 0,.int .i64 0,.int .i64 0,.int .i64 0,.int .i64 0,.int .i64 0,.int .i64 0,.slice none 0 0,.slice q.p x.P.length q.cp,.slice q.t x.ts.length q.ct]:=Row.setsMid (pre:=[.int .i64 x.w,.slice l i.length j,.slice m 0 o,.bool false]) (cs:=(sJ x.W x.S x.L x.T x.H x.F x.R x.U x.O (.slice q.s x.rs.length q.cs))) (post:=[.slice q.p x.P.length q.cp,.slice q.t x.ts.length q.ct]) s (sJ 0 0 0 0 0 0 0 0 0 (.slice none 0 0)) rfl;generalize C:A.setCells _ _ _=K at G t⊢;clear C s g;go_upto_region 4 with fail;refine BG ?_;refine AS rfl 36 _ rfl w.heap.size 0 rfl _ _ t.range underlying36 rfl LX ?_;simp only[J];have g:=z.I G (λe=>by injection e with e;omega);refine BI rfl 36 _ _ rfl (w.heap.size+1) 0 #[.int .i64 x.w,.slice l i.length j,.slice m 0 o,.bool false,.int .i64 0,.int .i64 0,.int .i64 0,.int .i64 0,.int .i64 0,.int .i64 0,.int .i64 0,.int .i64 0,.int .i64 0,.slice none 0 0,.slice q.p x.P.length q.cp,.slice q.t x.ts.length q.ct] rfl rfl (g.there rfl) LX κ ?_
 try simp only[J]
 have s:=OQ K (w.heap.size+1) 0 [.int .i64 x.w,.slice l i.length j,.slice m 0 o,.bool false,.int .i64 0,.int .i64 0,.int .i64 0,.int .i64 0,.int .i64 0,.int .i64 0,.int .i64 0,.int .i64 0,.int .i64 0,.slice none 0 0,.slice q.p x.P.length q.cp,.slice q.t x.ts.length q.ct];have C:=g.sets [.int .i64 x.w,.slice l i.length j,.slice m 0 o,.bool false,.int .i64 0,.int .i64 0,.int .i64 0,.int .i64 0,.int .i64 0,.int .i64 0,.int .i64 0,.int .i64 0,.int .i64 0,.slice none 0 0,.slice q.p x.P.length q.cp,.slice q.t x.ts.length q.ct] rfl;generalize D:K.setCells _ _ _=O at s C⊢;clear D t g
 try go_wp2
 have t:¬((F w.heap.size/\w.heap.size<w.heap.size)\/w.heap.size+2<=w.heap.size):=ω
 have D:¬((F (w.heap.size+1)/\w.heap.size+1<w.heap.size)\/w.heap.size+2<=w.heap.size+1):=ω
 replace hF:=(hF.I G (λg e=>by cases e;exact t)).I s (λg e=>by cases e;exact D);replace y:=(y.I G (λg e=>by cases e;exact t)).I s (λg e=>by cases e;exact D);refine VP 4 36 results123 _ rfl [.int .i64 x.w,.slice l i.length j,.slice m 0 o,.bool false,.int .i64 0,.int .i64 0,.int .i64 0,.int .i64 0,.int .i64 0,.int .i64 0,.int .i64 0,.int .i64 0,.int .i64 0,.slice none 0 0,.slice q.p x.P.length q.cp,.slice q.t x.ts.length q.ct] _ C underlying36 rfl LX rfl ⟨⟨l,j,m,o,none,0,q.p,q.cp,q.t,q.ct⟩,?_,WoF.A (F:=λb=>(F b/\b<w.heap.size)\/w.heap.size+2<=b) ⟨?_,SK (λW=>.inl rfl),SK (λW=>.inl rfl),hF.h4,hF.h5⟩ (λb _ k=>by rcases k with k|k;exact .inl k.1;exact .inr ω),?_⟩
 ·unfold LO Wo.pow
  rw[<-v.l];rfl
 ·unfold Wo.pow
  rw[<-v.l];exact y
 exact(p.j (MR G p.size (λx e=>by have e:=CZ e;omega))).j (MR s (by have:=p.size;have:=G.size;omega) (λx e=>by have e:=CZ e;omega))
theorem th{v f:World}{D:Dd}{b:Option Addr}{e:Nat}{X:Nat}{vs:List Value}(q:w.heap.size<=X/\X<v.heap.size)(h:Below w.heap.size w v)(p:TR v f (.returned (MV D a c b e)) D)(m:D.rs.length<=c)(o:OwnDn f D.rs D.ops a b)(i:∀g,blk a D.rs.length=some g->v.heap.size<=g)(j:∀g,blk b D.ops.length=some g->v.heap.size<=g)(l:Below v.heap.size v f)(u:Bool):zp w (f.setCells X 0 vs) (.returned (.tuple #[MV D a c b e,.bool u])) D u:=by
 have G:=OQ f X 0 vs;have d:=(QK (F:=λb=>v.heap.size<=b) (oy o i j) (λb k _=>k)).I G (λg e=>by cases e;omega);have:=h.size;exact⟨a,c,b,e,rfl,m,d.q,λg k=>by have:=i g k;omega,λg k=>by have:=j g k;omega,(h.j (l.A h.size)).j (MR G (AL h.size l.size) (λx e=>by have e:=CZ e;omega))⟩
theorem xU(x:Wo)(q:Wp)(e:Ev)(a:Option Addr)(c:Nat)(f:Option Addr)(d:Nat)(w:World)(h:x.at w q)(M:x.le 1048576)(h2:Chs w a e.b)(he:e.le):Calls prog 124 #[LO x q,NH e a c f d] w λr o=>zp w o r (x.call e).1 (x.call e).2:=by
 have CO:=Z (λo z A=>Dr q.a x.ss q.c q.a' x.ws q.c' x.w o z A M.l1 M.l2 M.s1 M.s2);have CC:=Z (λo z A=>vj x.W x.S x.L x.T x.H x.F x.R x.U x.O q.s x.rs q.cs a e.b c o z M.l3 M.s3 A he.b.1 he.b.2);have CF:=Z (λo z=>Fh x.W x.S x.L x.T x.H x.F x.R x.U x.O q.s x.rs q.cs o z M.l3 M.s3);have CM:=Z (λo z=>UW x.W x.S x.L x.T x.H x.F x.R x.U x.O q.s x.rs q.cs o z M.l3 M.s3);unfold LE at CO;unfold MM at CC CF CM;obtain⟨⟨D,u⟩,K⟩:∃y,Hid (y=x.call e):=⟨_,Z rfl⟩;rw[<-K.l];have HH:=Z h;have aT:=Z h2;clear h h2;unfold LO NH;go_enter func124,ntmps124;go_upto_region 1 with fail;generalize b:w.alloc _=v1;obtain⟨j,s,t⟩:=LF b;clear b;generalize g:v1.alloc _=v2;obtain⟨b,i,l⟩:=LF g;clear g;generalize r:v2.alloc _=m;obtain⟨g,v,p⟩:=LF r;clear r;rw[s]at l i;rw[i]at p;have L:=j.j ((b.j (g.A b.size)).A j.size)
 have U:Row m w.heap.size (wL x q):=((t.z b).z g).q;have N:Row m (w.heap.size+1) [.int .i64 e.K,.slice a e.b.length c,.int .i64 e.cut,.slice f e.fs.length d]:=(l.z g).q;have r4:=p.q;clear j b g t l p s i v;have c0:=N.y 0;have cl:=N.lt
 by_cases z:e.K=1
 ·have b:(D,u)=(OM x.ss x.ws x.w,!x.up):=by rw[K.l];unfold Wo.call;rw[AF z]
  obtain⟨r,rfl⟩:=IY b;rw[<-r]at CO;have kb:(e.K == 1)=true:=by simp[z]
  clear b r K z;go_upto_region 3 with fail;clear c0 cl;have I:=(AC m.heap.size m).drew;refine AN (S:=λo=>Row o w.heap.size (wL x q)/\Row o (w.heap.size+1) [.int .i64 e.K,.slice a e.b.length c,.int .i64 e.cut,.slice f e.fs.length d]) κ (⟨U.z I,N.z I⟩) (λj=>?_);refine TK 0 (.pointer (some ⟨w.heap.size,1,none⟩)) rfl (BW ⟨ρ,λw g=>by obtain⟨i,p⟩:=g;have l:=i.lt;go_simp⟩) j (TK 1 (.agg #[.slice q.a x.ss.length q.c,.slice q.a' x.ws.length q.c']) rfl (BW ⟨ρ,λw g=>by obtain⟨i,p⟩:=g;have c:=i.y 1;have d:=i.y 2;have l:=i.lt;go_simp⟩) j (TK 2 (.pointer (some ⟨w.heap.size,0,none⟩)) rfl (BW ⟨ρ,λw g=>by obtain⟨i,p⟩:=g;have l:=i.lt;go_simp⟩) j (TK 3 (.int .i64 x.w) rfl (BW ⟨ρ,λw g=>by obtain⟨i,p⟩:=g;have c:=i.y 0;go_simp⟩) j (TK 5 (.pointer (some ⟨w.heap.size,3,none⟩)) rfl (BW ⟨ρ,λw g=>by obtain⟨i,p⟩:=g;have l:=i.lt;go_simp⟩) j (TK 6 (.bool x.up) rfl (BW ⟨ρ,λw g=>by obtain⟨i,p⟩:=g;have c:=i.y 3;go_simp⟩) j (V 7 (.bool (!x.up)) rfl j ?_))))))
  simp only[J];refine RD 4 rfl (λKq C=>?_);obtain⟨yb,r⟩:∃y,y=m.drew:=⟨_,rfl⟩;rw[<-r];have b:Below m.heap.size m yb:=by rw[r];exact(AC _ _).drew
  have E:=L.j (b.A L.size);have F:=r4.z b;have O:=U.z b;have P:=N.z b;clear r b;refine LC ρ 157 #[.agg #[.slice q.a x.ss.length q.c,.slice q.a' x.ws.length q.c'],.int .i64 x.w] γ (CO.l _ (HH.l.z E).h1 (HH.l.z E).h2) ?_;rintro r5 W ⟨r,t,s,v,rfl,R,own,S,T,b⟩;refine⟨_,rfl,?_⟩;refine C.l _ _ (⟨O.z b,P.z b⟩) (λaL=>?_)
  try simp only[J]
  refine RD 8 rfl (λKq C=>?_);refine SU rfl 48 _ _ rfl (w.heap.size+1+1) 0 (dK D.C D.W D.S D.L D.T D.H D.F D.R D.U D.O (.slice r D.rs.length t) (.slice s D.ops.length v)) rfl rfl ((F.z b).there rfl) ZB κ ?_;have G:=OQ W (w.heap.size+1+1) 0 (dJ D.C D.W D.S D.L D.T D.H D.F D.R D.U D.O (.slice r D.rs.length t) (.slice s D.ops.length v));have H:=(F.z b).sets (dJ D.C D.W D.S D.L D.T D.H D.F D.R D.U D.O (.slice r D.rs.length t) (.slice s D.ops.length v)) rfl;refine C.l _ _ (⟨(O.z b).I G (λe=>by injection e with e;omega),(P.z b).I G (λe=>by injection e with e;omega)⟩) (λaF=>?_)
  try simp only[J]
  refine V 9 (.bool (!x.up)) rfl aF ?_;simp only[J];refine DN ?_;have Q:=Z (th (X:=w.heap.size+1+1) (vs:=(dJ D.C D.W D.S D.L D.T D.H D.F D.R D.U D.O (.slice r D.rs.length t) (.slice s D.ops.length v))) ⟨ω,F.lt⟩ E ⟨r,t,s,v,rfl,R,own,S,T,b⟩ R own S T b (!x.up));generalize X:W.setCells _ _ _=y6 at H Q⊢;clear X
  try go_wp2
  exact ib 4 5 48 results124 _ rfl _ rfl (dJ D.C D.W D.S D.L D.T D.H D.F D.R D.U D.O (.slice r D.rs.length t) (.slice s D.ops.length v)) _ H underlying48 rfl ZB rfl Q.l
 by_cases A:e.K=2
 ·have b:(D,u)=(NR x.W x.S x.L x.T x.H x.F x.R x.U x.O x.rs e.b,x.up):=by rw[K.l];unfold Wo.call;rw[AG z];rw[AF A]
  obtain⟨r,rfl⟩:=IY b;rw[<-r]at CC;have kb:(e.K == 2)=true:=by simp[A]
  have aQ:(e.K == 1)=false:=by simp[z]
  clear b r K A;go_upto_region 5 with fail;clear c0 cl;have I:=(AC m.heap.size m).drew;refine AN (S:=λo=>Row o w.heap.size (wL x q)/\Row o (w.heap.size+1) [.int .i64 e.K,.slice a e.b.length c,.int .i64 e.cut,.slice f e.fs.length d]) κ (⟨U.z I,N.z I⟩) (λj=>?_);refine TK 0 (.pointer (some ⟨w.heap.size,4,none⟩)) rfl (BW ⟨ρ,λw g=>by obtain⟨i,p⟩:=g;have l:=i.lt;go_simp⟩) j (TK 1 (.agg (sK x.W x.S x.L x.T x.H x.F x.R x.U x.O (.slice q.s x.rs.length q.cs))) rfl (BW ⟨ρ,λw g=>by obtain⟨i,p⟩:=g;exact RK 33 _ rfl _ 4 rfl (sJ x.W x.S x.L x.T x.H x.F x.R x.U x.O (.slice q.s x.rs.length q.cs)) _ (Row.rangeMid (pre:=[.int .i64 x.w,.slice q.a x.ss.length q.c,.slice q.a' x.ws.length q.c',.bool x.up]) (cs:=(sJ x.W x.S x.L x.T x.H x.F x.R x.U x.O (.slice q.s x.rs.length q.cs))) (post:=[.slice q.p x.P.length q.cp,.slice q.t x.ts.length q.ct]) i) underlying33 rfl ZH⟩) j (TK 2 (.pointer (some ⟨w.heap.size+1,1,none⟩)) rfl (BW ⟨ρ,λw g=>by obtain⟨i,p⟩:=g;have l:=p.lt;go_simp⟩) j (TK 3 (.slice a e.b.length c) rfl (BW ⟨ρ,λw g=>by obtain⟨i,p⟩:=g;have c:=p.y 1;go_simp⟩) j (TK 5 (.pointer (some ⟨w.heap.size,3,none⟩)) rfl (BW ⟨ρ,λw g=>by obtain⟨i,p⟩:=g;have l:=i.lt;go_simp⟩) j (TK 6 (.bool x.up) rfl (BW ⟨ρ,λw g=>by obtain⟨i,p⟩:=g;have c:=i.y 3;go_simp⟩) j ?_)))))
  simp only[J];refine RD 4 rfl (λKq C=>?_);obtain⟨yb,r⟩:∃y,y=m.drew:=⟨_,rfl⟩;rw[<-r];have b:Below m.heap.size m yb:=by rw[r];exact(AC _ _).drew
  have E:=L.j (b.A L.size);have F:=r4.z b;have O:=U.z b;have P:=N.z b;clear r b;refine LC ρ 6 #[.agg (sK x.W x.S x.L x.T x.H x.F x.R x.U x.O (.slice q.s x.rs.length q.cs)),.slice a e.b.length c] γ (CC.l _ (HH.l.z E).h3 (aT.l.z E)) ?_;rintro r5 W ⟨r,t,s,v,rfl,R,own,S,T,b⟩;refine⟨_,rfl,?_⟩;refine C.l _ _ (⟨O.z b,P.z b⟩) (λaL=>?_)
  try simp only[J]
  refine RD 7 rfl (λKq C=>?_);refine SU rfl 48 _ _ rfl (w.heap.size+1+1) 0 (dK D.C D.W D.S D.L D.T D.H D.F D.R D.U D.O (.slice r D.rs.length t) (.slice s D.ops.length v)) rfl rfl ((F.z b).there rfl) ZB κ ?_;have G:=OQ W (w.heap.size+1+1) 0 (dJ D.C D.W D.S D.L D.T D.H D.F D.R D.U D.O (.slice r D.rs.length t) (.slice s D.ops.length v));have H:=(F.z b).sets (dJ D.C D.W D.S D.L D.T D.H D.F D.R D.U D.O (.slice r D.rs.length t) (.slice s D.ops.length v)) rfl;refine C.l _ _ (⟨(O.z b).I G (λe=>by injection e with e;omega),(P.z b).I G (λe=>by injection e with e;omega)⟩) (λaF=>?_)
  try simp only[J]
  refine V 8 (.bool (x.up)) rfl aF ?_;simp only[J];refine DN ?_;have Q:=Z (th (X:=w.heap.size+1+1) (vs:=(dJ D.C D.W D.S D.L D.T D.H D.F D.R D.U D.O (.slice r D.rs.length t) (.slice s D.ops.length v))) ⟨ω,F.lt⟩ E ⟨r,t,s,v,rfl,R,own,S,T,b⟩ R own S T b (x.up));generalize X:W.setCells _ _ _=y6 at H Q⊢;clear X
  try go_wp2
  exact ib 4 5 48 results124 _ rfl _ rfl (dJ D.C D.W D.S D.L D.T D.H D.F D.R D.U D.O (.slice r D.rs.length t) (.slice s D.ops.length v)) _ H underlying48 rfl ZB rfl Q.l
 by_cases k3:e.K=3
 focus
  have b:(D,u)=(QG x.W x.S x.L x.T x.H x.F x.R x.U x.O x.rs,x.up):=by rw[K.l];unfold Wo.call;rw[AG z];rw[AG A];rw[AF k3]
  obtain⟨r,rfl⟩:=IY b;rw[<-r]at CF;have kb:(e.K == 3)=true:=by simp[k3]
  have aQ:(e.K == 1)=false:=by simp[z]
  have aS:(e.K == 2)=false:=by simp[A]
  clear b r K k3;go_upto_region 7 with fail;clear c0 cl;have I:=(AC m.heap.size m).drew;refine AN (S:=λo=>Row o w.heap.size (wL x q)/\Row o (w.heap.size+1) [.int .i64 e.K,.slice a e.b.length c,.int .i64 e.cut,.slice f e.fs.length d]) κ (⟨U.z I,N.z I⟩) (λj=>?_);refine TK 0 (.pointer (some ⟨w.heap.size,4,none⟩)) rfl (BW ⟨ρ,λw g=>by obtain⟨i,p⟩:=g;have l:=i.lt;go_simp⟩) j (TK 1 (.agg (sK x.W x.S x.L x.T x.H x.F x.R x.U x.O (.slice q.s x.rs.length q.cs))) rfl (BW ⟨ρ,λw g=>by obtain⟨i,p⟩:=g;exact RK 33 _ rfl _ 4 rfl (sJ x.W x.S x.L x.T x.H x.F x.R x.U x.O (.slice q.s x.rs.length q.cs)) _ (Row.rangeMid (pre:=[.int .i64 x.w,.slice q.a x.ss.length q.c,.slice q.a' x.ws.length q.c',.bool x.up]) (cs:=(sJ x.W x.S x.L x.T x.H x.F x.R x.U x.O (.slice q.s x.rs.length q.cs))) (post:=[.slice q.p x.P.length q.cp,.slice q.t x.ts.length q.ct]) i) underlying33 rfl ZH⟩) j (TK 3 (.pointer (some ⟨w.heap.size,3,none⟩)) rfl (BW ⟨ρ,λw g=>by obtain⟨i,p⟩:=g;have l:=i.lt;go_simp⟩) j (TK 4 (.bool x.up) rfl (BW ⟨ρ,λw g=>by obtain⟨i,p⟩:=g;have c:=i.y 3;go_simp⟩) j ?_)))
  simp only[J];refine RD 2 rfl (λKq C=>?_);obtain⟨yb,r⟩:∃y,y=m.drew:=⟨_,rfl⟩;rw[<-r];have b:Below m.heap.size m yb:=by rw[r];exact(AC _ _).drew
  have E:=L.j (b.A L.size);have F:=r4.z b;have O:=U.z b;have P:=N.z b;clear r b;refine LC ρ 158 #[.agg (sK x.W x.S x.L x.T x.H x.F x.R x.U x.O (.slice q.s x.rs.length q.cs))] γ (CF.l _ (HH.l.z E).h3) ?_
 rotate_left
 by_cases k4:e.K=4
 focus
  have b:(D,u)=(PZ x.W x.S x.L x.T x.H x.F x.R x.U x.O x.rs,x.up):=by rw[K.l];unfold Wo.call;rw[AG z];rw[AG A];rw[AG k3];rw[AF k4]
  obtain⟨r,rfl⟩:=IY b;rw[<-r]at CM;have kb:(e.K == 4)=true:=by simp[k4]
  have aQ:(e.K == 1)=false:=by simp[z]
  have aS:(e.K == 2)=false:=by simp[A]
  have aU:(e.K == 3)=false:=by simp[k3]
  clear b r K k4;go_upto_region 9 with fail;clear c0 cl;have I:=(AC m.heap.size m).drew;refine AN (S:=λo=>Row o w.heap.size (wL x q)/\Row o (w.heap.size+1) [.int .i64 e.K,.slice a e.b.length c,.int .i64 e.cut,.slice f e.fs.length d]) κ (⟨U.z I,N.z I⟩) (λj=>?_);refine TK 0 (.pointer (some ⟨w.heap.size,4,none⟩)) rfl (BW ⟨ρ,λw g=>by obtain⟨i,p⟩:=g;have l:=i.lt;go_simp⟩) j (TK 1 (.agg (sK x.W x.S x.L x.T x.H x.F x.R x.U x.O (.slice q.s x.rs.length q.cs))) rfl (BW ⟨ρ,λw g=>by obtain⟨i,p⟩:=g;exact RK 33 _ rfl _ 4 rfl (sJ x.W x.S x.L x.T x.H x.F x.R x.U x.O (.slice q.s x.rs.length q.cs)) _ (Row.rangeMid (pre:=[.int .i64 x.w,.slice q.a x.ss.length q.c,.slice q.a' x.ws.length q.c',.bool x.up]) (cs:=(sJ x.W x.S x.L x.T x.H x.F x.R x.U x.O (.slice q.s x.rs.length q.cs))) (post:=[.slice q.p x.P.length q.cp,.slice q.t x.ts.length q.ct]) i) underlying33 rfl ZH⟩) j (TK 3 (.pointer (some ⟨w.heap.size,3,none⟩)) rfl (BW ⟨ρ,λw g=>by obtain⟨i,p⟩:=g;have l:=i.lt;go_simp⟩) j (TK 4 (.bool x.up) rfl (BW ⟨ρ,λw g=>by obtain⟨i,p⟩:=g;have c:=i.y 3;go_simp⟩) j ?_)))
  simp only[J];refine RD 2 rfl (λKq C=>?_);obtain⟨yb,r⟩:∃y,y=m.drew:=⟨_,rfl⟩;rw[<-r];have b:Below m.heap.size m yb:=by rw[r];exact(AC _ _).drew
  have E:=L.j (b.A L.size);have F:=r4.z b;have O:=U.z b;have P:=N.z b;clear r b;refine LC ρ 159 #[.agg (sK x.W x.S x.L x.T x.H x.F x.R x.U x.O (.slice q.s x.rs.length q.cs))] γ (CM.l _ (HH.l.z E).h3) ?_
 rotate_left
 obtain⟨rfl,rfl⟩:=IY (show(D,u)=(LD 0,false) by rw[K.l];unfold Wo.call;rw[AG z,AG A,AG k3,AG k4]);have aQ:(e.K == 1)=false:=by simp[z]
 have aS:(e.K == 2)=false:=by simp[A]
 have aU:(e.K == 3)=false:=by simp[k3]
 have o:(e.K == 4)=false:=by simp[k4]
 go_upto_region 10 with fail;refine BG ?_;refine UB rfl (.agg (dK 0 0 0 0 0 0 0 0 0 0 (.slice none 0 0) (.slice none 0 0))) γ ?_;simp only[J];refine BI rfl 48 _ _ rfl (w.heap.size+1+1) 0 (dK 0 0 0 0 0 0 0 0 0 0 (.slice none 0 0) (.slice none 0 0)) rfl rfl (r4.there rfl) ZB κ ?_
 try simp only[J]
 have G:=OQ m (w.heap.size+1+1) 0 (dJ 0 0 0 0 0 0 0 0 0 0 (.slice none 0 0) (.slice none 0 0));have H:=r4.sets (dJ 0 0 0 0 0 0 0 0 0 0 (.slice none 0 0) (.slice none 0 0)) rfl;generalize X:m.setCells _ _ _=y6 at G H⊢;clear X
 try go_wp2
 exact ib 4 5 48 results124 _ rfl _ rfl (dJ 0 0 0 0 0 0 0 0 0 0 (.slice none 0 0) (.slice none 0 0)) _ H underlying48 rfl ZB rfl ⟨none,0,none,0,rfl,Y _,⟨.inl rfl,.inl rfl,.inl rfl⟩,λg k=>(by cases k),λg k=>(by cases k),L.j (MR G L.size (λx e=>by have e:=CZ e;omega))⟩
 all_goals
  rintro r5 W ⟨r,t,s,v,rfl,R,own,S,T,b⟩;refine⟨_,rfl,?_⟩;refine C.l _ _ (⟨O.z b,P.z b⟩) (λaL=>?_)
  try simp only[J]
  refine RD 5 rfl (λKq C=>?_);refine SU rfl 48 _ _ rfl (w.heap.size+1+1) 0 (dK D.C D.W D.S D.L D.T D.H D.F D.R D.U D.O (.slice r D.rs.length t) (.slice s D.ops.length v)) rfl rfl ((F.z b).there rfl) ZB κ ?_;have G:=OQ W (w.heap.size+1+1) 0 (dJ D.C D.W D.S D.L D.T D.H D.F D.R D.U D.O (.slice r D.rs.length t) (.slice s D.ops.length v));have H:=(F.z b).sets (dJ D.C D.W D.S D.L D.T D.H D.F D.R D.U D.O (.slice r D.rs.length t) (.slice s D.ops.length v)) rfl;refine C.l _ _ (⟨(O.z b).I G (λe=>by injection e with e;omega),(P.z b).I G (λe=>by injection e with e;omega)⟩) (λaF=>?_)
  try simp only[J]
  refine V 6 (.bool (x.up)) rfl aF ?_;simp only[J];refine DN ?_;have Q:=Z (th (X:=w.heap.size+1+1) (vs:=(dJ D.C D.W D.S D.L D.T D.H D.F D.R D.U D.O (.slice r D.rs.length t) (.slice s D.ops.length v))) ⟨ω,F.lt⟩ E ⟨r,t,s,v,rfl,R,own,S,T,b⟩ R own S T b (x.up));generalize X:W.setCells _ _ _=y6 at H Q⊢;clear X
  try go_wp2
  exact ib 4 5 48 results124 _ rfl _ rfl (dJ D.C D.W D.S D.L D.T D.H D.F D.R D.U D.O (.slice r D.rs.length t) (.slice s D.ops.length v)) _ H underlying48 rfl ZB rfl Q.l
theorem ef:(prog.info? 9).map (λi=>(i.zero,i.size,i.bytes))=some (some (.string empty),1,16):=κ
theorem mw:(prog.info? 31).map (λi=>(i.zero,i.size,i.bytes))=some (some (.agg #[.slice none 0 0]),1,24):=κ
theorem XK{P:Program}{z:Value}{b d:Nat}(h:(P.info? e).map (λi=>(i.zero,i.size,i.bytes))=some (some z,b,d)):∃i,P.info? e=some i/\i.zero=some z/\i.size=b/\i.bytes=d:=by
 obtain⟨i,g,f⟩:=EM.1 h;simp only[EG]at f;exact⟨i,g,f⟩
theorem qS(b:List OpT)(j:Nat)(h:j<b.length):MK (b.take (j+1))=MK (b.take j)++(if (b.getD j (false,0,empty)).1=true then [] else [(b.getD j (false,0,empty)).2.2]):=by
 rw[AX h,oX];simp[List.getD,h]
theorem ZA{x:Wo}{e:Ev}{D:Dd}{u:Bool}(b:¬e.K=5)(d:x.call e=(D,u))(h:u=false\/D.C≠0):x.doE e=x:=by unfold Wo.doE;rw[AG b,d,AF h]
theorem ux{x:Wo}{e:Ev}{D:Dd}(d:¬e.K=5)(f:x.call e=(D,true))(b:D.C=0)(h:2000<(PU x e D).length\/200<(NW x e D).length):x.doE e=x:=by unfold Wo.doE;rw[AG d,f,AG (by simp[b]),AF h]
theorem xt{x:Wo}{e:Ev}{D:Dd}(d:¬e.K=5)(g:x.call e=(D,true))(b:D.C=0)(h:¬(2000<(PU x e D).length\/200<(NW x e D).length))(f:QP e D=true):x.doE e=(x.ran e D).pow e.fs:=by unfold Wo.doE;rw[AG d,g,AG (by simp[b]),AG h,AF f]
theorem uR{x:Wo}{e:Ev}{D:Dd}(f:¬e.K=5)(i:x.call e=(D,true))(b:D.C=0)(h:¬(2000<(PU x e D).length\/200<(NW x e D).length))(g:QP e D=false)(d:e.K=2):x.doE e=(x.ran e D).upS D:=by unfold Wo.doE;rw[AG f,i,AG (by simp[b]),AG h,AG (by simp[g]),AF d]
theorem tM{x:Wo}{e:Ev}{D:Dd}(f:¬e.K=5)(i:x.call e=(D,true))(b:D.C=0)(h:¬(2000<(PU x e D).length\/200<(NW x e D).length))(g:QP e D=false)(d:¬e.K=2):x.doE e={ (x.ran e D).upS D with P:=[D.rs] }:=by unfold Wo.doE;rw[AG f,i,AG (by simp[b]),AG h,AG (by simp[g]),AG d]
theorem xY(b:Option Addr)(n f:Nat)(d:Int)(w:World)(j:n<=f)(l:n<=1000):Calls prog 98 #[.slice b n f,.int .i64 d] w λr g=>r=.returned (.tuple #[.slice b (if 0<=d/\d<=n then d.toNat else n) f,.bool (decide (0<=d/\d<=n))])/\g=w:=by
 go_enter func98,ntmps98
 by_cases g:0<=d
 ·by_cases i:d<=(n:Int)
  ·obtain⟨m,rfl⟩:∃m:Nat,d=(m:Int):=⟨d.toNat,ω⟩
   have k3:m<=f:=ω
   rw[AF ⟨g,i⟩,AM ⟨g,i⟩];go_wp2;exact AI (v:=.tuple #[.slice b m f,.bool true]) (by simp[results,results98,go_sem]) rfl ⟨rfl,rfl⟩
  rw[AG (λh=>i h.2),AJ (λh=>i h.2)]
  go_wp2;exact AI (v:=.tuple #[.slice b n f,.bool false]) (by simp[results,results98,go_sem]) rfl ⟨rfl,rfl⟩
 rw[AG (λh=>g h.1),AJ (λh=>g h.1)]
 go_wp2;exact AI (v:=.tuple #[.slice b n f,.bool false]) (by simp[results,results98,go_sem]) rfl ⟨rfl,rfl⟩
theorem Gm{P:Program}(t m e:TypeId)(i:TypeInfo)(b:Nat)(l:P.underlying t=some (.slice e))(h:P.info? e=some i)(o:i.size=b)(B n:Nat)(v:Value)(q:List Value)(own:w.ownsRow B e b v n q)(x:Value)(d:Src P b t x 0 [] w):(Builtin.append_ #[t,t] m #[v,x]).run P w=.ok v w:=by
 subst o;rcases own.2 with ⟨rfl,_⟩|⟨g,f,p,rfl,_,_,s,_⟩
 ·rcases d.kind with ⟨r,j⟩|j<;>simp[Builtin.append_,FZ l,FZ j,sizeOf,typeInfo,h,d.len,d.cells]
 exact run_append_room_src (P:=P) w t t m e i l h g 0 n f x 0 [] d ω σ σ
theorem xA(b:Option Addr)(d:List OpT)(F:Nat)(w:World)(h:Ops w b d)(W:d.length<=1000):Calls prog 100 #[.slice b d.length F] w λr f=>∃v,r=.returned v/\f.ownsRow w.heap.size 9 1 v (MK d).length ((MK d).map Value.string)/\Below w.heap.size w f:=by
 obtain⟨X,f,g,i,j⟩:=XK ef;have z:=Z (AH f (AH g (AH i j)));clear f g i j;go_enter func100,ntmps100;go_wp2;go_loopw [3,8] (λg f wr=>∃j:Nat,j<=d.length/\f=.int .i64 (j:Int)/\wr.ownsRow w.heap.size 9 1 g (MK (d.take j)).length ((MK (d.take j)).map Value.string)/\Below w.heap.size w wr) (λ_ f _=>d.length-(intOf f).toNat)
 case atStart=>exact⟨0,AO _,rfl,CE _ _ _ _,AC _ _⟩
 case round =>
  rename Value=>g
  obtain⟨j,U,rfl,i,g⟩:=hrel;have s:=yh (d.take j);rw[BF]at s;obtain⟨p,l⟩:∃y,Hid (y=MK (d.take j)):=⟨_,Z rfl⟩;rw[<-l.l]at i s
  by_cases t:j<d.length
  ·have K:(j:Int)<(d.length:Int):=ω
   have M:(0:Int)<=(j:Int):=ω
   obtain⟨P,o1,G,n1,x,rfl,E,R,S,D⟩:=(h.z g).at t;have o:=qS d j t;rw[<-D.l]at o;have r:=Z o;have m:=Z i;have f:=Z g;have Q:=pC E;have N:=g.size;clear i g o;have O:IntKind.i64.wrap ((j:Int)+1)=((j+1:Nat):Int):=by rw[jv _ ω ω];omega
   cases G with
   | true =>
    go_wp2;exact⟨⟨j+1,ω,ν,by rw[r.l];simpa[l.l] using(m.l.alloc _),f.l.alloc f.l.size _⟩,by simp[intOf];omega⟩
   | false =>
    go_wp2_with (at_builtin;refine QN _ rfl _ _ 23 rfl w.heap.size underlying23 z.l rfl ω _ p.length _ rfl ((m.l.alloc _).alloc _) ⟨wr.heap.size+1,0,none⟩ 1 1 [.string x] rfl rfl (World.news_of_block (by simpa using AW (wr.alloc _) _)) (by intro u v;simp at v;subst v;rfl) τ (wr.heap.size+1+1) σ ?_;intro T I H q o y L;have C:=Z q;have A:=Z o;clear q o y);have q:MK (d.take (j+1))=p++[x]:=by rw[r.l,l.l];simp
    have o:Below w.heap.size w H:=TL ((f.l.alloc f.l.size _).alloc τ _) ((m.l.alloc _).alloc _) A.l τ;exact⟨⟨j+1,ω,ν,by rw[q];simpa using C.l,o⟩,by simp[intOf];omega⟩
  obtain rfl:j=d.length:=ω
  rw[DA]at l;have m:=Z i;have f:=Z g;clear i g;go_wp2;go_ret;rw[<-l.l];exact⟨_,rfl,m.l,f.l⟩
theorem yP(n:Nat)(w:World)(p:n<=100000):Calls prog 138 #[.slice none 0 0,.int .i64 (n:Int)] w λr b=>∃v,r=.returned v/\b.ownsRow w.heap.size 9 1 v 0 []/\Below w.heap.size w b:=by
 obtain⟨l,b,d,i,f⟩:=XK ef;go_enter func138,ntmps138
 by_cases j:n=0
 ·subst j
  go_wp2;go_ret;exact⟨_,rfl,CE _ _ _ _,AC _ _⟩
 have o:(0:Int)<(n:Int):=ω
 have g:=Z (λh=>Lib.run_append_nil_zeros (P:=prog) w 23 3 h 9 l _ .i64 .i64 underlying23 underlying3 b d n ω ω ω (by rw[f];omega));have m:=JA w n 0 9;have h:=GY w n 0 9 (by unfold maxLen;omega);clear b d i f;go_wp2_with (at_builtin;refine Lib.wpList_append_run _ rfl _ _ _ _ rfl _ _ rfl rfl _ _ (g.l _) ?_);go_ret;refine⟨_,rfl,⟨σ,.inr ⟨w.heap.size,_,_,rfl,Y _,AW w.drew _,ω,h,?_,σ⟩⟩,(AC _ _).drew.alloc (Y _) _⟩;simp[JY,Value.cells];omega
def SQ(b:List (List ByteArray))(j:Nat):List ByteArray:=(b.take j).flatten
theorem oC(b:List (List ByteArray))(j:Nat)(h:j<b.length):SQ b (j+1)=SQ b j++b.getD j []:=by
 unfold SQ;rw[List.take_add_one,List.flatten_append];simp[BQ h,List.getD]
theorem qy(b:List (List ByteArray)):SQ b b.length=b.flatten:=by unfold SQ;rw[DA]
theorem mc(b:List (List ByteArray))(j:Nat):(SQ b j).length<=(SQ b b.length).length:=by
 have:=BY (λl:List (List ByteArray)=>l.flatten.length) (FN j b);simp only[List.flatten_append,AE]at this;rw[qy];unfold SQ;omega
theorem Ii(g U:Nat)(d:List (List ByteArray))(w:World)(G:∀j,j<d.length->∃a c,w.cell? ⟨g,j,none⟩=some (.slice a (d.getD j []).length c)/\Strs w a (d.getD j []))(hg:g<w.heap.size)(hl:(SQ d d.length).length<=10000)(hk:d.length<=100):Calls prog 99 #[.slice (some ⟨g,0,none⟩) d.length U] w λr b=>∃v,r=.returned v/\b.ownsRow w.heap.size 9 1 v (SQ d d.length).length ((SQ d d.length).map Value.string)/\Below w.heap.size w b:=by
 obtain⟨H,b,f,i,l⟩:=XK ef;have h:=Z (AH b (AH f (AH i l)));clear b f i l;have D:=Z G;clear G;go_enter func99,ntmps99;go_wp2;go_loopw [3,11] (λf b wr=>∃j:Nat,j<=d.length/\b=.int .i64 (j:Int)/\f=.int .i64 (((SQ d j).length:Nat):Int)/\wr=w) (λ_ b _=>d.length-(intOf b).toNat)
 case atStart=>exact⟨0,AO _,rfl,rfl,rfl⟩
 case round =>
  obtain⟨j,W,rfl,rfl,S⟩:=hrel;subst S;have z:=mc d j
  by_cases r:j<d.length
  ·have N:(j:Int)<(d.length:Int):=ω
   have T:(0:Int)<=(j:Int):=ω
   obtain⟨a,c,i,_⟩:=D.l j r;have x:=mc d (j+1);have f:=BY List.length (oC d j r);rw[AE]at f;obtain⟨m,y⟩:∃m,Hid (m=(d.getD j []).length):=⟨_,Z rfl⟩;obtain⟨n,l⟩:∃n,Hid (n=(SQ d j).length):=⟨_,Z rfl⟩;rw[<-y.l]at i f;rw[<-l.l]at f z⊢;have o:¬((n:Int)+(m:Int)<0):=ω
   go_wp2
   exact⟨⟨j+1,ω,ν,by congr 2;rw[f];omega,by first|rfl|trivial⟩,by simp[intOf];omega⟩
  obtain rfl:j=d.length:=ω
  have I:=Z (yP (SQ d d.length).length wr ω);go_wp2_with (go_at_call 138;refine I.l.A ?_;rintro e w2 ⟨v2,rfl,f,i⟩);go_loopw [6,27] (λl b m=>∃j:Nat,j<=d.length/\b=.int .i64 (j:Int)/\m.ownsRow wr.heap.size 9 1 l (SQ d j).length ((SQ d j).map Value.string)/\Below wr.heap.size wr m) (λ_ b _=>d.length-(intOf b).toNat)
  case atStart=>exact⟨0,AO _,rfl,f,i⟩
  case round =>
   rename World=>m
   rename Value=>l
   clear f i;obtain⟨j,W,rfl,p,f⟩:=hrel;have z:=mc d j
   by_cases r:j<d.length
   ·have N:(j:Int)<(d.length:Int):=ω
    have T:(0:Int)<=(j:Int):=ω
    obtain⟨a,c,i,t⟩:=D.l j r;replace i:=NX f i;replace t:=t.z f;have x:=mc d (j+1);have q:=Z (oC d j r);rw[q.l,AE]at x;obtain⟨M,y⟩:∃M,Hid (M=d.getD j []):=⟨_,Z rfl⟩;obtain⟨K,P⟩:∃M,Hid (M=(SQ d j)):=⟨_,Z rfl⟩;rw[<-y.l]at i t q x;rw[<-P.l]at p z x q;have l:=Z p;have v:=Z f;have bT:=f.size;have lg:g<m.heap.size:=ω
    clear p f
    by_cases A:M=[]
    ·subst A
     have b:=Z (λo=>Gm (P:=prog) 23 o 9 H 1 underlying23 h.l.1 h.l.2.2.1 _ _ _ _ l.l _ (YS t _ _ underlying23 c));simp only[AR]at i b;go_wp2_with (at_builtin;refine Lib.wpList_append_run _ rfl _ _ _ _ rfl _ _ rfl rfl _ _ (b.l _) ?_);exact⟨⟨j+1,ω,ν,by rw[q.l,EA];exact l.l,v.l⟩,by simp[intOf];omega⟩
    obtain⟨b,o,rfl,hb,E⟩:=t.resolve_left A
    have X:0<M.length:=by cases M;exact absurd rfl A;simp
    have Q:Hid (∀k u,(M.map Value.string)[k]?=some u->m.cell? ((⟨b,o,none⟩:Addr).add k)=some u):=λk u C=>by
     obtain⟨s,F⟩:=CW.1 C;simp only[BP]at s;rw[show(⟨b,o,none⟩:Addr).add k=⟨b,o+k,none⟩ by unfold Addr.add;split<;>simp_all,E k s,<-F];simp[List.getD,s]
    clear E;go_wp2_with (at_builtin;refine wpList_append_lies _ rfl _ _ 23 rfl wr.heap.size 9 H (.string empty) 1 16 underlying23 h.l.1 h.l.2.1 h.l.2.2.1 h.l.2.2.2 rfl ω _ K.length _ rfl l.l ⟨b,o,none⟩ M.length c (M.map Value.string) rfl σ Q.l (by intro u C;obtain⟨s,_,rfl⟩:=DL.1 C;rfl) X (by unfold maxLen;omega) ω ω m.heap.size rfl ?_;intro g9 bE w9 F E L bJ;have R:=Z F;have O:=Z E;clear F E L);have E:Below wr.heap.size wr w9:=TL v.l l.l O.l ω;exact⟨⟨j+1,ω,ν,by rw[q.l,AE,CY];exact R.l,E⟩,by simp[intOf];omega⟩
   obtain rfl:j=d.length:=ω
   have l:=Z p;have v:=Z f;clear p f;go_wp2;go_ret;exact⟨_,rfl,l.l,v.l⟩
section
@[reducible] def RP(l:Int)(x:Wo)(q:Wp):List Value:=[.int .i32 l,.int .u32 0,.int .i64 x.w,.slice q.a x.ss.length q.c,.slice q.a' x.ws.length q.c',.bool x.up,.int .i64 x.W,.int .i64 x.S,.int .i64 x.L,.int .i64 x.T,.int .i64 x.H,.int .i64 x.F,.int .i64 x.R,.int .i64 x.U,.int .i64 x.O,.slice q.s x.rs.length q.cs,.slice q.p x.P.length q.cp,.slice q.t x.ts.length q.ct]
structure Sc(w v:World)(SB:Nat)(cs:List Value)(M:World->Prop):Prop where
 e:w.grownBy v (some SB)
 r:Row v SB cs
 m:DepF v (λb=>b≠SB) M
section
variable {w v v':World} {SB:Nat} {cs cs':List Value} {M N:World->Prop}
theorem Sc.z(h:Sc w v SB cs M)(d:Below v.heap.size v v'):Sc w v' SB cs M :=⟨⟨d.os.j h.e.os,d.tape.j h.e.tape,d.output.j h.e.output,AL h.e.size d.size,λb f g=>(d.block b (AD f h.e.size)).j (h.e.block b f g)⟩,h.r.z d,h.m.z d⟩
theorem Sc.put(h:Sc w v SB cs M)(b:v.grownBy v' (some SB))(d:Row v' SB cs'):Sc w v' SB cs' M:=⟨OS h.e b,d,h.m.I b (λg e k=>by cases e;exact k rfl)⟩
theorem Sc.set(h:Sc w v SB cs M)(i:Nat)(b:i<cs.length)(u:Value):Sc w (v.setCell ⟨SB,i,none⟩ u) SB (cs.set i u) M:=h.put (OG (BO _ _) _ _) (h.r.set i b u)
theorem Sc.add(h:Sc w v SB cs M)(k:DepF v (λb=>b≠SB) N):Sc w v SB cs (λW=>M W/\N W):=⟨h.e,h.r,h.m.and k⟩
theorem Sc.map(h:Sc w v SB cs M)(f:∀W,M W->N W):Sc w v SB cs N:=⟨h.e,h.r,h.m.map f⟩
theorem YI(r:Row w SB cs)(m:DepF w (λb=>b≠SB) M):Sc w w SB cs M:=⟨BO _ _,r,m⟩
end
theorem WoG.depF{f g i:List Value}{R:Nat->List Pr}{j:List Value}{q:Wp}{o:Nat->Nat}(h:WoG f g i n R j w q o)(l:o SB=0):DepF w (λb=>b≠SB) (λW=>WoG f g i n R j W q o) :=⟨h,λs d m=>h.only (K:=λk=>k=0) ⟨d.os,d.tape,d.output,d.size,λb p r=>m b (λe=>r (by rw[e];exact l)) p⟩ (λ_ k=>k)⟩
def ZF(w d:World)(SB:Nat)(l:Int)(o:Nat->Nat)(y:Wo):Prop:=∃q f,Row d SB (RP l y q)/\RH y d q f/\(∀b,b<w.heap.size->f b=o b)/\w.grownBy d (some SB)/\y.rs.length<=q.cs
theorem WoG.all{g i j:List Value}{R:Nat->List Pr}{l:List Value}{q:Wp}{o:Nat->Nat}(h:WoG g i j n R l w q o)(m:o SB=0)(s:SB<w.heap.size):DepF w (λb=>b≠SB) (λW=>∀f:Nat->Nat,(∀b,b<w.heap.size->f b=o b)->WoG g i j n R l W q f) :=⟨λf d=>h.lab d,λt p r f d=>((h.lab d).depF ((d SB s).j m)).keep t p r⟩
theorem OwL.all{o:Nat->Nat}(h:OwL w o k a cs)(i:k≠0)(j:o SB=0)(m:SB<w.heap.size):DepF w (λb=>b≠SB) (λW=>∀g:Nat->Nat,(∀b,b<w.heap.size->g b=o b)->OwL W g k a cs) :=⟨λg f=>h.lab f,λq d l g f=>(h.lab f).only (K:=λk=>k=0) ⟨d.os,d.tape,d.output,d.size,λb p i=>l b (λe=>i (by rw[e];exact(f SB m).j j)) p⟩ i⟩
theorem PsR.all{o:Nat->Nat}{R:Nat->List Pr}{p:Option Addr}(h:PsR w o p n R)(j:o SB=0)(m:SB<w.heap.size):DepF w (λb=>b≠SB) (λW=>∀g:Nat->Nat,(∀b,b<w.heap.size->g b=o b)->PsR W g p n R) :=⟨λg f=>h.lab f,λs d l g f=>(h.lab f).only (K:=λk=>k=0) ⟨d.os,d.tape,d.output,d.size,λb q r=>l b (λe=>r (by rw[e];exact(f SB m).j j)) q⟩ ω (λi=>ω)⟩
theorem OwL.depF{o:Nat->Nat}(h:OwL w o k a cs)(f:k≠0)(g:o SB=0):DepF w (λb=>b≠SB) (λW=>OwL W o k a cs) :=⟨h,λl d i=>h.only (K:=λk=>k=0) ⟨d.os,d.tape,d.output,d.size,λb j f=>i b (λe=>f (by rw[e];exact g)) j⟩ f⟩
theorem na{s:Nat}{v:Value}{f:List Value}(h:w.ownsRow B e s v n f):∃a c,v=.slice a n c:=by
 rcases h.2 with ⟨rfl,rfl⟩|⟨g,b,d,rfl,_⟩
 ·exact⟨_,_,rfl⟩
 exact⟨_,_,rfl⟩
theorem Af{b:List ByteArray}(h:w.ownsRow B 9 1 (.slice a n c) b.length (b.map Value.string)):Strs w a b:=by
 rcases MO h with ⟨e,f⟩|⟨g,d,e,_,_,i⟩
 ·exact .inl (AB f)
 injection e with e;subst e;exact OwnS.strs (.inr ⟨g,rfl,i⟩)
theorem Iv{g:Nat}{f:Option Addr}{h:Nat}{b d:List ByteArray}(i:w.cell? ⟨g,0,none⟩=some (.slice a b.length c))(l:w.cell? ⟨g,1,none⟩=some (.slice f d.length h))(o:Strs w a b)(p:Strs w f d)(j:Nat)(m:j<[b,d].length):∃a c,w.cell? ⟨g,j,none⟩=some (.slice a ([b,d].getD j []).length c)/\Strs w a ([b,d].getD j []):=by
 match j,m with
 | 0,_=>exact⟨a,c,i,o⟩
 | 1,_=>exact⟨f,h,l,p⟩
theorem pO{s:Nat}{f:List Value}(h:w.ownsRow B e s (.slice a n c) n f):OwnS w a f/\∀g,blk a n=some g->B<=g/\g<w.heap.size:=by
 rcases MO h with ⟨b,d⟩|⟨g,i,b,d,j,l⟩
 ·exact⟨.inl (AB (by rw[h.1,d,Nat.zero_mul])),λg k=>by rw[d]at k;simp[blk]at k⟩
 injection b with b _ _
 subst b;exact⟨.inr ⟨g,rfl,l⟩,λm k=>by rw[ee k];exact⟨d,j⟩⟩
def YZ(N:Nat)(o:Nat->Nat)(d f:Option Nat)(b:Nat):Nat:=if b<N then o b else if d=some b then 1 else if f=some b then 2 else 4
section
variable {N:Nat} {o:Nat->Nat} {r1 r2:Option Nat} {b:Nat}
theorem Hg(h:b<N):YZ N o r1 r2 b=o b:=AF h
theorem Dz(h:N<=b)(d:r1=some b):YZ N o r1 r2 b=1:=by unfold YZ;rw[AG ω,AF d]
theorem Gi(h:N<=b)(d:r2=some b)(f:r1=none\/r2=none\/r1≠r2):YZ N o r1 r2 b=2:=by unfold YZ;rw[AG ω,AG (λe=>by rw[e,d]at f;simp at f),AF d]
theorem wD(h:N<=b)(d:r1≠some b)(f:r2≠some b):YZ N o r1 r2 b=4:=by unfold YZ;rw[AG ω,AG d,AG f]
end
theorem UQ{o:Nat->Nat}(h:OwnS w a cs)(f:cs≠[]->n≠0)(j:∀g,blk a n=some g->lo<=g)(i:∀g,blk a n=some g->o g=k):OwL w o k a cs :=um h (λg b d=>i g (by rw[b];exact MS _ _ _ (f d)))
theorem XE(h:OwnS w a cs)(f:cs≠[]->n≠0)(d:∀g,blk a n=some g->lo<=g)(j:SB<lo):DepF w (λb=>b≠SB) (λW=>OwnS W a cs):=QK (PD h f d) (λb i _=>ω)
theorem qU(x:Wo)(q:Wp)(f:Option Addr)(j:List Int)(d SB:Nat)(l:Int)(o:Nat->Nat)(w:World)(u:Row w SB (RP l x q))(h:RH x w q o)(h0:o SB=0)(E:Ints w f j)(s:x.le 1048576)(C:j.length<=1048576):Calls prog 59 #[.pointer (some ⟨SB,0,none⟩),.slice f j.length d] w λr b=>r=.returned (.tuple #[])/\ZF w b SB l o (x.pow j):=by
 have b:=Z (WM q.a x.ss q.c q.a' x.ws q.c' f j d w h.at.h1 h.at.h2 E C s.l1 s.l2 s.s1 s.s2);unfold LE at b;have F:=u.lt;have i:=YI u (h.all h0 F);clear u E s C h;go_enter func59,ntmps59;have g:=i.r.y 3;have m:=i.r.y 4;have p:=i.r.lt;go_wp2_with fail;clear g m p;refine b.l.A ?_;rintro r v1 ⟨y,D,z,A,rfl,p,t,m⟩;replace i:=i.z m;have aN:=m.size;obtain⟨X,g⟩:∃X,Hid (X=MC j x.ss x.ws):=⟨_,Z rfl⟩;rw[<-g.l]at p t⊢;have G:Hid (x.pow j={ x with ss:=X,ws:=[],up:=false,W:=0,S:=0,L:=0,T:=0,H:=0,F:=0,R:=0,U:=0,O:=0,rs:=[] }):=Z (by rw[g.l];rfl);replace i:=i.add (XE p VU t F);clear m b g p;have g:=i.r.y 3;have m:=i.r.y 4;have Q:=i.r.y 5;have R:=i.r.y 6;have S:=i.r.y 7;have T:=i.r.y 8;have U:=i.r.y 9;have c10:=i.r.y 10;have b:=i.r.y 11
 have c12:=i.r.y 12;have v:=i.r.y 13;have H:=i.r.y 14;have I:=i.r.y 15;have W:=i.r.E 3;have f4:=i.r.E 4;have f5:=i.r.E 5;have f6:=i.r.E 6;have f7:=i.r.E 7;have f8:=i.r.E 8;have f9:=i.r.E 9;have K:=i.r.E 10;have L:=i.r.E 11;have M:=i.r.E 12;have N:=i.r.E 13;have O:=i.r.E 14;have P:=i.r.E 15;have p:=i.r.lt;go_wp2;clear g W m f4 Q f5 R f6 S f7 T f8 U f9 c10 K b L c12 M v N H O I P p;have p:=(((((((((((((i.set 3 σ (.slice y X.length D)).set 4 σ (.slice z 0 A)).set 5 σ (.bool false)).set 6 σ (.int .i64 0)).set 7 σ (.int .i64 0)).set 8 σ (.int .i64 0)).set 9 σ (.int .i64 0)).set 10 σ (.int .i64 0)).set 11 σ (.int .i64 0)).set 12 σ (.int .i64 0)).set 13 σ (.int .i64 0)).set 14 σ (.int .i64 0)).set 15 σ (.slice none 0 0))
 generalize World.setCell _ _ _=H at p⊢;rw[G.l];refine GH (v:=.tuple #[]) (by simp[results,results59]) rfl ⟨rfl,⟨y,D,z,A,none,0,q.p,q.cp,q.t,q.ct⟩,λb=>if b<w.heap.size then o b else 1,p.r,?_,λb m=>AF m,p.e,AO _⟩;have v:=p.m.q.1 (λb=>if b<w.heap.size then o b else 1) (λb m=>AF m);exact⟨UQ p.m.q.2 VU t (λg e=>AG (by have:=t g e;omega)),.inl rfl,.inl rfl,v.h4,v.h5⟩
def Wo.no(x:Wo)(e:Ev)(D:Dd):Prop:=D.C≠0\/200<(NW x e D).length\/2000<(PU x e D).length
def Wo.runE(x:Wo)(e:Ev)(D:Dd):Wo:=if D.C≠0\/200<(NW x e D).length\/2000<(PU x e D).length then x else if QP e D=true then (x.ran e D).pow e.fs else (x.ran e D).upS D
def Wo.runB(x:Wo)(e:Ev)(D:Dd):Bool:=if D.C≠0\/200<(NW x e D).length\/2000<(PU x e D).length then false else !QP e D
theorem Dh(d:List ByteArray)(f:List (Int×ByteArray))(b:List OpT)(N:Nat)(h:N<=b.length):NG d f (b.take N) (N:Int)=NG d f b (N:Int):=by
 unfold NG QC;simp[BF,Nat.min_eq_left h,GM]
theorem I0{d:List OpT}(h:Ops w a d)(k:Nat):Ops w a (d.take k):=by
 rcases h with h|⟨b,o,e,f,g⟩
 ·exact .inl (by rw[h];exact List.take_nil)
 refine .inr ⟨b,o,e,f,λi j=>?_⟩
 rw[BF]at j;have:=g i ω;rw[show(d.take k).getD i (false,0,empty)=d.getD i (false,0,empty) by simp[List.getD,FR,show i<k by omega]];exact this
theorem tU(x:Wo)(q:Wp)(e:Ev)(a:Option Addr)(c:Nat)(f:Option Addr)(d:Nat)(D:Dd)(F:Option Addr)(G:Nat)(z:Option Addr)(H:Nat)(p:Option Addr)(O SB:Nat)(l:Int)(o:Nat->Nat)(w:World)(hR:Row w SB (RP l x q))(h:RH x w q o)(h0:o SB=0)(hp:YR w o p (NW x e D))(hs:OwL w o 3 F (LH D.rs))(m:OwL w o 6 z (NJ D.ops))(cO:D.ops.length<=H)(hf:DepF w (λb=>b≠SB) (λW=>Ints W f e.fs))(T:x.ok)(hd:D.ok)(he:e.le)(cP:x.rs.length<=q.cs)(cQ:D.rs.length<=G):Calls prog 56 #[.pointer (some ⟨SB,0,none⟩),NH e a c f d,MV D F G z H,.slice p (NW x e D).length O] w λr u=>r=.returned (.bool (x.runB e D))/\ZF w u SB l o (x.runE e D):=by
 have cC:=Z (AH cP cQ);clear cP cQ;have g:=T.le;have U:=hR.lt;have j:=((((YI hR (h.all h0 U)).add (hp.all h0 U)).add (hs.all ω h0 U)).add (m.all ω h0 U)).add hf;clear hR h hp hs m hf;have dH:=hd.2.1;obtain⟨aY,R⟩:∃y,Hid (y=x.runE e D):=⟨_,Z rfl⟩;obtain⟨RB,aN⟩:∃y,Hid (y=x.runB e D):=⟨_,Z rfl⟩;rw[<-R.l,<-aN.l];obtain⟨N,P⟩:∃N,Hid (N=evN e D):=⟨_,Z rfl⟩;obtain⟨CB,aW⟩:∃b,Hid (b=QP e D):=⟨_,Z rfl⟩;have cZ:N<=D.ops.length:=by rw[P.l];exact nL e D
 obtain⟨C,I⟩:∃y,Hid (y=NW x e D):=⟨_,Z rfl⟩;rw[<-I.l]at j⊢;have bW:C.length<=201:=by have:=T.p.1;rw[I.l];unfold NW;split<;>(try simp)<;>omega
 obtain⟨v,K⟩:∃y,Hid (y=PU x e D):=⟨_,Z rfl⟩;have i:Hid (∀u,Calls prog 98 #[.slice z D.ops.length H,.int .i64 e.cut] u λr s=>r=.returned (.tuple #[.slice z (evN e D) H,.bool (QP e D)])/\s=u):=Z (λu=>xY z D.ops.length H e.cut u cO dH);rw[<-P.l,<-aW.l]at i;obtain⟨A,aM⟩:∃y,Hid (y=D.ops.take N):=⟨_,Z rfl⟩;have cJ:A.length=N:=by rw[aM.l,BF];omega
 have Q:=Z (λu k=>xA z A H u k ω);rw[cJ]at Q;have cE:Hid (∀W,Ops W z D.ops->Ops W z A):=Z (λW k=>by rw[aM.l];exact I0 k N);have aZ:[x.ts,MK A].flatten=v:=by rw[K.l,aM.l,P.l];simp[PU]
 have bT:v.length<=3000:=by have h1:=T.t.1;have h2:=yh A;rw[<-aZ];simp;omega
 have M:=Z (λu L s k3=>Eq q.a x.ss q.c q.a' x.ws q.c' z A H (N:Int) u L s k3 ω ω (λo T=>by have:=hd.2.2 o (by rw[aM.l]at T;exact DM T);omega) g.l1 g.l2 g.s1 g.s2);obtain⟨s,bG⟩:∃y,Hid (y=NG x.ss x.ws D.ops (N:Int)):=⟨_,Z rfl⟩;rw[show NG x.ss x.ws A (N:Int)=s by rw[bG.l,aM.l];exact Dh _ _ _ _ cZ,cJ]at M;have HD:=Z hd;have HM:=Z g;have HO:=Z T;have HE:=Z he;clear hd g T he cO;unfold LE at M;unfold NH MV;go_enter func56,ntmps56;go_upto_region 1 with fail;generalize g:w.alloc _=v1;obtain⟨cL,S,b2⟩:=LF g;clear g;generalize E:v1.alloc _=v2;obtain⟨t,X,g⟩:=LF E;clear E;rw[S]at g X;replace j:=(((j.z cL).z t).add (UY (b2.z t).q ω)).add (UY g.q ω);have l2:w.heap.size+1<v2.heap.size:=ω
 clear cL t b2 g S X;have dR:=j.m.q.1.2.lt;have t:=j.m.q.1.2.y 2;have g:=j.m.q.2.y 11;have dl:=j.m.q.2.lt;go_wp2_with fail;clear t g;refine(i.l _).A ?_;rintro r t ⟨rfl,g⟩;rw[g];clear g t i;go_upto_region 2 with fail;have S:Hid (∀W,Below v2.heap.size v2 W->W.cell? ⟨SB,17,none⟩=some (.slice q.t x.ts.length q.ct)):=Z (λW m=>(j.z m).r.y 17);have i:=AC v2.heap.size v2;refine AN (S:=λu=>u.cell? ⟨SB,17,none⟩=some (.slice q.t x.ts.length q.ct)) κ (S.l _ i.drew) (λt=>?_);refine V 0 (.pointer (some ⟨SB,0,none⟩)) rfl t (V 1 (.pointer (some ⟨SB,0,none⟩)) rfl t (V 2 (.pointer (some ⟨SB,2,none⟩)) rfl t (TK 3 (.pointer (some ⟨SB,17,none⟩)) rfl (BW ⟨ρ,λw hw=>by obtain z0:=hw;have l:=DI _ _ hw;go_simp⟩) t (V 4 (.slice q.t x.ts.length q.ct) rfl t (V 5 (.slice z N H) rfl t ?_)))))
 simp only[J];refine RD 6 rfl (λKq E=>?_);replace i:=i.drew;refine LC ρ 100 #[.slice z N H] γ (Q.l _ (cE.l _ ((j.z i).m.q.1.1.1.2 o (λ_ _=>rfl)).own.ops)) ?_;rintro r y1 ⟨vd,rfl,X,m⟩;refine⟨_,rfl,?_⟩;have lD:=i.size;replace i:=i.j (m.A i.size);clear m Q;refine E.l _ _ (S.l _ i) (λaD=>?_)
 try simp only[J]
 refine RD 7 rfl (λKq E=>?_);obtain⟨bY,bZ,rfl⟩:∃a c,vd=.slice a (MK A).length c:=na X;go_simp;obtain⟨y2,Q⟩:∃y,y=y1.alloc (.cells #[.slice q.t x.ts.length q.ct,.slice bY (MK A).length bZ] 23):=⟨_,rfl⟩;rw[<-Q];have g:=LU y1 #[.slice q.t x.ts.length q.ct,.slice bY (MK A).length bZ] 23;have m:=KW y1 (.cells #[.slice q.t x.ts.length q.ct,.slice bY (MK A).length bZ] 23);rw[<-Q]at g m;obtain⟨GB,aO⟩:∃y,y=y1.heap.size:=⟨_,rfl⟩;rw[<-aO]at g⊢;have oT:=LR X m;replace i:=i.j (m.A i.size);have lY:=i.size;clear Q aO m X;refine E.l _ _ (S.l _ i) (λaS=>?_)
 try simp only[J]
 refine RD 8 rfl (λKq E=>?_);have Q:=Ii GB 2 [x.ts,MK A] y2 (Iv (g.y 0) (g.y 1) ((j.z i).m.q.1.1.1.1.1.1 o (λ_ _=>rfl)).h5.own.strs (Af oT)) g.lt (by rw[qy,aZ];omega) σ;rw[qy,aZ]at Q;refine LC ρ 99 #[.slice (some ⟨GB,0,none⟩) 2 2] γ Q ?_;rintro r y3 ⟨vt,rfl,ot,m⟩;refine⟨_,rfl,?_⟩;have l3:=m.size;replace i:=i.j (m.A i.size);clear m Q oT g;refine E.l _ _ (S.l _ i) (λaT=>?_)
 try simp only[J]
 refine RD 9 rfl (λKq E=>?_);go_simp;refine E.l _ _ aT (λ_=>?_)
 try simp only[J]
 refine DN ?_;obtain⟨Q,X,rfl⟩:=na ot;obtain⟨oT,gT⟩:=pO ot
 have aR:∀g,blk Q v.length=some g->w.heap.size<=g:=λg k=>by have:=(gT g k).1;omega
 replace j:=(j.z i).add (XE oT VU aR U);clear S ot oT i lD l3 aD aS aT t;have S:=j.m.q.1.2.y 0;have dl:=j.m.q.1.2.lt;go_upto_region 3 with fail;generalize Value.tuple _=T9;generalize Value.agg _=A8;generalize Value.agg _=A9;go_cut [41] from 29 to 40 (λi t=>i=.bool (decide (D.C≠0\/200<C.length\/2000<v.length))/\t=y3)
 case first =>
  by_cases i:D.C=0
  ·have dL:(D.C == 0)=true:=by simp[i]
   have t:=Z i;clear i
   by_cases t1:200<C.length
   ·have dM:(200:Int)<(C.length:Int):=ω
    go_wp2_with fail;go_meet;exact⟨by rw[AM (.inr (.inl t1))],rfl⟩
   have dM:¬((200:Int)<(C.length:Int)):=ω
   by_cases t2:2000<v.length
   ·have dN:(2000:Int)<(v.length:Int):=ω
    go_wp2_with fail;go_meet;exact⟨by rw[AM (.inr (.inr t2))],rfl⟩
   have dN:¬((2000:Int)<(v.length:Int)):=ω
   go_wp2_with fail;go_meet;exact⟨by rw[AJ (by have:=t.l;omega)],rfl⟩
  have dL:(D.C == 0)=false:=by simp[i]
  go_wp2_with fail;go_meet;exact⟨by rw[AM (.inl i)],rfl⟩
 case rest =>
 obtain⟨rfl,i⟩:=hcut;rw[i];clear i S dl
 by_cases t:D.C≠0\/200<C.length\/2000<v.length
 ·rw[AM t]
  have S:x=aY:=by rw[R.l];unfold Wo.runE;rw[<-I.l,<-K.l,AF t]
  have eb:false=RB:=by rw[aN.l];unfold Wo.runB;rw[<-I.l,<-K.l,AF t]
  clear R aN;subst S eb;have SH:=Z j;clear j M t;go_wp2;refine AI (v:=.bool false) (by simp[results,results56]) rfl ⟨rfl,q,o,SH.l.r,SH.l.m.q.1.1.1.1.1.1.1 o (λ_ _=>rfl),λ_ _=>rfl,SH.l.e,cC.l.1⟩
 rw[AJ t];obtain⟨i,HY⟩:∃y,Hid (y=x.ran e D):=⟨_,Z rfl⟩;have bH:Hid (i={ x with ss:=s.1,ws:=s.2,P:=C,ts:=v }):=Z (by rw[HY.l,bG.l,I.l,K.l,P.l];rfl);have cU:Hid (i.le 1048576):=Z (by rw[HY.l];exact(HO.l.ran e (d:=D) HD.l (by rw[<-I.l,<-K.l];omega)).le);have S:aY=if CB=true then i.pow e.fs else i.upS D:=by rw[R.l,HY.l,aW.l];unfold Wo.runE;rw[<-I.l,<-K.l,AG t]
 have eb:RB=!CB:=by rw[aN.l,aW.l];unfold Wo.runB;rw[<-I.l,<-K.l,AG t]
 have ER:=Z S;have EB:=Z eb;clear S eb t R aN bG P aW HY bW bT aZ K I;have t:=j.r.y 3;have P:=j.r.y 4;have c16:=j.r.y 16;have I:=j.r.y 17;have f16:=j.r.E 16;have K:=j.r.E 17;have S:=j.r.lt;go_wp2_with fail;clear t P c16 f16 I K S;replace j:=(j.set 16 σ (.slice p C.length O)).set 17 σ (.slice Q v.length X);have z6:((y3.setCell ⟨SB,16,none⟩ (.slice p C.length O)).setCell ⟨SB,17,none⟩ (.slice Q v.length X)).heap.size=y3.heap.size:=by rw[BJ,BJ]
 generalize t:World.setCell (World.setCell _ _ _) _ _=v6 at j z6⊢;clear t;have P:=j.m.q.1.1.1.1.1.1.1 o (λ_ _=>rfl);refine(M.l _ P.h1.own.strs P.h2.own.wrs (cE.l _ (j.m.q.1.1.1.1.2 o (λ_ _=>rfl)).own.ops)).A ?_;rintro r7 v7 ⟨I,L,K,R,rfl,t,g1,g2,m⟩;have l6:=j.e.size;have l7:=m.size
 have gA:∀g,blk I s.1.length=some g->w.heap.size<=g:=λg k=>by have:=g1 g k;omega
 have gB:∀g,blk K s.2.length=some g->w.heap.size<=g:=λg k=>by have:=g2 g k;omega
 replace j:=((j.z m).add (XE t.s VU gA U)).add (XE t.p ip gB U);have bV:=t.ne;clear m M t P;have t:=j.r.y 3;have P:=j.r.y 4;have M:=j.r.E 3;have f4:=j.r.E 4;have S:=j.r.lt;go_upto_region 7 with fail;clear t M P f4 S;replace j:=(j.set 3 σ (.slice I s.1.length L)).set 4 σ (.slice K s.2.length R);have z8:((v7.setCell ⟨SB,3,none⟩ (.slice I s.1.length L)).setCell ⟨SB,4,none⟩ (.slice K s.2.length R)).heap.size=v7.heap.size:=by rw[BJ,BJ]
 generalize t:World.setCell (World.setCell _ _ _) _ _=M at j z8⊢;clear t;obtain⟨P,t⟩:∃y,Hid (y=YZ w.heap.size o (blk I s.1.length) (blk K s.2.length)):=⟨_,Z rfl⟩
 have y:∀b,b<w.heap.size->P b=o b:=λb m=>by rw[t.l];exact Hg m
 have aX:DepF M (λb=>b≠SB) (λW=>RH i W ⟨I,L,K,R,q.s,q.cs,p,O,Q,X⟩ P):=j.m.map (λW ⟨⟨⟨⟨⟨⟨⟨⟨⟨mW,mP⟩,mS⟩,mO⟩,mI⟩,rE⟩,rD⟩,mT⟩,mA⟩,mB⟩=>by
  rw[bH.l];refine⟨UQ mA VU gA (λg k=>by rw[t.l];exact Dz (gA g k) k),UQ mB ip gB (λg k=>by rw[t.l];exact Gi (gB g k) k bV),(mW P y).h3,mP P y,UQ mT VU aR (λg k=>?_)⟩
  rw[t.l];exact wD (aR g k) (λe=>by have:=g1 g e;have:=(gT g k).2;omega) (λe=>by have:=g2 g e;have:=(gT g k).2;omega))
 have g:P SB=0:=(y SB U).j h0
 cases CB with
 | true =>
  have S:=qU i ⟨I,L,K,R,q.s,q.cs,p,O,Q,X⟩ f e.fs d SB l P M (by rw[bH.l];exact j.r) aX.q g j.m.q.1.1.1.1.1.2 cU.l HE.l.f;have e3:=j.m.q.1.1.1.1.2.y 3;have el:=j.m.q.1.1.1.1.2.lt;have SE:=Z j.e;clear j aX gA gB gT aR g1 g2 bV h0 t;have cA:=Z S;clear S;go_wp2_with fail;clear e3 el;refine cA.l.A ?_;rintro r9 v9 ⟨rfl,q2,o2,R9,W9,a9,S,K9⟩;have H9:=Z (AH R9 W9);have cT:=Z K9;have HG:=Z S;clear R9 W9 cA S K9;go_wp2;refine AI (v:=.bool false) (by simp[results,results56]) rfl ⟨by rw[EB.l];rfl,q2,o2,?_,?_,λb m=>(a9 b ω).j (y b m),OS SE.l HG.l,by rw[ER.l];exact cT.l⟩
  ·rw[ER.l];exact H9.l.1
  rw[ER.l];exact H9.l.2
 | false =>
  have S:aY=i.upS D:=by rw[ER.l,AG σ]
  have cF:DepF M (λb=>b≠SB) (λW=>RH aY W ⟨I,L,K,R,F,G,p,O,Q,X⟩ P):=(aX.and j.m).map (λW ⟨hW,⟨⟨⟨⟨⟨⟨⟨⟨⟨mW,mP⟩,mS⟩,mO⟩,mI⟩,rE⟩,rD⟩,mT⟩,mA⟩,mB⟩⟩=>by rw[S];exact⟨hW.h1,hW.h2,mS P y,hW.h4,hW.h5⟩);replace j:=j.add cF;clear cF aX gA gB gT aR g1 g2 bV h0 t;go_upto_region 10 with fail;refine AN (S:=λu=>Row u (w.heap.size+1) (dJ D.C D.W D.S D.L D.T D.H D.F D.R D.U D.O (.slice F D.rs.length G) (.slice z D.ops.length H))/\SB<u.heap.size) κ (⟨(j.z (AC M.heap.size M).drew).m.q.1.1.1.1.2,(j.z (AC M.heap.size M).drew).r.lt⟩) (λt=>?_);refine V 0 (.pointer (some ⟨SB,0,none⟩)) rfl t (V 1 (.pointer (some ⟨SB,0,none⟩)) rfl t (TK 2 (.pointer (some ⟨w.heap.size+1,1,none⟩)) rfl (BW ⟨ρ,λw hw=>by obtain⟨z0,g⟩:=hw;have l:=z0.lt;go_simp⟩) t (TK 3 (.agg (sK D.W D.S D.L D.T D.H D.F D.R D.U D.O (.slice F D.rs.length G))) rfl (BW ⟨ρ,λw hw=>by obtain⟨z0,g⟩:=hw;exact RK 33 _ rfl _ 1 rfl (sJ D.W D.S D.L D.T D.H D.F D.R D.U D.O (.slice F D.rs.length G)) _ (Row.rangeMid (pre:=[.int .i64 D.C]) (cs:=(sJ D.W D.S D.L D.T D.H D.F D.R D.U D.O (.slice F D.rs.length G))) (post:=[.slice z D.ops.length H]) z0) underlying33 rfl PC⟩) t (V 4 (.pointer (some ⟨SB,0,none⟩)) rfl t (V 5 (.pointer (some ⟨SB,2,none⟩)) rfl t (V 6 (.pointer (some ⟨SB,5,none⟩)) rfl t ?_))))))
  simp only[J];refine RD 7 rfl (λKq E=>?_);replace j:=j.z (AC M.heap.size M).drew;generalize b:M.drew=y9 at j⊢;clear b;have b:=j.r.y 5;have u:=j.r.E 5;go_simp;clear b u;replace j:=j.set 5 σ (.bool true);generalize World.setCell _ _ _=u at j⊢;refine E.l _ _ (⟨j.m.q.1.1.1.1.2,j.r.lt⟩) (λaD=>?_)
  try simp only[J]
  refine V 8 (.pointer (some ⟨SB,0,none⟩)) rfl aD (V 9 (.pointer (some ⟨SB,2,none⟩)) rfl aD (V 10 (.pointer (some ⟨SB,6,none⟩)) rfl aD ?_));simp only[J];refine RD 11 rfl (λKq E=>?_);refine SU rfl 33 _ _ rfl SB 6 (sK D.W D.S D.L D.T D.H D.F D.R D.U D.O (.slice F D.rs.length G)) rfl rfl (Row.thereMid (pre:=[.int .i32 l,.int .u32 0,.int .i64 x.w,.slice I s.1.length L,.slice K s.2.length R,.bool true]) (cs:=(sJ x.W x.S x.L x.T x.H x.F x.R x.U x.O (.slice q.s x.rs.length q.cs))) (post:=[.slice p C.length O,.slice Q v.length X]) j.r rfl) PC κ ?_;replace j:=j.put (OQ _ SB 6 (sJ D.W D.S D.L D.T D.H D.F D.R D.U D.O (.slice F D.rs.length G))) (Row.setsMid (pre:=[.int .i32 l,.int .u32 0,.int .i64 x.w,.slice I s.1.length L,.slice K s.2.length R,.bool true]) (cs:=(sJ x.W x.S x.L x.T x.H x.F x.R x.U x.O (.slice q.s x.rs.length q.cs))) (post:=[.slice p C.length O,.slice Q v.length X]) j.r (sJ D.W D.S D.L D.T D.H D.F D.R D.U D.O (.slice F D.rs.length G)) rfl)
  generalize World.setCells _ _ _ _=W at j⊢;refine E.l _ _ (⟨j.m.q.1.1.1.1.2,j.r.lt⟩) (λaS=>?_)
  try simp only[J]
  refine DN ?_;have SH:=Z j;have b:=Z S;clear j S;go_wp2;refine AI (v:=.bool true) (by simp[results,results56]) rfl ⟨by rw[EB.l];rfl,⟨I,L,K,R,F,G,p,O,Q,X⟩,P,?_,?_,y,SH.l.e,by rw[b.l];exact cC.l.2⟩
  ·rw[b.l,bH.l];exact SH.l.r
  exact SH.l.m.q.2
end
section
structure DoS(w v:World)(FF:Nat->Prop)(cs ev:List Value)(x:Wo)(q:Wp)(M:World->Prop):Prop where
 e:Below w.heap.size w v
 r2:Row v w.heap.size cs
 r3:Row v (w.heap.size+1) ev
 r4:Row v (w.heap.size+1+1) [.int .i64 0,.slice none 0 0,.slice none 0 0,.bool false,.int .i64 0,.int .i64 0,.int .i64 0,.int .i64 0,.int .i64 0,.int .i64 0,.int .i64 0,.int .i64 0,.int .i64 0,.slice none 0 0,.slice none 0 0,.slice none 0 0]
 n:¬FF w.heap.size/\¬FF (w.heap.size+1+1)
 f:WoF x v FF q
 m:DepF v FF M
section
variable {w v v':World} {FF:Nat->Prop} {cs ev cs':List Value} {x y:Wo} {q q':Wp} {M N:World->Prop}
theorem DoS.z(h:DoS w v FF cs ev x q M)(b:Below v.heap.size v v'):DoS w v' FF cs ev x q M:=⟨h.e.j (b.A h.e.size),h.r2.z b,h.r3.z b,h.r4.z b,h.n,h.f.z b,h.m.z b⟩
theorem DoS.put(h:DoS w v FF cs ev x q M)(b:v.grownBy v' (some w.heap.size))(d:Row v' w.heap.size cs'):DoS w v' FF cs' ev x q M :=⟨h.e.j (MR b h.e.size (λx e=>by have e:=CZ e;omega)),d,h.r3.I b (λe=>by injection e with e;omega),h.r4.I b (λe=>by injection e with e;omega),h.n,h.f.I b (λg e=>by cases e;exact h.n.1),h.m.I b (λg e=>by cases e;exact h.n.1)⟩
theorem DoS.set(h:DoS w v FF cs ev x q M)(i:Nat)(b:i<cs.length)(u:Value):DoS w (v.setCell ⟨w.heap.size,i,none⟩ u) FF (cs.set i u) ev x q M:=h.put (OG (BO _ _) _ _) (h.r2.set i b u)
theorem DoS.add(h:DoS w v FF cs ev x q M)(k:DepF v FF N):DoS w v FF cs ev x q (λW=>M W/\N W):=⟨h.e,h.r2,h.r3,h.r4,h.n,h.f,h.m.and k⟩
theorem DoS.fin{F:Nat->Prop}(h:DoS w v FF cs ev x q M)(j:WoF y v FF q')(hF:∀b,FF b->F b\/w.heap.size<=b)(d:List Value)(i:d.length=16)(f:World)(e:f=v.setCells (w.heap.size+1+1) 0 d):Row f (w.heap.size+1+1) d/\Below w.heap.size w f/\WoF y f (λb=>F b\/w.heap.size<=b) q':=by
 subst e;have G:=OQ v (w.heap.size+1+1) 0 d;exact⟨h.r4.sets d i,h.e.j (MR G h.e.size (λx e=>by have e:=CZ e;omega)),(j.I G (λg e=>by cases e;exact h.n.2)).A (λb _ k=>hF b k)⟩
end
theorem I5{x:Wo}{e:Ev}{D:Dd}(f:¬e.K=5)(i:x.call e=(D,true))(d:D.C=0)(h:¬(2000<(PU x e D).length\/200<(NW x e D).length))(g:QP e D=false):x.doE e={ (x.ran e D).upS D with P:=if e.K=2 then NW x e D else [D.rs] }:=by
 by_cases b:e.K=2
 ·rw[uR f i d h g b,AF b];rfl
 rw[tM f i d h g b,AG b]
end
def zj(W:World)(b:Nat)(d:List Value)(D:Dd)(f g:Option Addr):Prop:=Row W b d/\OwnDn W D.rs D.ops f g
def vV(v w:World)(f:List ByteArray)(d:List OpT)(N:Nat)(i h:Value):Prop:=∃(j g b:Nat),j<=N/\h=.int .i64 (j:Int)/\i=.slice (some ⟨g,0,none⟩) (f++MK (d.take j)).length b/\w.ownsRow v.heap.size 9 1 (.slice (some ⟨g,0,none⟩) (f++MK (d.take j)).length b) (f++MK (d.take j)).length ((f++MK (d.take j)).map Value.string)/\Below v.heap.size v w
def vW(v w:World)(f:Nat->Prop)(b:List (List Pr))(g:Value):Prop:=∃(d:Option Addr) (pc:Nat),g=.slice d b.length pc/\PstF w f d b/\Below v.heap.size v w
theorem jm(x:Wo)(q:Wp)(e:Ev)(a:Option Addr)(c:Nat)(f:Option Addr)(d:Nat)(F:Nat->Prop)(w:World)(h:WoF x w F q)(ho:x.ok)(h2:Chs w a e.b)(h3:Ints w f e.fs)(he:e.le):Calls prog 88 #[LO x q,NH e a c f d] w λr s=>kc w s F r (x.doE e):=by
 have g:=ho.le
 obtain⟨A,i,aW,L,M,cU⟩:∃A:Nat->Prop,Hid (∀b,b<w.heap.size->F b->A b)/\Hid (∀b,w.heap.size+1+1+1<=b->A b)/\Hid (¬A w.heap.size)/\Hid (¬A (w.heap.size+1+1))/\Hid (∀b,A b->F b\/w.heap.size<=b) :=⟨λb=>(F b/\b<w.heap.size)\/w.heap.size+1+1+1<=b,λb j h2=>.inl ⟨h2,j⟩,λb h=>.inr h,λh=>by rcases h with h|h;exact absurd h.2 ω;omega,λh=>by rcases h with h|h;exact absurd h.2 ω;omega,λb h=>by rcases h with h|h;exact .inl h.1;exact .inr ω⟩
 have t:=Z (h.A i);clear h i;have CP:=Z (λy S s (r:WoF y s A S) (hy:y.le 1048576) v=>Ex y S f e.fs d A s r hy v he.f);have i:=Z (λs r v=>xU x q e a c f d s r g v he);have I:=Z h2;have fJ:=Z h3;clear h2 h3;obtain⟨⟨D,u⟩,l⟩:∃y,x.call e=y:=⟨_,rfl⟩;obtain⟨C,aP⟩:∃y,Hid (y=x.doE e):=⟨_,Z rfl⟩;rw[<-aP.l];have j:=ho.call e;rw[l]at i j;simp only at i j;have iO:D.ops.length<=1000:=j.2.1;have CF:=Z (λob oe (z:Int) s r v k3=>B7 q.a x.ss q.c q.a' x.ws q.c' ob D.ops oe z s r v k3 ω (λo ho=>by have:=j.2.2 o ho;omega) g.l1 g.l2 g.s1 g.s2);have HD:=Z j;have dU:=Z l;have iL:=g.l5;have iP:=ho.p.1;have iQ:=ho.t.1;have HM:=Z g;have HO:=Z ho;clear j l g ho;obtain⟨i0,g,j,l,m⟩:=XK ef;have HI:=Z (AH g (AH j (AH l m)));clear g j l m;obtain⟨i1,g,j,l,m⟩:=XK mw;have K:=Z (AH g (AH j (AH l m)))
 clear g j l m;unfold LE at CF;unfold LO NH at i⊢;go_enter func88,ntmps88;go_upto_region 1 with fail;generalize g:w.alloc _=v1;obtain⟨aR,G,E⟩:=LF g;clear g;generalize g:v1.alloc _=v2;obtain⟨R,o,l⟩:=LF g;clear g;generalize g:v2.alloc _=v3;obtain⟨j,H,m⟩:=LF g;clear g;rw[G]at l o;rw[o]at m H;have p:=aR.j ((R.j (j.A R.size)).A aR.size);have g:DoS w v3 A (wL x q) [.int .i64 e.K,.slice a e.b.length c,.int .i64 e.cut,.slice f e.fs.length d] x q (λ_=>True):=⟨p,((E.z R).z j).q,(l.z j).q,m.q,⟨L,M⟩,t.l.z p,SK (λ_=>trivial)⟩;have l3:w.heap.size+1+1+1<=v3.heap.size:=ω
 clear p aR R j E l m G o H t L M
 by_cases j:e.K=5
 ·have H:C=x.pow e.fs:=by rw[aP.l];unfold Wo.doE;rw[AF j]
  obtain⟨y,m⟩:∃y,Hid (y=x.pow e.fs):=⟨_,Z rfl⟩;have O:=Z (CP.l x q v3 g.f HM.l (fJ.l.z g.e));rw[<-m.l]at O H;subst H;unfold LO at O;clear CP i CF HI K HD;have l:(e.K == 5)=true:=by simp[j]
  have t:=g.r3.y 0;have Q:=g.r3.y 3;have p:=g.r3.lt;go_upto_region 2 with fail;refine BG ?_;refine AS rfl 36 _ rfl w.heap.size 0 rfl _ _ g.r2.range underlying36 rfl LX ?_;simp only[J];go_wp2_with fail;clear t Q p;refine O.l.A ?_;rintro e v4 ⟨S,rfl,R,p⟩;replace R:=R.A (G:=A) (λb _ k=>k.elim id (λk=>aW.l b ω));replace g:=g.z p;clear p O;unfold LO
  try simp only[J]
  refine‹∀(a:Act) (w:World),wpList _ _ _ _ a w->_› _ _ ?_
  refine BI rfl 36 _ _ rfl (w.heap.size+1+1) 0 (wA C S) rfl rfl (g.r4.there rfl) LX κ ?_
  try simp only[J]
  obtain⟨y8,p⟩:∃y9,y9=v4.setCells (w.heap.size+1+1) 0 (wL C S):=⟨_,rfl⟩;obtain⟨X,U,O⟩:=g.fin (R) cU.l (wL C S) rfl y8 p;rw[<-p];clear p g
  try go_wp2
  exact VP 4 36 results88 _ rfl (wL C S) _ X underlying36 rfl LX rfl ⟨S,rfl,O,U⟩
 have l:(e.K == 5)=false:=by simp[j]
 have dV:=Z j;clear j;obtain⟨t,R,U,Q⟩:=g.r3.k4;have p:=g.r3.lt;go_upto_region 3 with fail;refine BG ?_;refine AS rfl 36 _ rfl w.heap.size 0 rfl _ _ g.r2.range underlying36 rfl LX ?_;simp only[J];go_wp2_with fail;clear t R U Q p l;refine(i.l _ g.f.at (I.l.z g.e)).A ?_;rintro r4 v4 ⟨m,o,ob,oe,rfl,j,own,l,O,p⟩;have t:DepF v4 A (λW=>OwnDn W D.rs D.ops m ob):=QK (oy own l O) (λb r _=>aW.l b ω);have l4:=p.size;replace g:=g.z p;clear own l O p i j I;unfold MV;go_upto_region 4 with fail;generalize j:v4.alloc _=T;obtain⟨p,E,i⟩:=LF j;clear j;obtain⟨XB,j⟩:∃y,y=v4.heap.size:=⟨_,rfl⟩;rw[<-j]at i⊢;have gX:w.heap.size+1+1+1<=XB:=ω
 have l:DoS w T A (wL x q) [.int .i64 e.K,.slice a e.b.length c,.int .i64 e.cut,.slice f e.fs.length d] x q (λW=>True/\zj W XB (dJ D.C D.W D.S D.L D.T D.H D.F D.R D.U D.O (.slice m D.rs.length o) (.slice ob D.ops.length oe)) D m ob):=(g.z p).add ((UY i.q (aW.l _ gX)).and (t.z p));have l5:XB<T.heap.size:=l.m.q.2.1.lt;clear g t p i E j;generalize Value.tuple _=T0;generalize Value.agg _=A0;generalize Value.agg _=A1;generalize Value.agg _=A2;go_cut [31] from 25 to 30 (λbv wx=>bv=.bool (decide (u=false\/D.C≠0))/\wx=T)
 case first =>
  have t:=l.m.q.2.1.y 0;have p:=l.m.q.2.1.lt
  cases u with
  | false =>
   go_wp2_with fail;go_meet;exact⟨σ,rfl⟩
  | true =>
   by_cases g:D.C=0
   ·have i:(D.C == 0)=true:=by simp[g]
    go_wp2_with fail;go_meet;exact⟨by simp[g],rfl⟩
   have i:(D.C == 0)=false:=by simp[g]
   go_wp2_with fail;go_meet;exact⟨by simp[g],rfl⟩
 case rest =>
 obtain⟨rfl,i⟩:=hcut;rw[i];clear i
 by_cases i:u=false\/D.C≠0
 ·have H:C=x:=by rw[aP.l];exact ZA dV.l dU.l i
  subst H;rw[AM i];go_upto_region 5 with fail;refine BG ?_;refine AS rfl 36 _ rfl w.heap.size 0 rfl _ _ l.r2.range underlying36 rfl LX ?_;simp only[J];refine BI rfl 36 _ _ rfl (w.heap.size+1+1) 0 (wA C q) rfl rfl (l.r4.there rfl) LX κ ?_
  try simp only[J]
  obtain⟨y8,p⟩:∃y9,y9=T.setCells (w.heap.size+1+1) 0 (wL C q):=⟨_,rfl⟩;obtain⟨X,U,O⟩:=l.fin (l.f) cU.l (wL C q) rfl y8 p;rw[<-p];clear p l
  try go_wp2
  exact VP 4 36 results88 _ rfl (wL C q) _ X underlying36 rfl LX rfl ⟨q,rfl,O,U⟩
 rw[AJ i]
 obtain⟨rfl,g⟩:u=true/\D.C=0:=by cases u<;>simp_all
 have HC:=Z g;clear i g;obtain⟨N,HN⟩:∃N,Hid (N=evN e D):=⟨_,Z rfl⟩;obtain⟨CB,bU⟩:∃b,Hid (b=QP e D):=⟨_,Z rfl⟩;have iI:N<=D.ops.length:=by rw[HN.l];exact nL e D
 have g:Hid (CB=true->e.cut=(N:Int)):=Z (λk=>by rw[bU.l]at k;have k:=AU (by unfold QP at k;exact k);rw[HN.l];unfold evN;rw[AF k];omega);have j:Hid (CB=false->N=D.ops.length):=Z (λk=>by rw[bU.l]at k;have k:=IX (by unfold QP at k;exact k);rw[HN.l];unfold evN;rw[AG k]);have E:=l.m.q.2.1.y 11;have p:=l.m.q.2.1.lt;have t:=l.r3.y 2;have el:=l.r3.lt;go_upto_region 7 with fail;go_cut [8] from 36 to 44 (λi wx=>i=.bool CB/\wx=T)
 case first =>
  by_cases r:0<=e.cut
  ·by_cases v:e.cut<=(D.ops.length:Int)
   ·have i:CB=true:=by rw[bU.l];unfold QP;exact AM ⟨r,v⟩
    clear g j;go_wp2;go_meet;exact⟨by rw[i],rfl⟩
   have i:CB=false:=by rw[bU.l];unfold QP;exact AJ (λh=>v h.2)
   clear g j;go_wp2;go_meet;exact⟨by rw[i],rfl⟩
  have i:CB=false:=by rw[bU.l];unfold QP;exact AJ (λh=>r h.1)
  clear g j;go_wp2;go_meet;exact⟨by rw[i],rfl⟩
 case rest =>
 obtain⟨rfl,i⟩:=hcut;rw[i];clear i;go_upto_if 45 with fail;go_cut [7] from 46 to 47 (λi wx=>i=.int .i64 (N:Int)/\wx=T)
 case first =>
  cases CB with
  | true =>
   have i:=Z (g.l rfl);clear g j;go_wp2;go_meet;exact⟨by rw[i.l],rfl⟩
  | false =>
   have i:=Z (j.l rfl);clear g j;go_wp2;go_meet;exact⟨by rw[i.l],rfl⟩
 case rest =>
 obtain⟨rfl,i⟩:=hcut;rw[i];clear i g j E p t el;have iH:(N:Int)<=1000:=ω
 have p:=l.r2.y 15;have cl:=l.r2.lt;go_wp2_with (at_builtin;refine oK rfl _ _ 23 rfl 9 i0 (.string empty) 1 16 underlying23 HI.l.1 HI.l.2.1 HI.l.2.2.1 HI.l.2.2.2 rfl T.heap.size T.heap.size rfl (CJ _ #[] 0 (Y _) σ σ) _ rfl x.ts.length _ (YS (l.f.h5.q.z (QJ _ _)) _ _ underlying23 q.ct) ω ω σ ?_;intro g0 eM ws i t g);have j:Below T.heap.size T ws:=(QJ _ _).j (g.A σ);clear g t p cl;go_loopw [9,10] (λp g wr=>vV T wr x.ts D.ops N p g) (λ_ g _=>N-(intOf g).toNat)
 case atStart=>exact⟨0,g0,eM,AO _,rfl,by simp[MK],by simpa[MK] using i,j⟩
 case round =>
  clear i j;obtain⟨j,g,t,hj,rfl,rfl,i,H⟩:=hrel;have G:=yh (D.ops.take j);rw[BF]at G;have gZ:(x.ts++MK (D.ops.take j)).length<=4000:=by rw[AE];omega
  obtain⟨E,p⟩:∃y,Hid (y=x.ts++MK (D.ops.take j)):=⟨_,Z rfl⟩;rw[<-p.l]at i gZ⊢;clear G;replace l:=l.z H
  by_cases iM:j<N
  ·have iA:(j:Int)<(N:Int):=ω
   have iJ:(0:Int)<=(j:Int):=ω
   have iK:(j:Int)<(D.ops.length:Int):=ω
   have iV:=l.m.q.2.1.y 11;have iW:=l.m.q.2.1.lt;obtain⟨b1,o1,s0,n1,L,rfl,c0,O,Q,gI⟩:=l.m.q.2.2.p.ops.at (k:=j) ω;have G:=qS D.ops j ω;rw[<-gI.l]at G;have R:=Z G;clear G l;have M:=Z i;have G:=Z H;have iT:=pC c0;clear i H;have iR:IntKind.i64.wrap ((j:Int)+1)=((j+1:Nat):Int):=by rw[jv _ ω ω];omega
   cases s0 with
   | true =>
    go_wp2;exact⟨⟨j+1,g,t,ω,ν,by rw[R.l];simp[p.l],by rw[R.l];simpa[p.l] using M.l,G.l⟩,by simp[intOf];omega⟩
   | false =>
    go_wp2_with (at_builtin;refine QN _ rfl _ _ 23 rfl T.heap.size underlying23 HI.l rfl ω _ E.length _ rfl (M.l.alloc _) ⟨wr.heap.size,0,none⟩ 1 1 [.string L] rfl rfl (World.news_of_block (AW wr _)) (by intro u I;simp at I;subst I;rfl) (by have:=G.l.size;simp;omega) (wr.heap.size+1) σ ?_;intro g9 aI w9 X U bJ cA;have gH:=Z X;have gG:=Z U;clear X U bJ);have U:x.ts++MK (D.ops.take (j+1))=E++[L]:=by rw[R.l,p.l];simp
    have X:Below T.heap.size T w9:=TL ((G.l).alloc G.l.size _) (M.l.alloc _) gG.l (by have:=G.l.size;simp;omega);exact⟨⟨j+1,g9,aI,ω,ν,by rw[U];simp,by rw[U];simpa using gH.l,X⟩,by simp[intOf];omega⟩
  have G:j=N:=ω
  have eK:Hid (E=PU x e D):=Z (by rw[p.l,G,HN.l];rfl);have iN:¬(j:Int)<(N:Int):=ω
  clear G;have gT:=ny i;have iS:XB<wr.heap.size:=l.m.q.2.1.lt;have iC:w.heap.size+1+1+1<=g:=ω
  replace l:=l.add (UY (SA i) (aW.l _ iC));clear H i p;obtain⟨G,bY⟩:∃y,Hid (y=NW x e D):=⟨_,Z rfl⟩;have iB:G.length<=201:=by rw[bY.l];unfold NW;split<;>(try simp)<;>omega
  have cI:=l.r2.y 14;have cl:=l.r2.lt;have e0:=l.r3.y 0;have el:=l.r3.lt;go_upto_if 77 with fail;go_cut [11] from 75 to 85 (λi wx=>vW wr wx A G i)
  case first =>
   clear cI cl
   by_cases v:e.K=2
   ·have ep:G=x.P++[D.rs]:=by rw[bY.l];unfold NW;rw[AF v]
    have fE:(e.K == 2)=true:=by simp[v]
    clear v;obtain⟨news,cE,cC,fA⟩:=Ip (P:=prog) l.f.h4 34 31 underlying34 q.cp;go_upto_region 18 with fail;clear e0 el
    have M:Hid (∀W,Below wr.heap.size wr W->W.cell? ⟨XB,10,none⟩=some (.slice m D.rs.length o)):=λW p=>(l.z p).m.q.1.2.1.y 10
    refine AN (S:=λs=>s.cell? ⟨XB,10,none⟩=some (.slice m D.rs.length o)) κ (M.l _ (AC _ _).drew) (λdZ=>?_);refine V 1 (.slice q.p x.P.length q.cp) rfl dZ (V 3 (.pointer (some ⟨XB,1,none⟩)) rfl dZ (V 4 (.pointer (some ⟨XB,10,none⟩)) rfl dZ (V 5 (.agg #[.slice m D.rs.length o]) rfl dZ ?_)));simp only[J];refine DH (rs:=[0,6]) κ σ ?_;refine AY rfl (λU s=>?_) (AY rfl (λU s=>?_) DE)
    ·obtain⟨y0,H⟩:∃y,y=wr.drew:=⟨_,rfl⟩
     rw[<-H];have bZ:Below wr.heap.size wr y0:=by rw[H];exact(AC _ _).drew
     clear H;go_simp;have cW:=QJ y0 (.cells #[] 31);have bE:=LU y0 #[] 31
     have aE:=CJ (w:=y0) (e:=31) (size:=1) (base:=wr.heap.size) #[] 0 bZ.size (by first|simp|decide|omega) (by first|simp|decide|(unfold maxLen;omega)|omega)
     obtain⟨y1,O⟩:∃y,y=y0.alloc (.cells #[] 31):=⟨_,rfl⟩;obtain⟨b0,I⟩:∃y,y=y0.heap.size:=⟨_,rfl⟩;rw[<-O]at cW bE aE⊢;rw[<-I]at bE aE⊢;have X:=bZ.j (cW.A bZ.size);clear O;clear I;refine s.l _ _ (M.l _ X) (λgR=>?_)
     try simp only[J]
     refine DH (rs:=[2,6]) κ σ ?_;refine AY rfl (λU s=>?_) (AY rfl (λU s=>?_) DE)
     ·refine YJ rfl _ _ 34 rfl 31 i1 (.agg #[.slice none 0 0]) 1 24 underlying34 K.l.1 K.l.2.1 K.l.2.2.1 K.l.2.2.2 rfl b0 wr.heap.size rfl aE _ rfl x.P.length news (cE _ X) ω ω X.size ?_
      intro g3 cL y2 bG gE aR;have L:=X.j (aR.A X.size);refine s.l _ _ (M.l _ L) (λgS=>?_)
      try simp only[J]
      refine RD 6 rfl (λU s=>?_);go_simp;have R:=QJ y2 (.cells #[.slice m D.rs.length o] 31);have H:=LU y2 #[.slice m D.rs.length o] 31
      have aG:=CJ (w:=y2) (e:=31) (size:=1) (base:=wr.heap.size) #[.slice m D.rs.length o] 1 L.size (by first|simp|decide|omega) (by first|simp|decide|(unfold maxLen;omega)|omega)
      obtain⟨y3,O⟩:∃y,y=y2.alloc (.cells #[.slice m D.rs.length o] 31):=⟨_,rfl⟩;obtain⟨b6,I⟩:∃y,y=y2.heap.size:=⟨_,rfl⟩;rw[<-O]at R H aG⊢;rw[<-I]at H aG⊢;have Q:=L.j (R.A L.size);clear O;clear I;have bG:=LR bG R;refine s.l _ _ (M.l _ Q) (λgU=>?_)
      try simp only[J]
      refine RD 7 rfl (λU s=>?_);refine QM _ rfl _ _ 34 rfl wr.heap.size underlying34 K.l rfl ω _ x.P.length _ rfl bG ⟨b6,0,none⟩ 1 1 [.slice m D.rs.length o] rfl rfl (λj u I=>by rw[ZU];exact H.cell j u I) (by intro u I;simp at I;subst I;rfl) Q.size _ rfl ?_;intro g9 aI y4 o9 aY bJ cA;have O:Below wr.heap.size wr y4:=TL Q bG aY Q.size;refine s.l _ _ (M.l _ O) (λeV=>?_)
      try simp only[J]
      refine RD 8 rfl (λU s=>?_);go_simp;refine s.l _ _ eV (λ_=>?_)
      try simp only[J]
      refine DN ?_;clear M;go_wp2_with fail;go_meet;have r9:=SA o9;have fQ:=ny o9;refine⟨some ⟨g9,0,none⟩,aI,by rw[ep];simp,?_,O⟩;rw[ep];have s9:=O;exact kq (G:=A) cC (λi hi=>by obtain⟨p',c',r,v⟩:=fA i hi;exact⟨p',c',r,v.z s9⟩) r9 (aW.l _ ω) ((l.m.z s9).map λW k=>k.1.2.2.s.prs)
     go_simp
     have aR:=QJ y1 (.cells #[.slice m D.rs.length o] 31);have H:=LU y1 #[.slice m D.rs.length o] 31
     have aG:=CJ (w:=y1) (e:=31) (size:=1) (base:=wr.heap.size) #[.slice m D.rs.length o] 1 X.size (by first|simp|decide|omega) (by first|simp|decide|(unfold maxLen;omega)|omega)
     obtain⟨y2,O⟩:∃y,y=y1.alloc (.cells #[.slice m D.rs.length o] 31):=⟨_,rfl⟩;obtain⟨b6,I⟩:∃y,y=y1.heap.size:=⟨_,rfl⟩;rw[<-O]at aR H aG⊢;rw[<-I]at H aG⊢;have L:=X.j (aR.A X.size);clear O;clear I;have aE:=LR aE aR;refine s.l _ _ (M.l _ L) (λgV=>?_)
     try simp only[J]
     refine RD 2 rfl (λU s=>?_);refine YJ rfl _ _ 34 rfl 31 i1 (.agg #[.slice none 0 0]) 1 24 underlying34 K.l.1 K.l.2.1 K.l.2.2.1 K.l.2.2.2 rfl b0 wr.heap.size rfl aE _ rfl x.P.length news (cE _ L) ω ω L.size ?_;intro g3 cL y3 bG gE R;have Q:=L.j (R.A L.size);have H:=H.z R;refine s.l _ _ (M.l _ Q) (λgW=>?_)
     try simp only[J]
     refine RD 7 rfl (λU s=>?_);refine QM _ rfl _ _ 34 rfl wr.heap.size underlying34 K.l rfl ω _ x.P.length _ rfl bG ⟨b6,0,none⟩ 1 1 [.slice m D.rs.length o] rfl rfl (λj u I=>by rw[ZU];exact H.cell j u I) (by intro u I;simp at I;subst I;rfl) Q.size _ rfl ?_;intro g9 aI y4 o9 aY bJ cA;have O:Below wr.heap.size wr y4:=TL Q bG aY Q.size;refine s.l _ _ (M.l _ O) (λeX=>?_)
     try simp only[J]
     refine RD 8 rfl (λU s=>?_);go_simp;refine s.l _ _ eX (λ_=>?_)
     try simp only[J]
     refine DN ?_;clear M;go_wp2_with fail;go_meet;have r9:=SA o9;have fQ:=ny o9;refine⟨some ⟨g9,0,none⟩,aI,by rw[ep];simp,?_,O⟩;rw[ep];have s9:=O;exact kq (G:=A) cC (λi hi=>by obtain⟨p',c',r,v⟩:=fA i hi;exact⟨p',c',r,v.z s9⟩) r9 (aW.l _ ω) ((l.m.z s9).map λW k=>k.1.2.2.s.prs)
    obtain⟨y0,H⟩:∃y,y=wr.drew:=⟨_,rfl⟩
    rw[<-H];have bZ:Below wr.heap.size wr y0:=by rw[H];exact(AC _ _).drew
    clear H;go_simp;have cW:=QJ y0 (.cells #[.slice m D.rs.length o] 31);have H:=LU y0 #[.slice m D.rs.length o] 31
    have aG:=CJ (w:=y0) (e:=31) (size:=1) (base:=wr.heap.size) #[.slice m D.rs.length o] 1 bZ.size (by first|simp|decide|omega) (by first|simp|decide|(unfold maxLen;omega)|omega)
    obtain⟨y1,O⟩:∃y,y=y0.alloc (.cells #[.slice m D.rs.length o] 31):=⟨_,rfl⟩;obtain⟨b6,I⟩:∃y,y=y0.heap.size:=⟨_,rfl⟩;rw[<-O]at cW H aG⊢;rw[<-I]at H aG⊢;have X:=bZ.j (cW.A bZ.size);clear O;clear I;refine s.l _ _ (M.l _ X) (λfW=>?_)
    try simp only[J]
    refine RD 0 rfl (λU s=>?_);go_simp;have aR:=QJ y1 (.cells #[] 31);have bE:=LU y1 #[] 31
    have aE:=CJ (w:=y1) (e:=31) (size:=1) (base:=wr.heap.size) #[] 0 X.size (by first|simp|decide|omega) (by first|simp|decide|(unfold maxLen;omega)|omega)
    obtain⟨y2,O⟩:∃y,y=y1.alloc (.cells #[] 31):=⟨_,rfl⟩;obtain⟨b0,I⟩:∃y,y=y1.heap.size:=⟨_,rfl⟩;rw[<-O]at aR bE aE⊢;rw[<-I]at bE aE⊢;have L:=X.j (aR.A X.size);clear O;clear I;have H:=H.z aR;refine s.l _ _ (M.l _ L) (λfX=>?_)
    try simp only[J]
    refine RD 2 rfl (λU s=>?_);refine YJ rfl _ _ 34 rfl 31 i1 (.agg #[.slice none 0 0]) 1 24 underlying34 K.l.1 K.l.2.1 K.l.2.2.1 K.l.2.2.2 rfl b0 wr.heap.size rfl aE _ rfl x.P.length news (cE _ L) ω ω L.size ?_;intro g3 cL y3 bG gE R;have Q:=L.j (R.A L.size);have H:=H.z R;refine s.l _ _ (M.l _ Q) (λfY=>?_)
    try simp only[J]
    refine RD 7 rfl (λU s=>?_);refine QM _ rfl _ _ 34 rfl wr.heap.size underlying34 K.l rfl ω _ x.P.length _ rfl bG ⟨b6,0,none⟩ 1 1 [.slice m D.rs.length o] rfl rfl (λj u I=>by rw[ZU];exact H.cell j u I) (by intro u I;simp at I;subst I;rfl) Q.size _ rfl ?_;intro g9 aI y4 o9 aY bJ cA;have O:Below wr.heap.size wr y4:=TL Q bG aY Q.size;refine s.l _ _ (M.l _ O) (λcV=>?_)
    try simp only[J]
    refine RD 8 rfl (λU s=>?_);go_simp;refine s.l _ _ cV (λ_=>?_)
    try simp only[J]
    refine DN ?_;clear M;go_wp2_with fail;go_meet;have r9:=SA o9;have fQ:=ny o9;refine⟨some ⟨g9,0,none⟩,aI,by rw[ep];simp,?_,O⟩;rw[ep];have s9:=O;exact kq (G:=A) cC (λi hi=>by obtain⟨p',c',r,v⟩:=fA i hi;exact⟨p',c',r,v.z s9⟩) r9 (aW.l _ ω) ((l.m.z s9).map λW k=>k.1.2.2.s.prs)
   have ep:G=x.P:=by rw[bY.l];unfold NW;rw[AG v]
   have fE:(e.K == 2)=false:=by simp[v]
   go_wp2_with fail;go_meet;rw[ep];exact⟨q.p,q.cp,rfl,l.f.h4,AC _ _⟩
  case rest =>
  clear cI cl e0 el;obtain⟨pa,pc,rfl,I,p⟩:=hcut
  rename World=>vp
  replace l:=l.z p;clear p;go_upto_region 19 with fail;go_cut [93] from 86 to 92 (λbv wx=>bv=.bool (decide (2000<E.length\/200<G.length))/\wx=vp)
  case first =>
   by_cases s:2000<E.length
   ·have i:(2000:Int)<(E.length:Int):=ω
    go_wp2_with fail;go_meet;exact⟨by rw[AM (.inl s)],rfl⟩
   have i:¬((2000:Int)<(E.length:Int)):=ω
   by_cases L:200<G.length
   ·have p:(200:Int)<(G.length:Int):=ω
    go_wp2_with fail;go_meet;exact⟨by rw[AM (.inr L)],rfl⟩
   have p:¬((200:Int)<(G.length:Int)):=ω
   go_wp2_with fail;go_meet;exact⟨by rw[AJ ω],rfl⟩
  case rest =>
  obtain⟨rfl,i⟩:=hcut;rw[i];clear i
  by_cases i:2000<E.length\/200<G.length
  ·have H:C=x:=by rw[aP.l];exact ux dV.l dU.l HC.l (by rw[<-eK.l,<-bY.l];exact i)
   subst H;rw[AM i];go_upto_region 20 with fail;refine BG ?_;refine AS rfl 36 _ rfl w.heap.size 0 rfl _ _ l.r2.range underlying36 rfl LX ?_;simp only[J];refine BI rfl 36 _ _ rfl (w.heap.size+1+1) 0 (wA C q) rfl rfl (l.r4.there rfl) LX κ ?_
   try simp only[J]
   obtain⟨y8,p⟩:∃y9,y9=vp.setCells (w.heap.size+1+1) 0 (wL C q):=⟨_,rfl⟩;obtain⟨X,U,O⟩:=l.fin (l.f) cU.l (wL C q) rfl y8 p;rw[<-p];clear p l
   try go_wp2
   exact VP 4 36 results88 _ rfl (wL C q) _ X underlying36 rfl LX rfl ⟨q,rfl,O,U⟩
  rw[AJ i];have eF:Hid (¬(2000<(PU x e D).length\/200<(NW x e D).length)):=Z (by rw[<-eK.l,<-bY.l];exact i);have gJ:=Z (HO.l.ran e (d:=D) HD.l (by have:=eF.l;omega));clear i;obtain⟨i,s⟩:∃y,Hid (y=NG x.ss x.ws D.ops (N:Int)):=⟨_,Z rfl⟩;have fO:Hid (x.ran e D={ x with ss:=i.1,ws:=i.2,P:=G,ts:=E }):=Z (by rw[s.l,bY.l,eK.l,HN.l];rfl);have p:=CF.l ob oe (N:Int);rw[<-s.l]at p;have fG:=Z p;clear p CF s;have O:=l.r2.y 1;have Q:=l.r2.y 2;have cI:=l.r2.y 14;have p:=l.r2.y 15;have U:=l.r2.E 1;have X:=l.r2.E 2;have R:=l.r2.E 14;have s:=l.r2.E 15;have cl:=l.r2.lt;have H:=l.m.q.1.2.1.y 11;have xl:=l.m.q.1.2.1.lt;have iU:XB≠w.heap.size:=ω
  go_wp2_with fail;clear O U Q X cI R p s cl;clear H xl;have H:=(l.set 15 σ (.slice (some ⟨g,0,none⟩) E.length t)).set 14 σ (.slice pa G.length pc);have s:=(I.I (OG (BO vp (some w.heap.size)) 15 (.slice (some ⟨g,0,none⟩) E.length t)) (λg e=>by cases e;exact l.n.1)).I (OG (BO _ (some w.heap.size)) 14 (.slice pa G.length pc)) (λg e=>by cases e;exact l.n.1);generalize p:World.setCell (World.setCell _ _ _) _ _=v6 at H s⊢;clear p l I;refine(fG.l _ H.f.h1.q H.f.h2.q H.m.q.1.2.2.p.ops).A ?_;rintro r7 v7 ⟨I,r,L,M,rfl,Q,l,O,p⟩;have X:=H.r4.lt
  have R:DepF v7 A (λW=>Strs W I i.1):=(QK (PD (lo:=v6.heap.size) Q.s VU l) (λb k _=>aW.l b ω)).map λW k=>k.strs
  have U:DepF v7 A (λW=>Wrs W L i.2):=(QK (PD (lo:=v6.heap.size) Q.p ip O) (λb k _=>aW.l b ω)).map λW k=>k.wrs
  replace H:=(H.z p).add (R.and U);replace s:=s.z p;clear Q l O p R U fG X;have O:=H.r2.y 1;have Q:=H.r2.y 2;have U:=H.r2.E 1;have X:=H.r2.E 2;have cl:=H.r2.lt;go_upto_region 24 with fail;clear O U Q X cl;have l:=(H.set 1 σ (.slice I i.1.length r)).set 2 σ (.slice L i.2.length M);replace s:=(s.I (OG (BO v7 (some w.heap.size)) 1 (.slice I i.1.length r)) (λg e=>by cases e;exact H.n.1)).I (OG (BO _ (some w.heap.size)) 2 (.slice L i.2.length M)) (λg e=>by cases e;exact H.n.1);generalize p:World.setCell (World.setCell _ _ _) _ _=v8 at l s⊢;clear p H;have dd:=l.m
  cases CB with
  | true =>
   have H:C=(x.ran e D).pow e.fs:=by rw[aP.l];exact xt dV.l dU.l HC.l eF.l bU.l.symm
   have p:=gJ.l.le;rw[fO.l]at H p;have O:=Z (CP.l { x with ss:=i.1,ws:=i.2,P:=G,ts:=E } ⟨I,r,L,M,q.s,q.cs,pa,pc,some ⟨g,0,none⟩,t⟩ v8 ⟨dd.map λW k=>k.2.1,dd.map λW k=>k.2.2,l.f.h3,s,dd.map λW k=>k.1.2.strs⟩ p (fJ.l.z l.e));rw[<-H]at O;unfold LO at O;clear H p dd s;have Q:=l.r3.y 3;have p:=l.r3.lt;go_upto_region 25 with fail;refine BG ?_;refine AS rfl 36 _ rfl w.heap.size 0 rfl _ _ l.r2.range underlying36 rfl LX ?_;simp only[J];go_wp2_with fail;clear Q p;refine O.l.A ?_;rintro r9 v9 ⟨S,rfl,R,p⟩;have H:=l.r4.lt;replace R:=R.A (G:=A) (λb _ k=>k.elim id (λk=>aW.l b ω));replace l:=l.z p;clear p O;unfold LO
   try simp only[J]
   refine‹∀(a:Act) (w:World),wpList _ _ _ _ a w->_› _ _ ?_
   refine BI rfl 36 _ _ rfl (w.heap.size+1+1) 0 (wA C S) rfl rfl (l.r4.there rfl) LX κ ?_
   try simp only[J]
   obtain⟨y8,p⟩:∃y9,y9=v9.setCells (w.heap.size+1+1) 0 (wL C S):=⟨_,rfl⟩;obtain⟨X,U,O⟩:=l.fin (R) cU.l (wL C S) rfl y8 p;rw[<-p];clear p l
   try go_wp2
   exact VP 4 36 results88 _ rfl (wL C S) _ X underlying36 rfl LX rfl ⟨S,rfl,O,U⟩
  | false =>
   obtain⟨Q,eH⟩:∃y:List (List Pr),Hid (y=if e.K=2 then G else [D.rs]):=⟨_,Z rfl⟩;have H:C={ (x.ran e D).upS D with P:=Q }:=by rw[aP.l,eH.l,bY.l];exact I5 dV.l dU.l HC.l eF.l bU.l.symm
   rw[fO.l]at H;have ER:=Z H;clear H dd;go_upto_region 26 with fail;refine BG ?_;refine ic rfl _ _ _ rfl (.pointer (some ⟨XB,1,none⟩)) (by have xl:=l.m.q.1.1.2.1.lt;go_simp) ?_;simp only[J];refine AS rfl 33 _ rfl XB 1 rfl (sJ D.W D.S D.L D.T D.H D.F D.R D.U D.O (.slice m D.rs.length o)) _ (Row.rangeMid (pre:=[.int .i64 D.C]) (cs:=(sJ D.W D.S D.L D.T D.H D.F D.R D.U D.O (.slice m D.rs.length o))) (post:=[.slice ob D.ops.length oe]) l.m.q.1.1.2.1) underlying33 rfl ZH ?_;simp only[J];refine ic rfl _ _ _ rfl (.pointer (some ⟨w.heap.size,4,none⟩)) (by have cl:=l.r2.lt;go_simp) ?_;simp only[J];refine BI rfl 33 _ _ rfl w.heap.size 4 (sK D.W D.S D.L D.T D.H D.F D.R D.U D.O (.slice m D.rs.length o)) rfl rfl (Row.thereMid (pre:=[.int .i64 x.w,.slice I i.1.length r,.slice L i.2.length M,.bool x.up]) (cs:=(sJ x.W x.S x.L x.T x.H x.F x.R x.U x.O (.slice q.s x.rs.length q.cs))) (post:=[.slice pa G.length pc,.slice (some ⟨g,0,none⟩) E.length t]) l.r2 rfl) ZH κ ?_
   try simp only[J]
   have b:=l.put (OQ v8 w.heap.size 4 (sJ D.W D.S D.L D.T D.H D.F D.R D.U D.O (.slice m D.rs.length o))) (Row.setsMid (pre:=[.int .i64 x.w,.slice I i.1.length r,.slice L i.2.length M,.bool x.up]) (cs:=(sJ x.W x.S x.L x.T x.H x.F x.R x.U x.O (.slice q.s x.rs.length q.cs))) (post:=[.slice pa G.length pc,.slice (some ⟨g,0,none⟩) E.length t]) l.r2 (sJ D.W D.S D.L D.T D.H D.F D.R D.U D.O (.slice m D.rs.length o)) rfl);replace s:=s.I (OQ v8 w.heap.size 4 (sJ D.W D.S D.L D.T D.H D.F D.R D.U D.O (.slice m D.rs.length o))) (λg e=>by cases e;exact l.n.1);generalize p:v8.setCells _ _ _=v9 at b s⊢;clear p l;have l:=b.r2.y 3;have p:=b.r2.E 3;have cl:=b.r2.lt;have e0:=b.r3.y 0;have el:=b.r3.lt;go_upto_if 117 with fail;clear l p cl;have l:=b.set 3 σ (.bool true);replace s:=s.I (OG (BO v9 (some w.heap.size)) 3 (.bool true)) (λg e=>by cases e;exact b.n.1)
   generalize p:World.setCell _ _ _=va at l s⊢;clear p b;go_cut [] from 115 to 122 (λwx=>∃(H:Option Addr) (pd:Nat),DoS w wx A [.int .i64 x.w,.slice I i.1.length r,.slice L i.2.length M,.bool true,.int .i64 D.W,.int .i64 D.S,.int .i64 D.L,.int .i64 D.T,.int .i64 D.H,.int .i64 D.F,.int .i64 D.R,.int .i64 D.U,.int .i64 D.O,.slice m D.rs.length o,.slice H Q.length pd,.slice (some ⟨g,0,none⟩) E.length t] [.int .i64 e.K,.slice a e.b.length c,.int .i64 e.cut,.slice f e.fs.length d] x q (λW=>(((True/\zj W XB (dJ D.C D.W D.S D.L D.T D.H D.F D.R D.U D.O (.slice m D.rs.length o) (.slice ob D.ops.length oe)) D m ob)/\Row W g (E.map Value.string))/\(Strs W I i.1/\Wrs W L i.2)))/\PstF wx A H Q)
   case first =>
    by_cases v:e.K=2
    ·have ep:Q=G:=by rw[eH.l,AF v]
     have fE:(e.K == 2)=true:=by simp[v]
     clear v;go_wp2_with fail;go_meet;rw[ep];exact⟨pa,pc,l,s⟩
    have ep:Q=[D.rs]:=by rw[eH.l,AG v]
    have fE:(e.K == 2)=false:=by simp[v]
    clear v;have cI:=l.r2.y 14;have R:=l.r2.E 14;have cl:=l.r2.lt;have b:=l.m.q.1.1.2.1.y 10;have xl:=l.m.q.1.1.2.1.lt;go_wp2_with fail;clear cI R cl;clear b xl;go_meet;rw[ep];have X:w.heap.size+1+1+1<=va.heap.size:=by have:=l.r4.lt;omega
    have b:=(l.set 14 σ (.slice (some ⟨va.heap.size,0,none⟩) 1 1));have U:(va.setCell ⟨w.heap.size,14,none⟩ (.slice (some ⟨va.heap.size,0,none⟩) 1 1)).heap.size=va.heap.size:=BJ _ _ _;generalize p:va.setCell _ _=R at b U⊢;clear p;have p:=QJ R (.cells #[.slice m D.rs.length o] 31);have O:=LU R #[.slice m D.rs.length o] 31;rw[U]at O;exact⟨some ⟨va.heap.size,0,none⟩,1,b.z p,qH O (aW.l _ X) ((b.m.z p).map λW k=>k.1.1.2.2.s.prs)⟩
   case rest =>
   clear l s e0 el;obtain⟨H,pd,b,s⟩:=hcut
   rename World=>l
   have R:WoF C l A ⟨I,r,L,M,m,o,H,pd,some ⟨g,0,none⟩,t⟩:=by rw[ER.l];exact⟨b.m.map λW k=>k.2.1,b.m.map λW k=>k.2.2,b.m.map λW k=>k.1.1.2.2.s.prs,s,b.m.map λW k=>k.1.2.strs⟩
   go_upto_region 30 with fail;refine BG ?_;refine AS rfl 36 _ rfl w.heap.size 0 rfl _ _ b.r2.range underlying36 rfl LX ?_;simp only[J];refine BI rfl 36 _ _ rfl (w.heap.size+1+1) 0 #[.int .i64 x.w,.slice I i.1.length r,.slice L i.2.length M,.bool true,.int .i64 D.W,.int .i64 D.S,.int .i64 D.L,.int .i64 D.T,.int .i64 D.H,.int .i64 D.F,.int .i64 D.R,.int .i64 D.U,.int .i64 D.O,.slice m D.rs.length o,.slice H Q.length pd,.slice (some ⟨g,0,none⟩) E.length t] rfl rfl (b.r4.there rfl) LX κ ?_
   try simp only[J]
   obtain⟨y8,p⟩:∃y9,y9=l.setCells (w.heap.size+1+1) 0 [.int .i64 x.w,.slice I i.1.length r,.slice L i.2.length M,.bool true,.int .i64 D.W,.int .i64 D.S,.int .i64 D.L,.int .i64 D.T,.int .i64 D.H,.int .i64 D.F,.int .i64 D.R,.int .i64 D.U,.int .i64 D.O,.slice m D.rs.length o,.slice H Q.length pd,.slice (some ⟨g,0,none⟩) E.length t]:=⟨_,rfl⟩;obtain⟨X,U,O⟩:=b.fin (R) cU.l [.int .i64 x.w,.slice I i.1.length r,.slice L i.2.length M,.bool true,.int .i64 D.W,.int .i64 D.S,.int .i64 D.L,.int .i64 D.T,.int .i64 D.H,.int .i64 D.F,.int .i64 D.R,.int .i64 D.U,.int .i64 D.O,.slice m D.rs.length o,.slice H Q.length pd,.slice (some ⟨g,0,none⟩) E.length t] rfl y8 p;rw[<-p];clear p b
   try go_wp2
   refine VP 4 36 results88 _ rfl [.int .i64 x.w,.slice I i.1.length r,.slice L i.2.length M,.bool true,.int .i64 D.W,.int .i64 D.S,.int .i64 D.L,.int .i64 D.T,.int .i64 D.H,.int .i64 D.F,.int .i64 D.R,.int .i64 D.U,.int .i64 D.O,.slice m D.rs.length o,.slice H Q.length pd,.slice (some ⟨g,0,none⟩) E.length t] _ X underlying36 rfl LX rfl ⟨⟨I,r,L,M,m,o,H,pd,some ⟨g,0,none⟩,t⟩,?_,O,U⟩;rw[ER.l];rfl
