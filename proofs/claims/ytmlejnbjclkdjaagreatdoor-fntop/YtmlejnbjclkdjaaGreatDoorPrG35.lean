import Derived.Test.YtmlejnbjclkdjaaGreatDoorPrWdO
import Derived.Test.YtmlejnbjclkdjaaGreatDoorPrWdT
set_option maxHeartbeats 16000000
set_option maxRecDepth 8000
set_option linter.all false
namespace Go.Proofs.YtmlejnbjclkdjaaGreatDoor
open _root_.ByteArray(empty)
section
open Tryz
open Go.RowKit nw
def EvR(W:Nb)(g:Nat)(a:List EvY):Prop:=Row W g (SG a)/\∀y∈a,Chs W y.ba y.e.b/\Ints W y.fa y.e.fs
theorem EvO.rd{a:Nat}{w:Nb}{g c:Nat}{e:List EvY}(h:EvO a w g c e):DepF w (λb=>a<=b) (λW=>EvR W g e):=by
 have r:=TE h.own;have l:=h.own.lt g rfl;exact(LZ r (FF:=λb=>a<=b) l.1).and ⟨λy d=>(h.dp y d).2.q,λj f i y d=>((h.dp y d).2.z (G:=λb=>a<=b) (λb _ k=>k.1)).keep j f i⟩
theorem vF:∀(a:List EvY) (i:Nat) (y:EvY),a[i]?=some y->∀j,j<4->(SG a)[i*4+j]?=y.cs[j]?
 | [],i,y,h,_,_=>by simp at h
 | z::r,0,y,h,j,hj=>by
  simp at h;subst h;show(z.cs++SG r)[0*4+j]?=_;rw[BC (by show 0*4+j<4;omega)]
  congr 1
  omega
 | z::r,i+1,y,h,j,hj=>by
  have b:r[i]?=some y:=by simpa using h
  show(z.cs++SG r)[(i+1)*4+j]?=_;rw[DG (by show 4<=_;omega)];have:(i+1)*4+j-z.cs.length=i*4+j:=by show(i+1)*4+j-4=_;omega
  rw[this];exact vF r i y b j hj
theorem EvR.at{W:Nb}{g:Nat}{a:List EvY}(h:EvR W g a){i:Nat}(b:i<a.length):W.cell? ⟨g,i*4,none⟩=some (.int .i64 (a[i]).e.K)/\W.cell? ⟨g,i*4+1,none⟩=some (.slice (a[i]).ba (a[i]).e.b.length (a[i]).bc)/\W.cell? ⟨g,i*4+2,none⟩=some (.int .i64 (a[i]).e.cut)/\W.cell? ⟨g,i*4+3,none⟩=some (.slice (a[i]).fa (a[i]).e.fs.length (a[i]).fc):=by
 have k:=vF a i a[i] (BQ b);exact⟨h.1.cell (i*4) _ (k 0 ω),h.1.cell (i*4+1) _ (k 1 ω),h.1.cell (i*4+2) _ (k 2 ω),h.1.cell (i*4+3) _ (k 3 ω)⟩
structure TwI(w0 w:Nb)(B C e0 g:Nat)(ys:List EvY)(x:Wo)(q:Wp)(y:Wo)(r:Wp):Prop where
 r1:Row w B (OS x q)
 r2:Row w C (OS y r)
 m1:DepF w (λb=>w0.heap.size<=b/\b≠B/\b≠C) (λW=>x.at W q)
 m2:DepF w (λb=>w0.heap.size<=b/\b≠B/\b≠C) (λW=>y.at W r)
 ev:DepF w (λb=>e0<=b) (λW=>EvR W g ys)
 lB:w0.heap.size<=B/\B<e0
 lC:w0.heap.size<=C/\C<e0
 le:e0<=w.heap.size
 ne:B≠C
 cap:x.rs.length<=q.cs
 bl:Below w0.heap.size w0 w
section
variable {w0 w w1 w2:Nb} {B C e0 g:Nat} {ys:List EvY} {x y z:Wo} {q r q':Wp}
theorem TwI.I(h:TwI w0 w B C e0 g ys x q y r)(a:Below w.heap.size w w1):TwI w0 w1 B C e0 g ys x q y r :=⟨h.r1.I a,h.r2.I a,h.m1.I a,h.m2.I a,h.ev.I a,h.lB,h.lC,AK h.le a.size,h.ne,h.cap,h.bl.j (a.z h.bl.size)⟩
theorem TwI.put1(h:TwI w0 w B C e0 g ys x q y r){c i:Nat}(d:DepF w (λb=>c<=b/\b<i) (λW=>z.at W q'))(l:e0<=c)(f:z.rs.length<=q'.cs):TwI w0 (w.setCells B 0 (OS z q')) B C e0 g ys z q' y r:=by
 have a:=LG w B 0 (OS z q');have j:=h.lB;have m:=h.lC;exact⟨h.r1.sets (OS z q') rfl,h.r2.J a (λe=>h.ne (CE e).symm),(d.J a (λb e k=>by cases e;omega)).z (λb _ k=>⟨ω,ω,ω⟩),h.m2.J a (λb e k=>by cases e;exact k.2.1 rfl),h.ev.J a (λb e k=>by cases e;omega),h.lB,h.lC,AK h.le a.size,h.ne,f,h.bl.j (NR a h.bl.size (λb e=>by cases e;exact j.1))⟩
theorem TwI.put2(h:TwI w0 w B C e0 g ys x q y r){c f:Nat}(d:DepF w (λb=>c<=b/\b<f) (λW=>z.at W q'))(j:e0<=c):TwI w0 (w.setCells C 0 (OS z q')) B C e0 g ys x q z q':=by
 have a:=LG w C 0 (OS z q');have l:=h.lB;have i:=h.lC;exact⟨h.r1.J a (λe=>h.ne (CE e)),h.r2.sets (OS z q') rfl,h.m1.J a (λb e k=>by cases e;exact k.2.2 rfl),(d.J a (λb e k=>by cases e;omega)).z (λb _ k=>⟨ω,ω,ω⟩),h.ev.J a (λb e k=>by cases e;omega),h.lB,h.lC,AK h.le a.size,h.ne,h.cap,h.bl.j (NR a h.bl.size (λb e=>by cases e;exact i.1))⟩
theorem xX(h:TwI w0 w B C e0 g ys x q y r)(hv:CwG w0)(j:NI x=true){i:Nat}(t:i<ys.length)(s:(ys[i]).e.le):Calls prog 7 #[MB x q,(ys[i]).v] w λo a=>∃q',o=M3 (MB (x.doE (ys[i]).e) q')/\TwI w0 a B C e0 g ys x q y r/\TwI w0 (a.setCells B 0 (OS (x.doE (ys[i]).e) q')) B C e0 g ys (x.doE (ys[i]).e) q' y r/\Below w.heap.size w a:=by
 have c:=hv.I h.bl;obtain⟨v,n,p⟩:=c.np;have f:=h.ev.q.2 _ (GL t);refine(Cn x q (ys[i]).e (ys[i]).ba (ys[i]).bc (ys[i]).fa (ys[i]).fc w h.m1.q h.cap ((dk j).1.le) f.1 f.2 s v n p c.et c.ln).z ?_;rintro o a ⟨q',A,rfl,l,u,d,e⟩;have m:x.doR (ys[i]).e=x.doE (ys[i]).e:=by unfold Wo.doR;rw[AE j]
 rw[m]at l e⊢;exact⟨q',rfl,h.I d,(h.I d).put1 (sQ l (λb k=>u b k)) h.le e,d⟩
theorem Lu(h:TwI w0 w B C e0 g ys x q y r)(f:NI y=true){i:Nat}(n:i<ys.length)(m:(ys[i]).e.le):Calls prog 8 #[MB y r,(ys[i]).v] w λo a=>∃q',o=M3 (MB (y.doE (ys[i]).e) q')/\TwI w0 a B C e0 g ys x q y r/\TwI w0 (a.setCells C 0 (OS (y.doE (ys[i]).e) q')) B C e0 g ys x q (y.doE (ys[i]).e) q'/\DepF (a.setCells C 0 (OS (y.doE (ys[i]).e) q')) (λb=>w0.heap.size<=b/\b≠B/\b≠C) (λW=>y.at W r)/\Below w.heap.size w a:=by
 have d:=h.ev.q.2 _ (GL n);refine(Jv y r (ys[i]).e (ys[i]).ba (ys[i]).bc (ys[i]).fa (ys[i]).fc w h.m2.q ((dk f).1.le) d.1 d.2 m).z ?_;rintro o a ⟨q',s,rfl,j,p,c⟩;have l:y.doR (ys[i]).e=y.doE (ys[i]).e:=by unfold Wo.doR;rw[AE f]
 rw[l]at j⊢;exact⟨q',rfl,h.I c,(h.I c).put2 (sQ j (λb k=>p b k)) h.le,(h.I c).m2.J (LG a C 0 _) (λb e k=>by cases e;exact k.2.2 rfl),c⟩
end
section
variable {x:Wo} {N n q:Nat} {c:Int}
theorem Ei(h:¬TJ x=empty):∃y,MA (TJ x) x.w=some y:=by
 unfold TJ at h⊢
 split at h
 rotate_left
 ·exact absurd rfl h
 rename_i e;rw[AE e]
 have d:∀l:List Y,¬UX x.w x.ts l=empty->∃y,MA (UX x.w x.ts l) x.w=some y:=by
  intro l
  induction l with
  | nil=>intro k;exact absurd rfl k
  | cons a r f =>
   intro k
   by_cases b:RW x.w x.ts a=true
   ·rw[im b]
    unfold RW at b;rw[AX]at b;exact FW.1 b.1
   rw[cn (by simpa using b)]at k⊢
   exact f k
 exact d _ h
structure TwF(x:Wo):Prop where
 fd:(RP x).2=0
 fr:(RP x).1∈x.P
 ri:XE x=true
 up:x.up=true->x.P.getLast?=some x.rs
theorem Ef(h:TI x N n q c)(d:NI x=true)(f:TJ x=empty):TwF x:=by
 have i:=qE (n:=n) (q:=q) d h.hn (by have:=VV h.hN h.hq;have:=h.g.n;omega) f;obtain⟨a,b⟩:=h.found i;have e:RP x=((OP x.ss [] (n:Int)).rs,(OP x.ss [] (n:Int)).C):=by unfold RP;rw[AE d,h.hn]
 refine⟨by rw[e];exact a,by rw[e];exact b,?_,λg=>?_⟩
 ·unfold XE
  rw[AX,AT];refine⟨by rw[e];exact a,List.any_eq_true.2 ⟨_,b,?_⟩⟩;rw[AT,e]
 rcases h.st with s|⟨k,_⟩
 ·exact s.tu.pl
 rw[g]at k;cases k
theorem Jt{P:Program}{d:Array Oper}{o:Oper}{a:Act}{w:Nb}{K:Act->Nb->Prop}{Q:Exit->Act->Nb->Prop}{E:Prop}(m:Region.wanted o (yielded d a.tmps)=true)(f:FuncId)(b:Array Nc)
  (i:(execOp a.eval o).run P w=.ok (.enter f b) w){C:Ending->Nb->Prop}(j:Calls P f b w C)(h:∀e g,C e g->∃v,e=M3 v/\K (a.put o.dst v) g):if Region.wanted o (yielded d a.tmps)=true then Oper.wp P o a w K Q else E:=by
 rw[AE m];unfold Oper.wp;rw[i,Oper.upon_enter]
 refine j.z λe g k=>?_
 obtain⟨v,rfl,l⟩:=h e g k;exact l
theorem Mm{P:List (List Pr)}{a:List Pr}(h:P.getLast?=some a):∃j,P.length=j+1/\P.getD j []=a:=by
 have b:P≠[]:=λe=>by rw[e]at h;cases h
 have d:0<P.length:=List.length_pos_iff.2 b;refine⟨P.length-1,ω,?_⟩;rw[List.getLast?_eq_getElem?]at h;rw[List.getD,h];rfl
theorem zG{x:Wo}{e:Ev}(h:e.K=5):(x.doE e).up=false:=by unfold Wo.doE;rw[AE h];rfl
theorem Fs{k:Nat}(h:TI x N n q (k:Int))(j:k+1<=60)(g:NI x=true)(e:Ev)(d:TJ (x.doE e)=empty):TI (x.doE e) N n q ((k+1:Nat):Int)/\TwF (x.doE e)/\(x.up=false->e=⟨1,[],-1,[]⟩->(x.doE e).up=true/\(x.doE e).rs∈x.P):=by
 have a:=nI g e;have f:=qE (n:=n) (q:=q) a ((cd x e).j h.hn) (by have:=VV h.hN h.hq;have:=(h.g.doE e).n;omega) d
 have t:TI (x.doE e) N n q ((k+1:Nat):Int):=by
  have:=h.step ω e f;rw[show((k+1:Nat):Int)=(k:Int)+1 by omega];exact this
 exact⟨t,Ef t a d,λi b=>(h.op ω i (by rw[b]) f).2 (by rw[b])⟩
end
section
variable {w:Nb} {ops:Array Oper} {rest:List Oper} {o:Oper} {A:Act} {Q:Exit->Act->Nb->Prop}
theorem xY(v:Nc)(b:(execOp A.eval o).run prog w=.ok (.value v) w)(k:wpList prog ops Q rest (A.put o.dst v) w)(c:Region.wanted o (yielded ops A.tmps)=true:=by rfl):wpList prog ops Q (o::rest) A w:=by
 refine wpList_step λK a=>?_
 rw[AE c];unfold Oper.wp;simp only[b];exact a _ _ k
theorem ZZ{B:Nat}{x:Wo}{q:Wp}(h:Row w B (OS x q))(k:wpList prog ops Q rest (A.put o.dst (MB x q)) w){z:Operand}(b:Region.wanted o (yielded ops A.tmps)=true:=by rfl)(a:o.op=.load 36 z:=by rfl)(c:A.eval z=Mv B 0:=by rfl):wpList prog ops Q (o::rest) A w :=xY _ (LJ 36 z a B 0 c (OS x q) _ (Row.rangeMid (pre:=[]) (post:=[]) (by simpa using h)) underlying36 rfl MO) k b
end
end
section
open Tryz
open Go.RowKit nw
theorem n7{w d:Nb}{e:Ending}{n j:Int}(h:NwPost w d e j (newSS n) 1):∃q,e=M3 (MB (LN n j) q)/\DepF d (λb=>w.heap.size<=b/\b<d.heap.size) (λW=>(LN n j).at W q)/\Below w.heap.size w d:=by
 obtain⟨a,c,l,m,p,o,rfl,k,u,v,x,y⟩:=h
 have q:∀f:Nb,(∀b,(w.heap.size<=b/\b<d.heap.size)->b<d.heap.size->f.heap[b]?=d.heap[b]?)->d.heap.size<=f.heap.size->(LN n j).at f ⟨a,c,l,m,none,0,p,o,none,0⟩:=λf i s=>by
  have z:OwnS f a ((newSS n).map Value.string):=by
   rcases k with k|⟨g,rfl,r⟩
   ·exact .inl k
   by_cases b:newSS n=[]
   ·exact .inl (by rw[b];rfl)
   have:=(v g (NT g 0 _ (by simpa using b))).1
   exact .inr ⟨g,rfl,MG r (i g ⟨this,r.lt⟩ r.lt) (AD r.lt s)⟩
  have A:Pst f p [[]]:=by
   obtain⟨g,rfl,r⟩:=u.resolve_left σ;have:=x g (NT g 0 1 ω);have t:=MG r (i g ⟨this,r.lt⟩ r.lt) (AD r.lt s)
   exact .inr ⟨g,0,rfl,t.lt,λi b=>match i,b with|0,_=>⟨none,0,t.y 0,.inl rfl⟩|i+1,b=>absurd b σ⟩
  exact⟨z.strs,.inl rfl,.inl rfl,A,.inl rfl⟩
 exact⟨⟨a,c,l,m,none,0,p,o,none,0⟩,rfl,⟨q d (λ_ _ _=>rfl) (AA _),λf b g=>q f g b.size⟩,y⟩
def wY(w a:Nb)(r:Ending):Prop:=∃x q N,r=M3 (MB x q)/\x.good N/\(8<=N/\N<=40)/\(1<=x.w/\x.w<=8)/\Below w.heap.size w a
theorem xO(a:M6)(n c:Nat)(w:Nb)(h:Bys w a n)(u:n<=1048576)(s:n<=c):Calls prog 18 #[.slice a n c] w λr b=>wY w b r:=by
 go_enter func18,ntmps18;go_upto_region 1 with fail;generalize b:w.alloc _=y;obtain⟨d,i,e⟩:=LY b;clear b;have j:=Z e.q;have b:=Z d;have l:=h.I d;clear e d h;go_wp2_with fail;refine(sE a n c y l u s).z ?_;rintro e z ⟨rfl,⟨m,p,o⟩,g⟩;have k:=Z (j.l.I g);have f:=Z (b.l.j (g.z b.l.size));have d:=Z o;clear j b o g l;rw[i];rw[i]at d;clear i;go_wp2_with fail;refine(Hz _ a m p 0 _ d.l ω).z ?_;rintro r l ⟨⟨x,q,N,rfl,t,o,v⟩,-,i⟩;have j:=k.l.J i (λe=>by injection e with e;omega);have b:=f.l.j (NR i f.l.size (λg e=>by injection e with e;omega));clear k f d i;unfold MB
 try simp only[PS]
 refine‹∀(a:Act) (w:Nb),wpList _ _ _ _ a w->_› _ _ ?_
 refine BI rfl 36 _ _ rfl w.heap.size 0 (OS x q).toArray rfl rfl (j.there rfl) MO κ ?_;have f:=j.sets (OS x q) rfl;have d:=b.j (NR (LG l w.heap.size 0 (OS x q)) b.size (λg e=>by cases e;exact AA _));generalize g:l.setCells _ _ _=i at f d⊢;clear g j b
 try go_wp2
 exact LV 2 36 results18 _ rfl (OS x q) _ f underlying36 rfl MO rfl ⟨x,q,N,rfl,t,o,v,d⟩
def wU(w a:Nb)(r:Ending):Prop:=∃(N n:Nat) (q:Wp),r=M3 (.tuple #[MB (LN (N:Int) (n:Int)) q,M0 true])/\(8<=N/\N<=40)/\(1<=n/\n<=8)/\DepF a (λb=>w.heap.size<=b/\b<a.heap.size) (λW=>(LN (N:Int) (n:Int)).at W q)/\Below w.heap.size w a
theorem yZ(a:M6)(n c:Nat)(w:Nb)(h:Bys w a n)(R:n<=1048576)(Q:n<=c):Calls prog 4 #[.slice a n c] w λr A=>wU w A r:=by
 go_enter func4,ntmps4;go_upto_region 1 with fail;generalize b:w.alloc _=S;obtain⟨d,m,e⟩:=LY b;clear b;have f:=Z e.q;have b:=Z d;have j:=h.I d;clear e d h;go_wp2_with fail;refine(xO a n c S j R Q).z ?_;rintro r G ⟨x,q,N,rfl,k,hN,i,d⟩;have l:x.ss.length=N:=k.n;have g:=Z (f.l.I d);have e:=Z (b.l.j (d.z b.l.size));have l2:w.heap.size<G.heap.size:=g.l.lt;clear f b d j m k;obtain⟨d,b⟩:∃k:Nat,x.w=(k:Int):=⟨x.w.toNat,ω⟩;unfold MB;rw[l,b];rw[b]at i;generalize x.ws.length=L1,x.up=L2,x.W=L3,x.S=L4,x.L=L5,x.T=L6,x.H=L7,x.F=L8,x.R=L9,x.U=L10,x.O=L11,x.rs.length=L12,x.P.length=L13,x.ts.length=u;clear l b
 try simp only[PS]
 refine‹∀(a:Act) (w:Nb),wpList _ _ _ _ a w->_› _ _ ?_
 refine ks ?_;generalize b:G.alloc _=M;obtain⟨j,s,m⟩:=LY b;clear b;have l:=m.q;obtain⟨X,o⟩:∃X,X=G.heap.size:=⟨_,rfl⟩;have f:=g.l.I j;have b:=e.l.j (j.z e.l.size);rw[<-o]at l⊢;have V:w.heap.size<X:=ω
 clear m j g e
 try simp only[PS]
 refine BI rfl 36 _ _ rfl X 0 #[.int .i64 (d:Int),.slice q.a N q.c,.slice q.a' L1 q.c',M0 L2,.int .i64 L3,.int .i64 L4,.int .i64 L5,.int .i64 L6,.int .i64 L7,.int .i64 L8,.int .i64 L9,.int .i64 L10,.int .i64 L11,.slice q.s L12 q.cs,.slice q.p L13 q.cp,.slice q.t u q.ct] rfl rfl (l.there rfl) MO κ ?_;have m:=l.sets [.int .i64 (d:Int),.slice q.a N q.c,.slice q.a' L1 q.c',M0 L2,.int .i64 L3,.int .i64 L4,.int .i64 L5,.int .i64 L6,.int .i64 L7,.int .i64 L8,.int .i64 L9,.int .i64 L10,.int .i64 L11,.slice q.s L12 q.cs,.slice q.p L13 q.cp,.slice q.t u q.ct] rfl;have j:=LG M X 0 [.int .i64 (d:Int),.slice q.a N q.c,.slice q.a' L1 q.c',M0 L2,.int .i64 L3,.int .i64 L4,.int .i64 L5,.int .i64 L6,.int .i64 L7,.int .i64 L8,.int .i64 L9,.int .i64 L10,.int .i64 L11,.slice q.s L12 q.cs,.slice q.p L13 q.cp,.slice q.t u q.ct];generalize p:M.setCells _ _ _=T at m j⊢
 have f:=f.J j (λe=>by injection e with e;omega);have b:=b.j (NR j b.size (λg e=>by cases e;omega));clear p j l o s
 try simp only[PS]
 have p:=m.y 0;have s:=m.y 1;have lX:=m.lt;have o:=Z f;have j:=Z b;have l:=Z m;clear f b m;go_wp2_with fail;refine(nw_i_yes (N:Int) (d:Int) T ω i).z ?_;intro r y m;obtain⟨f,rfl,K,b⟩:=n7 m;clear m p s;have t:(LN (N:Int) (d:Int)).ss.length=N:=by show(newSS (N:Int)).length=N;unfold newSS;rw[AE ω];simp
 have E:=Z (o.l.I b);have v:=Z (l.l.I b);have B:=j.l.j (b.z j.l.size);have l5:=v.l.lt;have s5:=j.l.size;clear o l j b
 try simp only[PS]
 refine‹∀(a:Act) (w:Nb),wpList _ _ _ _ a w->_› _ _ ?_
 refine ks ?_;generalize b:y.alloc _=H;have D:Row H y.heap.size [.int .i64 0,.slice none 0 0,.slice none 0 0,M0 false,.int .i64 0,.int .i64 0,.int .i64 0,.int .i64 0,.int .i64 0,.int .i64 0,.int .i64 0,.int .i64 0,.int .i64 0,.slice none 0 0,.slice none 0 0,.slice none 0 0]:=(LY b).2.2.q;have p:=(LY b).1;clear b
 try simp only[PS]
 refine vf D ?_;have o:=D.sets (OS (LN (N:Int) (d:Int)) f) rfl;have j:=LG H y.heap.size 0 (OS (LN (N:Int) (d:Int)) f);obtain⟨s,I⟩:∃s,s=y.heap.size:=⟨_,rfl⟩;rw[<-I]at o j⊢;generalize O:H.setCells _ _ _=z at o j⊢;have L:=(E.l.I p).J j (λe=>by injection e with e;omega);have m:=(v.l.I p).J j (λe=>by injection e with e;omega);have C:=B.j (p.z B.size);have F:=C.j (NR j C.size (λg e=>by cases e;omega));have J:=((K.I p).J j (λg e k=>by cases e;omega)).z (G:=λb=>w.heap.size<=b/\b<s/\b≠w.heap.size) (λb l k=>⟨ω,ω,ω⟩);clear O j K E v p D B C;have U:X<s:=ω
 clear I;unfold OS at o;rw[t]at o;unfold MB;rw[t]
 try simp only[PS]
 go_upto_region 3 with fail;have j:Below z.heap.size z z.drew:=(AB _ _).drew;have C:=m.I j;have D:=o.I j;have E:=L.I j;have v:=F.j (j.z F.size);have B:=J.I j;clear j m o L F J;refine AN (S:=λA=>Row A X [.int .i64 (d:Int),.slice q.a N q.c,.slice q.a' L1 q.c',M0 L2,.int .i64 L3,.int .i64 L4,.int .i64 L5,.int .i64 L6,.int .i64 L7,.int .i64 L8,.int .i64 L9,.int .i64 L10,.int .i64 L11,.slice q.s L12 q.cs,.slice q.p L13 q.cp,.slice q.t u q.ct]/\Row A s [.int .i64 (LN (N:Int) (d:Int)).w,.slice f.a N f.c,.slice f.a' (LN (N:Int) (d:Int)).ws.length f.c',M0 (LN (N:Int) (d:Int)).up,.int .i64 (LN (N:Int) (d:Int)).W,.int .i64 (LN (N:Int) (d:Int)).S,.int .i64 (LN (N:Int) (d:Int)).L,.int .i64 (LN (N:Int) (d:Int)).T,.int .i64 (LN (N:Int) (d:Int)).H,.int .i64 (LN (N:Int) (d:Int)).F,.int .i64 (LN (N:Int) (d:Int)).R,.int .i64 (LN (N:Int) (d:Int)).U,.int .i64 (LN (N:Int) (d:Int)).O,.slice f.s (LN (N:Int) (d:Int)).rs.length f.cs,.slice f.p (LN (N:Int) (d:Int)).P.length f.cp,.slice f.t (LN (N:Int) (d:Int)).ts.length f.ct]) κ (⟨C,D⟩) (λo=>?_)
 refine TK 0 (.agg #[.int .i64 (LN (N:Int) (d:Int)).w,.slice f.a N f.c,.slice f.a' (LN (N:Int) (d:Int)).ws.length f.c',M0 (LN (N:Int) (d:Int)).up,.int .i64 (LN (N:Int) (d:Int)).W,.int .i64 (LN (N:Int) (d:Int)).S,.int .i64 (LN (N:Int) (d:Int)).L,.int .i64 (LN (N:Int) (d:Int)).T,.int .i64 (LN (N:Int) (d:Int)).H,.int .i64 (LN (N:Int) (d:Int)).F,.int .i64 (LN (N:Int) (d:Int)).R,.int .i64 (LN (N:Int) (d:Int)).U,.int .i64 (LN (N:Int) (d:Int)).O,.slice f.s (LN (N:Int) (d:Int)).rs.length f.cs,.slice f.p (LN (N:Int) (d:Int)).P.length f.cp,.slice f.t (LN (N:Int) (d:Int)).ts.length f.ct]) rfl (BO ⟨ρ,λw i=>by obtain⟨p,m⟩:=i;exact LJ 36 _ rfl s 0 rfl [.int .i64 (LN (N:Int) (d:Int)).w,.slice f.a N f.c,.slice f.a' (LN (N:Int) (d:Int)).ws.length f.c',M0 (LN (N:Int) (d:Int)).up,.int .i64 (LN (N:Int) (d:Int)).W,.int .i64 (LN (N:Int) (d:Int)).S,.int .i64 (LN (N:Int) (d:Int)).L,.int .i64 (LN (N:Int) (d:Int)).T,.int .i64 (LN (N:Int) (d:Int)).H,.int .i64 (LN (N:Int) (d:Int)).F,.int .i64 (LN (N:Int) (d:Int)).R,.int .i64 (LN (N:Int) (d:Int)).U,.int .i64 (LN (N:Int) (d:Int)).O,.slice f.s (LN (N:Int) (d:Int)).rs.length f.cs,.slice f.p (LN (N:Int) (d:Int)).P.length f.cp,.slice f.t (LN (N:Int) (d:Int)).ts.length f.ct] _ m.range underlying36 rfl MO⟩) o ?_
 simp only[PS];refine TK 1 (Mv s 0) rfl (BO ⟨ρ,λw i=>by obtain⟨p,m⟩:=i;have l:=m.lt;go_simp⟩) o ?_;simp only[PS];refine TK 2 (.int .i64 (d:Int)) rfl (BO ⟨ρ,λw i=>by obtain⟨p,m⟩:=i;have c:w.cell? ⟨s,0,none⟩=some (.int .i64 (d:Int)):=m.y 0;clear v B;go_simp⟩) o ?_;simp only[PS];refine TK 3 (Mv X 0) rfl (BO ⟨ρ,λw i=>by obtain⟨p,m⟩:=i;have l:=p.lt;go_simp⟩) o ?_;simp only[PS];refine TK 4 (.int .i64 (d:Int)) rfl (BO ⟨ρ,λw i=>by obtain⟨p,m⟩:=i;have c:=p.y 0;go_simp⟩) o ?_;simp only[PS];refine TY 5 (M0 true) rfl o ?_;simp only[PS];refine TY 6 (M0 true) rfl o ?_;simp only[PS];refine TK 7 (Mv s 1) rfl (BO ⟨ρ,λw i=>by obtain⟨p,m⟩:=i;have l:=m.lt;go_simp⟩) o ?_;simp only[PS];refine TK 8 (Mv s 1) rfl (BO ⟨ρ,λw i=>by obtain⟨p,m⟩:=i;have l:=m.lt;go_simp⟩) o ?_
 simp only[PS];refine TK 9 (.slice f.a N f.c) rfl (BO ⟨ρ,λw i=>by obtain⟨p,m⟩:=i;have c:w.cell? ⟨s,1,none⟩=some (.slice f.a N f.c):=m.y 1;go_simp⟩) o ?_;simp only[PS];refine TY 10 (.int .i64 (N:Int)) rfl o ?_;simp only[PS];refine TK 11 (Mv X 1) rfl (BO ⟨ρ,λw i=>by obtain⟨p,m⟩:=i;have l:=p.lt;go_simp⟩) o ?_;simp only[PS];refine TK 12 (Mv X 1) rfl (BO ⟨ρ,λw i=>by obtain⟨p,m⟩:=i;have l:=p.lt;go_simp⟩) o ?_;simp only[PS];refine TK 13 (.slice q.a N q.c) rfl (BO ⟨ρ,λw i=>by obtain⟨p,m⟩:=i;have c:=p.y 1;go_simp⟩) o ?_;simp only[PS];refine TY 14 (.int .i64 (N:Int)) rfl o ?_;simp only[PS];refine TY 15 (M0 true) rfl o ?_;simp only[PS];refine TY 16 (M0 true) rfl o ?_;simp only[PS];refine RD 17 rfl (λJ A=>?_);refine LH ρ 36 _ _ ρ w.heap.size 0 #[.int .i64 (LN (N:Int) (d:Int)).w,.slice f.a N f.c,.slice f.a' (LN (N:Int) (d:Int)).ws.length f.c',M0 (LN (N:Int) (d:Int)).up,.int .i64 (LN (N:Int) (d:Int)).W,.int .i64 (LN (N:Int) (d:Int)).S,.int .i64 (LN (N:Int) (d:Int)).L,.int .i64 (LN (N:Int) (d:Int)).T,.int .i64 (LN (N:Int) (d:Int)).H,.int .i64 (LN (N:Int) (d:Int)).F,.int .i64 (LN (N:Int) (d:Int)).R,.int .i64 (LN (N:Int) (d:Int)).U,.int .i64 (LN (N:Int) (d:Int)).O,.slice f.s (LN (N:Int) (d:Int)).rs.length f.cs,.slice f.p (LN (N:Int) (d:Int)).P.length f.cp,.slice f.t (LN (N:Int) (d:Int)).ts.length f.ct] ρ ρ (E.there rfl) MO κ ?_
 have I:=E.sets [.int .i64 (LN (N:Int) (d:Int)).w,.slice f.a N f.c,.slice f.a' (LN (N:Int) (d:Int)).ws.length f.c',M0 (LN (N:Int) (d:Int)).up,.int .i64 (LN (N:Int) (d:Int)).W,.int .i64 (LN (N:Int) (d:Int)).S,.int .i64 (LN (N:Int) (d:Int)).L,.int .i64 (LN (N:Int) (d:Int)).T,.int .i64 (LN (N:Int) (d:Int)).H,.int .i64 (LN (N:Int) (d:Int)).F,.int .i64 (LN (N:Int) (d:Int)).R,.int .i64 (LN (N:Int) (d:Int)).U,.int .i64 (LN (N:Int) (d:Int)).O,.slice f.s (LN (N:Int) (d:Int)).rs.length f.cs,.slice f.p (LN (N:Int) (d:Int)).P.length f.cp,.slice f.t (LN (N:Int) (d:Int)).ts.length f.ct] rfl;have j:=LG z.drew w.heap.size 0 [.int .i64 (LN (N:Int) (d:Int)).w,.slice f.a N f.c,.slice f.a' (LN (N:Int) (d:Int)).ws.length f.c',M0 (LN (N:Int) (d:Int)).up,.int .i64 (LN (N:Int) (d:Int)).W,.int .i64 (LN (N:Int) (d:Int)).S,.int .i64 (LN (N:Int) (d:Int)).L,.int .i64 (LN (N:Int) (d:Int)).T,.int .i64 (LN (N:Int) (d:Int)).H,.int .i64 (LN (N:Int) (d:Int)).F,.int .i64 (LN (N:Int) (d:Int)).R,.int .i64 (LN (N:Int) (d:Int)).U,.int .i64 (LN (N:Int) (d:Int)).O,.slice f.s (LN (N:Int) (d:Int)).rs.length f.cs,.slice f.p (LN (N:Int) (d:Int)).P.length f.cp,.slice f.t (LN (N:Int) (d:Int)).ts.length f.ct]
 generalize K:World.setCells _ _ _ _=v9 at I j⊢;have L:=C.J j (λe=>by injection e with e;omega);have F:=D.J j (λe=>by injection e with e;omega);have O:=v.j (NR j v.size (λg e=>by cases e;exact AA _));have P:=B.J j (λg e k=>by cases e;omega);have W:=F.lt;clear K j C D E v B;refine A.l _ _ (⟨L,F⟩) (λg=>?_)
 try simp only[PS]
 refine RD 18 rfl (λJ A=>?_);go_simp;refine A.l _ _ g (λ_=>?_)
 try simp only[PS]
 refine DN ?_;go_wp2
 exact OL 2 3 36 results4 _ rfl _ rfl [.int .i64 (LN (N:Int) (d:Int)).w,.slice f.a N f.c,.slice f.a' (LN (N:Int) (d:Int)).ws.length f.c',M0 (LN (N:Int) (d:Int)).up,.int .i64 (LN (N:Int) (d:Int)).W,.int .i64 (LN (N:Int) (d:Int)).S,.int .i64 (LN (N:Int) (d:Int)).L,.int .i64 (LN (N:Int) (d:Int)).T,.int .i64 (LN (N:Int) (d:Int)).H,.int .i64 (LN (N:Int) (d:Int)).F,.int .i64 (LN (N:Int) (d:Int)).R,.int .i64 (LN (N:Int) (d:Int)).U,.int .i64 (LN (N:Int) (d:Int)).O,.slice f.s (LN (N:Int) (d:Int)).rs.length f.cs,.slice f.p (LN (N:Int) (d:Int)).P.length f.cp,.slice f.t (LN (N:Int) (d:Int)).ts.length f.ct] _ I underlying36 rfl MO rfl ⟨N,d,f,by unfold MB;first|(rw[t];done)|(rw[t];rfl)|rw[<-t],ω,ω,P.z (λb l k=>⟨k.1,ω⟩),O⟩
