import Derived.Test.YtjdmogljfdffeaaGreatDoorPrWiD
set_option maxHeartbeats 16000000
namespace Go.Proofs.YtjdmogljfdffeaaGreatDoor
open Tryz
open Go.RowKit
set_option maxRecDepth 8000
set_option linter.all false
variable {w w':World}
theorem Aw{P:Program}(t q:TypeId)(d:Nat)(e:TypeId)(i:TypeInfo)(z:Value)(A:P.underlying t=some (.slice e))(s:P.info? e=some i)(H:i.zero=some z)(f:i.size=1)
  (v:Value)(n:Nat)(l:List Value)(m:w.ownsRow d e 1 v n l)(x:Value)(u:Value)(h:Src P 1 t x 1 [u] w)(F:(n+1)*i.bytes<=140737488355328)(G:n+1<=maxLen)
 {I:Value}(y:(Builtin.append_ #[t,t] q #[v,x]).run P w=.ok I w'):∀b,v.ownBlock=some b->∀j,j<n->w'.cell? ⟨b,j,none⟩=w.cell? ⟨b,j,none⟩:=by
 intro b r j p;rcases m.2 with ⟨rfl,K⟩|⟨g,a,E,rfl,_,o,L,M,N,O⟩
 ·cases r
 cases r
 replace h:Src P i.size t x 1 [u] w:=by rw[f];exact h
 by_cases B:n+1<=a
 ·have c:=run_append_room_src (P:=P) w t t q e i A s g 0 n a x 1 [u] h B (λj p=>by simp at p;simp[World.cell?,o,f];omega) (λj p=>by simp[World.frozen?,o])
  rw[y]at c;injection c with _ k;rw[k];exact DU g [u] _ w ⟨g,j,none⟩ (λ_ _=>.inl (by show j<0+n*i.size;rw[f];omega))
 have C:(Builtin.firstCells i.size n (.slice (some ⟨g,0,none⟩) n a)).run P w.drew=.ok l.toArray w.drew:=GC w.drew i.size n _ n a l (by rw[f];exact m.1) (λk D c=>m.cells rfl k D c)
 have c:=run_append_grow_src (P:=P) w t t q e i z A s H (some ⟨g,0,none⟩) n a l C x 1 [u] h ω (by unfold maxLen at G;omega) (growslice_fits ω F);rw[y]at c;injection c with _ k;rw[k];have D:g<w.heap.size:=(AT.1 o).1;exact EN (w:=w.drew) _ g j D
theorem Gx{P:Program}(w:World){C:Array Oper}{o:Oper}{a:Act}{K:Act->World->Prop}{Q:Exit->Act->World->Prop}{E:Prop}(I:o.guard=none)(s x:Operand)(t:TypeId)
  (R:o.op=.call { callee:=.builtin .append,args:=#[s,x],argTypes:=#[t,t] })
  (d:Nat)(e:TypeId)(i:TypeInfo)(z:Value)(p:P.underlying t=some (.slice e))(F:P.info? e=some i)(G:i.zero=some z)(r:i.size=1)(L:z.cells.size=1)
  (v:Value)(n:Nat)(m:List Value)(S:a.eval s=v)(y:w.ownsRow d e 1 v n m)
  (l:Addr)(c:Nat)(u:Value)(k:a.eval x=.slice (some l) 1 c)(T:w.cell? (l.add 0)=some u)(D:u.oneCell'=true)
  (A:n+1<=maxLen)(q:(n+1)*i.bytes<=140737488355328)(H:d<=w.heap.size)
  (h:∀g f w',w'.ownsRow d e 1 (.slice (some ⟨g,0,none⟩) (n+1) f) (n+1) (m++[u])->w.grownBy w' v.ownBlock->(v.ownBlock=some g\/g=w.heap.size)->(∀b,v.ownBlock=some b->∀j,j<n->w'.cell? ⟨b,j,none⟩=w.cell? ⟨b,j,none⟩)->K (a.put o.dst (.slice (some ⟨g,0,none⟩) (n+1) f)) w'):if Region.wanted o (yielded C a.tmps)=true then Oper.wp P o a w K Q else E:=by
 have U:Region.wanted o (yielded C a.tmps)=true:=by simp[Region.wanted,I]
 rw[AF U]
 have B:∀j f,[u][j]?=some f->w.cell? (l.add j)=some f:=λj f b=>by
  match j,b with
  | 0,b=>cases b;exact T
 obtain⟨g,f,w',b,j,M,N,W⟩:=run_append_lies (P:=P) w t o.type d e i z 1 i.bytes p F G r rfl L ω v n m y l 1 c [u] rfl B (λx k=>by simp at k;rw[k];exact D) ω A q H _ rfl;have O:=Aw t o.type d e i z p F G r v n m y _ u (Src.ofSlice w p l 1 c [u] rfl B (λx k=>by simp at k;rw[k];exact D)) q A b;unfold Oper.wp execOp;simp only[R,resolve,invoke,builtin,GX,JD,IG,List.map_toArray,IC,KI,S,k,b];exact h g f w' j M N O
structure HpPost(w w':World)(SB:Nat)(l:Int)(o:Nat->Nat)(y:Wo)(q:Wp)(o':Nat->Nat):Prop where
 r:Row w' SB (RP l y q)
 h:RH y w' q o'
 ag:∀b,b<w.heap.size->o' b=o b
 os:w'.os=w.os
 tape:w'.tape=w.tape
 output:w'.output=w.output
 size:w.heap.size<=w'.heap.size
 block:∀b,b<w.heap.size->b≠SB->o b=0->w'.heap[b]?=w.heap[b]?
 cap:y.rs.length<=q.cs
theorem gc{d:Nat}{l:Int}{o:Nat->Nat}{y:Wo}(h:ZF w w' d l o y):∃q c,HpPost w w' d l o y q c:=by
 obtain⟨q,c,f,g,i,a,m⟩:=h;exact⟨q,c,f,g,i,a.os,a.tape,a.output,a.size,λb j k _=>a.block b j (λe=>k (by injection e)),m⟩
theorem Ak{o:Nat->Nat}{p:Option Addr}{P:List (List Pr)}{q B g n:Nat}{d:List Value}{a:Option Addr}{c:Nat}{f:List Pr}(h:YR w o p P)(K:0<P.length)(own:w.ownsRow B 31 1 (.slice p P.length q) P.length d)
  (I:OwL w o (7+P.length) a (LH f))(m:w'.ownsRow B 31 1 (.slice (some ⟨g,0,none⟩) (P.length+1) n) (P.length+1) (d++[.slice a f.length c]))(A:w.grownBy w' (Value.slice p P.length q).ownBlock)
  (H:o g=5)(C:∀b,(Value.slice p P.length q).ownBlock=some b->∀j,j<P.length->w'.cell? ⟨b,j,none⟩=w.cell? ⟨b,j,none⟩):Only o (λk=>k=5) w w'/\YR w' o p P/\YR w' o (some ⟨g,0,none⟩) (P++[f]):=by
 obtain⟨b,rfl,G,y,z⟩:=h.resolve_left ω;have j:Only o (λk=>k=5) w w':=nt A (λx e=>by cases e;exact y);refine⟨j,.inr ⟨b,rfl,AD G A.size,y,λi k=>?_⟩,.inr ⟨g,rfl,(SA m).lt,H,λi k=>?_⟩⟩
 ·obtain⟨l,e,s,t⟩:=z i k
  exact⟨l,e,(C b rfl i k).j s,t.only j ω⟩
 have D:d.length=P.length:=by rw[own.1,KE]
 by_cases v:i<P.length
 ·obtain⟨l,e,s,t⟩:=z i v
  have r:(P++[f]).getD i []=P.getD i []:=by simp[List.getD,BA v]
  simp only[r];obtain⟨u,x⟩:∃u,d[i]?=some u:=⟨_,BQ ω⟩;have F:=(SA own).cell i u x;have E:u=.slice l (P.getD i []).length e:=CZ (F.symm.j s);exact⟨l,e,(SA m).cell i _ (by rw[BA ω,x,E]),t.only j ω⟩
 obtain rfl:i=P.length:=by simp at k;omega
 have r:(P++[f]).getD P.length []=f:=by simp[List.getD]
 simp only[r];exact⟨a,c,(SA m).cell P.length _ (by rw[CX ω,D];simp),I.only j ω⟩
theorem XJ{a:Option Addr}{b:List Value}{n g:Nat}(h:OwnS w a b)(d:n≠0->b≠[])(k:blk a n=some g):g<w.heap.size:=by
 by_cases c:n=0
 ·rw[c]at k;simp[blk]at k
 obtain⟨f,rfl,e⟩:=h.resolve_left (d c)
 rw[ee k];exact e.lt
theorem tf{f:Nat}{e:TypeId}{s:Nat}{v:Value}{n:Nat}{i:List Value}{F:Nat->Prop}(h:w.ownsRow f e s v n i)(hF:∀b,v.ownBlock=some b->F b):DepF w F (λW=>W.ownsRow f e s v n i) :=⟨h,λw' o m=>by
  refine⟨h.1,h.2.imp_right λ⟨g,a,c,j,k,d,l⟩=>?_⟩;subst j
  exact⟨g,a,c,rfl,k,(m g (hF g rfl) (AT.1 d).1).j d,l⟩⟩
theorem Ib(x:Wo)(q:Wp)(e:Ev)(a:Option Addr)(c:Nat)(f:Option Addr)(d j:Nat)(l:Int)(o:Nat->Nat)(w:World)(n:Row w j (RP l x q))(h:RH x w q o)(z:o j=0)(C:DepF w (λb=>b≠j) (λW=>Ints W f e.fs))(D:x.ok)(B:e.le)(A:e.K=5):Calls prog 17 #[.pointer (some ⟨j,0,none⟩),NH e a c f d] w λr w'=>r=.returned (.tuple #[])/\ZF w w' j l o (x.doE e):=by
 have I:=n.lt;have p:x.doE e=x.pow e.fs:=by unfold Wo.doE;rw[AF A]
 rw[p];unfold NH;have i:=(YI n (h.depF z)).add C;have m:=Z (λw' g k s=>qU x q f e.fs d j l o w' g k z s D.le B.f);obtain⟨g,k⟩:∃y,Hid (y=x.pow e.fs):=⟨_,Z rfl⟩;rw[<-k.l]at m⊢;clear n h C p A D B k;go_enter func17,ntmps17;go_upto_region 1 with fail;generalize p:w.alloc _=K;obtain⟨v,G,k⟩:=LF p;clear p;replace i:=i.z v;have p:=k.q.y 3;have s:=k.q.lt;have H:=v.size;go_wp2_with fail;clear p s k;refine(m.l _ i.r i.m.q.1 i.m.q.2).A ?_;rintro r L ⟨rfl,F,E,t,u,y,p,s⟩;have k:=Z (AH t (AH u (AH (OS i.e p) s)));clear t u p s i m;go_wp2;exact GH (v:=.tuple #[]) (by simp[results,results17]) rfl ⟨rfl,F,E,k.l.1,k.l.2.1,λb i=>y b ω,k.l.2.2.1,k.l.2.2.2⟩
theorem Bc{x:Wo}{e:Ev}{D:Dd}(f:e.K=2)(b:x.call e=(D,true)):x.doE e=x.runE e D:=by
 by_cases c:D.C≠0\/200<(NW x e D).length\/2000<(PU x e D).length
 ·have d:x.runE e D=x:=by unfold Wo.runE;rw[AF c]
  rw[d]
  by_cases a:D.C=0
  ·exact ux ω b a ω
  exact ZA ω b (.inr a)
 have a:D.C=0:=ω
 unfold Wo.runE;rw[AG c]
 cases hb:QP e D with
 | true=>exact xt ω b a ω hb
 | false=>exact uR ω b a ω hb f
theorem zC(x:Wo)(q:Wp)(e:Ev)(a:Option Addr)(c:Nat)(f:Option Addr)(d n:Nat)(l:Int)(o:Nat->Nat)(w:World)(hR:Row w n (RP l x q))(h:RH x w q o)(h0:o n=0)(aV:x.rs.length<=q.cs)(lo:Nat)(L:List Value)(bT:w.ownsRow lo 31 1 (.slice q.p x.P.length q.cp) x.P.length L)(dN:0<x.P.length)(dU:lo<=w.heap.size)(hf:DepF w (λb=>b≠n/\o b=0) (λW=>Ints W f e.fs))(cA:Chs w a e.b)(ho:x.ok)(he:e.le)(hK:e.K=2):Calls prog 14 #[.pointer (some ⟨n,0,none⟩),NH e a c f d] w λr w'=>r=.returned (.tuple #[])/\∃g j,HpPost w w' n l o (x.doE e) g j:=by
 have lS:=hR.lt;have i:=ho.le;have hd:(NR x.W x.S x.L x.T x.H x.F x.R x.U x.O x.rs e.b).ok:=by have:=ho.call e;unfold Wo.call at this;simpa[hK] using this
 have bQ:∀b,(Value.slice q.p x.P.length q.cp).ownBlock=some b->o b=5:=λb k=>by obtain⟨b',e',_,h5,_⟩:=h.h4.resolve_left ω;rw[e']at k;cases k;exact h5
 have bZ:∀b,(Value.slice q.p x.P.length q.cp).ownBlock=some b->b<w.heap.size:=λb k=>(bT.lt b k).2
 have t:DepF w (λb=>b≠n) (λW=>W.ownsRow lo 31 1 (.slice q.p x.P.length q.cp) x.P.length L):=tf bT (λb k e=>by have:=bQ b k;rw[e]at this;omega);have m:=((YI hR (h.all h0 lS)).add (hf.A (λb _ k=>k.1))).add t;have P:=Z (λw' K M=>vH x.W x.S x.L x.T x.H x.F x.R x.U x.O q.s x.rs q.cs a e.b c w' K aV i.l3 i.s3 M he.b.1 he.b.2);unfold MM at P;obtain⟨bV,g⟩:∃y,Hid (y=x.doE e):=⟨_,Z rfl⟩;rw[<-g.l];obtain⟨D,s⟩:∃D,Hid (D=NR x.W x.S x.L x.T x.H x.F x.R x.U x.O x.rs e.b):=⟨_,Z rfl⟩;rw[<-s.l]at P hd;have B:Hid (x.call e=(D,x.up)):=Z (by rw[s.l];unfold Wo.call;simp[hK]);have u:NW x e D=x.P++[D.rs]:=AF hK;have U:=Z (λA F E N p cp j w' (hR':Row w' n (RP l x q)) h' h0' hp' hs' hb' hbc hf' hdc'=>tU x q e a c f d D A F E N p cp n l j w' hR' h' h0' hp' hs' hb' hbc hf' ho hd he aV hdc');have cS:=Z aV;rw[u,show(x.P++[D.rs]).length=x.P.length+1 by simp]at U
 unfold NH MV at U;unfold NH;have dZ:=(VS hd.1).1;have dV:=ho.p.1;have HK:=Z hK;have HF:=Z hf;have X:=Z cA;have HH:=Z h;clear hR h hf i hK cA bT t u ho he aV;obtain⟨i1,i,j,t,u⟩:=XK mw;have HJ:=Z (AH i (AH j (AH t u)));clear i j t u;go_enter func14,ntmps14;go_upto_region 1 with fail;generalize i:w.alloc _=v1;obtain⟨t,u,j⟩:=LF i;clear i;replace m:=(m.z t).add (UY j.q ω);clear j u;have v:=m.r.y 5;have C:=m.r.lt;have dR:=t.size;obtain⟨u,i⟩:∃u,Hid (u=x.up):=⟨_,Z rfl⟩;rw[<-i.l]at v
 cases u with
 | false =>
  have j:x=bV:=by rw[g.l];exact(ZA (by have:=HK.l;omega) B.l (.inl (by rw[<-i.l]))).symm
  clear g;subst j;have z:=Z m;clear m P U;go_wp2;exact AI (v:=.tuple #[]) (by simp[results,results14]) rfl ⟨rfl,gc ⟨q,o,z.l.r,z.l.m.q.1.1.1 o (λ_ _=>rfl),λ_ _=>rfl,z.l.e,cS.l⟩⟩
 | true =>
  have j:bV=x.runE e D:=by rw[g.l];exact Bc HK.l (by rw[B.l,<-i.l])
  rw[<-j]at U;clear j g B i s;go_upto_region 2 with fail;clear v C;replace m:=m.z (AC v1.heap.size v1).drew;replace t:=t.drew;refine YH (9) (S:=λw'=>Row w' n (RP l x q)/\Row w' w.heap.size [.int .i64 e.K,.slice a e.b.length c,.int .i64 e.cut,.slice f e.fs.length d]) κ (⟨m.r,m.m.q.2⟩) (λz=>?_);refine MZ 0 (.pointer (some ⟨n,0,none⟩)) rfl z (MZ 1 (.pointer (some ⟨n,0,none⟩)) rfl z (OZ 2 (.pointer (some ⟨n,2,none⟩)) rfl (BW ⟨ρ,λw v=>by obtain⟨H,I⟩:=v;have l:=H.lt;go_simp⟩) z (OZ 3 (.pointer (some ⟨n,6,none⟩)) rfl (BW ⟨ρ,λw v=>by obtain⟨H,I⟩:=v;have l:=H.lt;go_simp⟩) z (OZ 4 (.agg (sK x.W x.S x.L x.T x.H x.F x.R x.U x.O (.slice q.s x.rs.length q.cs))) rfl (BW ⟨ρ,λw v=>by obtain⟨H,I⟩:=v;exact RK 33 _ rfl _ 6 rfl (sJ x.W x.S x.L x.T x.H x.F x.R x.U x.O (.slice q.s x.rs.length q.cs)) _ (Row.rangeMid (pre:=[.int .i32 l,.int .u32 0,.int .i64 x.w,.slice q.a x.ss.length q.c,.slice q.a' x.ws.length q.c',.bool x.up]) (cs:=(sJ x.W x.S x.L x.T x.H x.F x.R x.U x.O (.slice q.s x.rs.length q.cs))) (post:=[.slice q.p x.P.length q.cp,.slice q.t x.ts.length q.ct]) H) underlying33 rfl PC⟩) z (OZ 5 (.pointer (some ⟨w.heap.size,1,none⟩)) rfl (BW ⟨ρ,λw v=>by obtain⟨H,I⟩:=v;have l:=I.lt;go_simp⟩) z (OZ 6 (.slice a e.b.length c) rfl (BW ⟨ρ,λw v=>by obtain⟨H,I⟩:=v;have c1:=I.y 1;go_simp⟩) z ?_))))))
  simp only[J];refine RZ (rs:=[7,8]) κ σ ?_;refine AllReadyT.cons rfl (λC s=>?_) (AllReadyT.cons rfl (λC s=>?_) AllReadyT.nil)
  focus
   generalize i:v1.drew=y0 at m t⊢;clear i;have ly:=m.e.size;refine LC ρ 7 #[.agg (sK x.W x.S x.L x.T x.H x.F x.R x.U x.O (.slice q.s x.rs.length q.cs)),.slice a e.b.length c] γ (P.l _ (m.m.q.1.1.1 o (λ_ _=>rfl)).h3.own.prs (X.l.z t)) ?_;rintro r W ⟨⟨A,F,E,N,rfl,aR,own,i,O,j⟩,R⟩;have cI:=R _ _ _ _ rfl;refine⟨_,rfl,?_⟩;unfold MV;have lb:=j.size;replace m:=m.z j;replace t:=t.j (j.A t.size);have T:=oy own i O
   have gA:∀g,blk A D.rs.length=some g->w.heap.size<=g:=λg k=>by have:=i g k;omega
   have gB:∀g,blk E D.ops.length=some g->w.heap.size<=g:=λg k=>by have:=O g k;omega
   have cH:=own.ne;clear j R own;refine s.l _ _ (⟨m.r,m.m.q.2⟩) (λbH=>?_)
   try simp only[J]
   refine OY 8 rfl (λC s=>?_);go_simp;obtain⟨y2,S⟩:∃y,y=W.alloc (.cells (dK 0 0 0 0 0 0 0 0 0 0 (.slice none 0 0) (.slice none 0 0)) 48):=⟨_,rfl⟩;have j:=KW W (.cells (dK 0 0 0 0 0 0 0 0 0 0 (.slice none 0 0) (.slice none 0 0)) 48);have G:=LU W (dK 0 0 0 0 0 0 0 0 0 0 (.slice none 0 0) (.slice none 0 0)) 48;rw[<-S]at j G⊢;obtain⟨B,R⟩:∃y,y=W.heap.size:=⟨_,rfl⟩;rw[<-R]at G⊢;have cW:n<B/\w.heap.size<B:=by have:=m.r.lt;have:=m.m.q.2.lt;omega
   have mN:=((m.m.and (QK T (λb K _=>ω))).A (G:=λb=>b≠n/\b≠B) (λb j k=>⟨k,ω⟩)).z j;replace m:=m.z j;replace t:=t.j (j.A t.size);have Q:B<y2.heap.size:=G.lt;clear S R j i O T;refine s.l _ _ (⟨m.r,m.m.q.2⟩) (λaN=>?_)
   try simp only[J]
   have cY:=Q;clear Q;have aU:=aN
  rotate_left
  focus
   generalize i:v1.drew=y0 at m t⊢;clear i;go_simp;obtain⟨W,S⟩:∃y,y=y0.alloc (.cells (dK 0 0 0 0 0 0 0 0 0 0 (.slice none 0 0) (.slice none 0 0)) 48):=⟨_,rfl⟩;have j:=KW y0 (.cells (dK 0 0 0 0 0 0 0 0 0 0 (.slice none 0 0) (.slice none 0 0)) 48);have G:=LU y0 (dK 0 0 0 0 0 0 0 0 0 0 (.slice none 0 0) (.slice none 0 0)) 48;rw[<-S]at j G⊢;obtain⟨B,R⟩:∃y,y=y0.heap.size:=⟨_,rfl⟩;rw[<-R]at G⊢;have cW:n<B/\w.heap.size<B:=by have:=m.r.lt;have:=m.m.q.2.lt;omega
   have dQ:=(m.m.A (G:=λb=>b≠n/\b≠B) (λb j k=>⟨k,ω⟩)).z j;replace m:=m.z j;replace t:=t.j (j.A t.size);have Q:B<W.heap.size:=G.lt;clear S R j;refine s.l _ _ (⟨m.r,m.m.q.2⟩) (λaO=>?_)
   try simp only[J]
   refine OY 7 rfl (λC s=>?_);have ly:=m.e.size;refine LC ρ 7 #[.agg (sK x.W x.S x.L x.T x.H x.F x.R x.U x.O (.slice q.s x.rs.length q.cs)),.slice a e.b.length c] γ (P.l _ (m.m.q.1.1.1 o (λ_ _=>rfl)).h3.own.prs (X.l.z t)) ?_;rintro r y2 ⟨⟨A,F,E,N,rfl,aR,own,i,O,j⟩,R⟩;have cI:=R _ _ _ _ rfl;refine⟨_,rfl,?_⟩;unfold MV;have lb:=j.size;replace m:=m.z j;replace t:=t.j (j.A t.size);have T:=oy own i O
   have gA:∀g,blk A D.rs.length=some g->w.heap.size<=g:=λg k=>by have:=i g k;omega
   have gB:∀g,blk E D.ops.length=some g->w.heap.size<=g:=λg k=>by have:=O g k;omega
   have cH:=own.ne;replace G:=G.z j;have mN:=(dQ.z j).and (QK T (λb K _=>⟨ω,ω⟩));have Q:B<y2.heap.size:=G.lt;clear j R own i O T;refine s.l _ _ (⟨m.r,m.m.q.2⟩) (λaP=>?_)
   try simp only[J]
   have cY:=Q;clear Q;have aU:=aP
  all_goals
   refine RZ (rs:=[9]) κ σ ?_;refine AllReadyT.last rfl (λC s=>?_);refine SU rfl 48 _ _ rfl B 0 (dK D.C D.W D.S D.L D.T D.H D.F D.R D.U D.O (.slice A D.rs.length F) (.slice E D.ops.length N)) rfl rfl (G.there rfl) TH κ ?_;refine s.l _ _ trivial (λ_=>?_)
   try simp only[J]
   refine XH κ ?_ _;have j:=OQ y2 B 0 (dJ D.C D.W D.S D.L D.T D.H D.F D.R D.U D.O (.slice A D.rs.length F) (.slice E D.ops.length N));have S:=G.sets (dJ D.C D.W D.S D.L D.T D.H D.F D.R D.U D.O (.slice A D.rs.length F) (.slice E D.ops.length N)) rfl;have i:Sc w (y2.setCells B 0 (dJ D.C D.W D.S D.L D.T D.H D.F D.R D.U D.O (.slice A D.rs.length F) (.slice E D.ops.length N))) n (RP l x q) _:=⟨⟨j.os.j m.e.os,j.tape.j m.e.tape,j.output.j m.e.output,AL m.e.size j.size,λb K M=>(j.block b (by have:=m.e.size;omega) (λe=>by injection e;omega)).j (m.e.block b K M)⟩,m.r.I j (λe=>by injection e;omega),(mN.I j (λg e k=>by cases e;exact k.2 rfl)).A (λb _ k=>k.1)⟩;replace i:=i.add (UY S ω);have l3:=j.size;generalize O:World.setCells _ _ _ _=y3 at i l3⊢;clear O m mN G S j t P X;go_upto_region 3 with fail
   replace i:=i.z (AC y3.heap.size y3).drew;refine AN (S:=λw'=>n<w'.heap.size/\Row w' w.heap.size [.int .i64 e.K,.slice a e.b.length c,.int .i64 e.cut,.slice f e.fs.length d]/\Row w' B (dJ D.C D.W D.S D.L D.T D.H D.F D.R D.U D.O (.slice A D.rs.length F) (.slice E D.ops.length N))) κ (⟨i.r.lt,i.m.q.1.1.2,i.m.q.2⟩) (λz=>?_);refine V 0 (.pointer (some ⟨n,0,none⟩)) rfl z (TK 1 (.agg #[.int .i64 e.K,.slice a e.b.length c,.int .i64 e.cut,.slice f e.fs.length d]) rfl (BW ⟨ρ,λw v=>by obtain⟨H,I,Q⟩:=v;exact RK 43 _ rfl _ 0 rfl _ _ I.range underlying43 rfl dm⟩) z (TK 2 (.agg (dK D.C D.W D.S D.L D.T D.H D.F D.R D.U D.O (.slice A D.rs.length F) (.slice E D.ops.length N))) rfl (BW ⟨ρ,λw v=>by obtain⟨H,I,Q⟩:=v;exact RK 48 _ rfl _ 0 rfl _ _ Q.range underlying48 rfl TH⟩) z (V 3 (.pointer (some ⟨n,0,none⟩)) rfl z (V 4 (.pointer (some ⟨n,0,none⟩)) rfl z (V 5 (.pointer (some ⟨n,2,none⟩)) rfl z (V 6 (.pointer (some ⟨n,16,none⟩)) rfl z (TK 8 (.pointer (some ⟨B,1,none⟩)) rfl (BW ⟨ρ,λw v=>by obtain⟨H,I,Q⟩:=v;have l:=Q.lt;go_simp⟩) z (TK 9 (.pointer (some ⟨B,10,none⟩)) rfl (BW ⟨ρ,λw v=>by obtain⟨H,I,Q⟩:=v;have l:=Q.lt;go_simp⟩) z (TK 10 (.agg #[.slice A D.rs.length F]) rfl (BW ⟨ρ,λw v=>by obtain⟨H,I,Q⟩:=v;have c10:=Q.y 10;go_simp⟩) z ?_)))))))))
   simp only[J];refine DH (rs:=[7,11]) κ σ ?_;refine AY rfl (λC s=>?_) (AY rfl (λC s=>?_) DE)
   focus
    generalize j:y3.drew=u0 at i⊢;clear j;have c16:=i.r.y 16;go_simp;clear c16;refine s.l _ _ (⟨i.r.lt,i.m.q.1.1.2,i.m.q.2⟩) (λbH=>?_)
    try simp only[J]
    refine RD 11 rfl (λC s=>?_);refine LC ρ _ _ γ (ZR A D.rs F _ i.m.q.1.2.s.prs ω) ?_;rintro r u1 ⟨m,v,rfl,dM,t,T,j⟩;refine⟨_,rfl,?_⟩;unfold LQ;have lu:=i.e.size;have O:=XE t RA T (SB:=n) ω
    have g6:=λg k=>XJ (g:=g) t fd k
    have gO:=λg k=>XJ (g:=g) i.m.q.1.2.s fd k
    have gP:=λg k=>XJ (g:=g) i.m.q.1.2.p sH k
    have lb:=j.size;replace i:=i.z j;clear j t;refine s.l _ _ (⟨i.r.lt,i.m.q.1.1.2,i.m.q.2⟩) (λaN=>?_)
    try simp only[J]
    refine RD 12 rfl (λC s=>?_);go_simp;obtain⟨u2,P⟩:∃y,y=u1.alloc (.cells #[.slice m D.rs.length v] 31):=⟨_,rfl⟩;have j:=KW u1 (.cells #[.slice m D.rs.length v] 31);have G:=LU u1 #[.slice m D.rs.length v] 31;rw[<-P]at j G⊢;obtain⟨GB,t⟩:∃y,y=u1.heap.size:=⟨_,rfl⟩;rw[<-t]at G⊢;replace i:=i.z j;replace O:=O.z j;have cQ:u1.heap.size<=u2.heap.size:=j.size;clear P t j;refine s.l _ _ (⟨i.r.lt,i.m.q.1.1.2,i.m.q.2⟩) (λaO=>?_)
    try simp only[J]
    have aU:=aO
   rotate_left
   focus
    generalize j:y3.drew=u0 at i⊢;clear j;refine LC ρ _ _ γ (ZR A D.rs F _ i.m.q.1.2.s.prs ω) ?_;rintro r u1 ⟨m,v,rfl,dM,t,T,j⟩;refine⟨_,rfl,?_⟩;unfold LQ;have lu:=i.e.size;have O:=XE t RA T (SB:=n) ω
    have g6:=λg k=>XJ (g:=g) t fd k
    have gO:=λg k=>XJ (g:=g) i.m.q.1.2.s fd k
    have gP:=λg k=>XJ (g:=g) i.m.q.1.2.p sH k
    have lb:=j.size;replace i:=i.z j;clear j t;refine s.l _ _ (⟨i.r.lt,i.m.q.1.1.2,i.m.q.2⟩) (λaP=>?_)
    try simp only[J]
    refine DH (rs:=[7,12]) κ σ ?_;refine AY rfl (λC s=>?_) (AY rfl (λC s=>?_) DE)
    focus
     have c16:=i.r.y 16;go_simp;clear c16;refine s.l _ _ (⟨i.r.lt,i.m.q.1.1.2,i.m.q.2⟩) (λcZ=>?_)
     try simp only[J]
     refine RD 12 rfl (λC s=>?_);go_simp;obtain⟨u2,P⟩:∃y,y=u1.alloc (.cells #[.slice m D.rs.length v] 31):=⟨_,rfl⟩;have j:=KW u1 (.cells #[.slice m D.rs.length v] 31);have G:=LU u1 #[.slice m D.rs.length v] 31;rw[<-P]at j G⊢;obtain⟨GB,t⟩:∃y,y=u1.heap.size:=⟨_,rfl⟩;rw[<-t]at G⊢;replace i:=i.z j;replace O:=O.z j;have cQ:u1.heap.size<=u2.heap.size:=j.size;clear P t j;refine s.l _ _ (⟨i.r.lt,i.m.q.1.1.2,i.m.q.2⟩) (λbI=>?_)
     try simp only[J]
     have aU:=bI
    rotate_left
    focus
     go_simp;obtain⟨u2,P⟩:∃y,y=u1.alloc (.cells #[.slice m D.rs.length v] 31):=⟨_,rfl⟩;have j:=KW u1 (.cells #[.slice m D.rs.length v] 31);have G:=LU u1 #[.slice m D.rs.length v] 31;rw[<-P]at j G⊢;obtain⟨GB,t⟩:∃y,y=u1.heap.size:=⟨_,rfl⟩;rw[<-t]at G⊢;replace i:=i.z j;replace O:=O.z j;have cQ:u1.heap.size<=u2.heap.size:=j.size;clear P t j;refine s.l _ _ (⟨i.r.lt,i.m.q.1.1.2,i.m.q.2⟩) (λdH=>?_)
     try simp only[J]
     refine RD 7 rfl (λC s=>?_);have c16:=i.r.y 16;go_simp;clear c16;refine s.l _ _ (⟨i.r.lt,i.m.q.1.1.2,i.m.q.2⟩) (λbJ=>?_)
     try simp only[J]
     have aU:=bJ
   all_goals
    refine RD 13 rfl (λC s=>?_);refine Gx _ rfl _ _ 34 rfl lo 31 i1 (.agg #[.slice none 0 0]) underlying34 HJ.l.1 HJ.l.2.1 HJ.l.2.2.1 rfl (.slice q.p x.P.length q.cp) x.P.length L rfl i.m.q.1.1.1.2 ⟨GB,0,none⟩ 1 (.slice m D.rs.length v) rfl (by rw[ZU];exact G.y 0) rfl (by unfold maxLen;omega) (by rw[HJ.l.2.2.2];omega) (by have:=i.e.size;omega) ?_;intro g9 aY u3 aT t aQ aS;obtain⟨P,X⟩:∃y,Hid (y=λb=>if b<w.heap.size then o b else if blk m D.rs.length=some b then 7+x.P.length else if blk A D.rs.length=some b then 3 else if blk E D.ops.length=some b then 6 else if b=u2.heap.size then 5 else 0):=⟨_,Z rfl⟩
    have ag:∀b,b<w.heap.size->P b=o b:=λb j=>by rw[X.l];exact AF j
    have z3:P n=0:=(ag n lS).j h0;have eB:=i.e.size;have R:=i.m.q.1.1.1.1.1 P ag;have cJ:OwL u2 P (7+x.P.length) m (LH D.rs):=UQ O.q RA T (λg k=>by have:=T g k;rw[X.l];simp only[];rw[AG ω,AF k]);have A2:OwL u2 P 3 A (LH D.rs):=UQ i.m.q.1.2.s RA gA (λg k=>by have K:=gA g k;have M:=gO g k;rw[X.l];simp only[];rw[AG ω,AG (λe=>by have:=T g e;omega),AF k])
    have B2:OwL u2 P 6 E (NJ D.ops):=UQ i.m.q.1.2.p jr gB (λg k=>by have K:=gB g k;have M:=gP g k;rw[X.l];simp only[];rw[AG ω,AG (λe=>by have:=T g e;omega),AG (λe=>by rcases cH with h|h|h;rw[h]at e;cases e;rw[h]at k;cases k;exact h (e.j k.symm)),AF k])
    have cF:P g9=5:=by
     rcases aQ with k|k
     ·obtain⟨b',e',_,h5,_⟩:=R.h4.resolve_left ω
      rw[e']at k
      cases k
      exact h5
     rw[k,X.l]
     simp only[];rw[AG ω,AG (λe=>by have:=g6 _ e;omega),AG (λe=>by have:=gO _ e;omega),AG (λe=>by have:=gP _ e;omega)];simp
    obtain⟨y,P3,PN⟩:=Ak R.h4 dN i.m.q.1.1.1.2 cJ aT t cF aS;have W3:RH x u3 q P:=⟨R.h1.only y ω,R.h2.only y ω,R.h3.only y ω,P3,R.h5.only y ω⟩;have A3:=A2.only y ω;have B3:=B2.only y ω;have R3:=i.r.I t (λe=>by have:=bQ n e.symm;omega);have aW:=i.m.q.1.1.2.I t (λe=>by have:=bZ _ e.symm;omega);have S:=i.m.q.2.I t (λe=>by have:=bZ _ e.symm;omega)
    have cE:∀b,b<w.heap.size->b≠n->o b=0->u3.heap[b]?=w.heap[b]?:=λb K M h3=>(t.block b ω (λe=>by have:=bQ b e.symm;omega)).j (i.e.block b K (λe=>M (by injection e)))
    have g:Below 0 w u3:=⟨t.os.j i.e.os,t.tape.j i.e.tape,t.output.j i.e.output,AL i.e.size t.size,λb j=>ω⟩;have I3:=(HF.l.step g (λb k1 k2=>cE b k2 k1.1 k1.2)).A (G:=λb=>b≠n) (λb _ k=>k.1);clear R cJ A2 B2 aQ aT t aS i O G cF y P3;refine s.l _ _ (⟨R3.lt,aW,S⟩) (λdL=>?_)
    try simp only[J]
    refine RD 14 rfl (λC s=>?_);refine LC ρ _ _ γ (U.l A F E N _ aY P u3 R3 W3 z3 PN A3 B3 cI I3 aR) ?_;rintro r u4 ⟨rfl,q4,o4,t,G,O,i,y⟩;have cV:=Z y;clear y;refine⟨_,rfl,?_⟩;replace aW:=aW.I i (λe=>by injection e;omega);replace S:=S.I i (λe=>by injection e;omega);refine s.l _ _ (⟨t.lt,aW,S⟩) (λbY=>?_)
    try simp only[J]
    refine DN ?_;have y:=Z (AH t G);have cU:=Z i;have R:=Z g;clear t G i g W3 R3 U PN A3 B3 I3;go_wp2;have i:=cU.l;have g:=R.l;exact GH (v:=.tuple #[]) (by simp[results,results14]) rfl ⟨rfl,q4,o4,y.l.1,y.l.2,λb j=>(O b (by have:=g.size;omega)).j (ag b j),i.os.j g.os,i.tape.j g.tape,i.output.j g.output,AL g.size i.size,λb K M h3=>(i.block b (by have:=g.size;omega) (λe=>M (by injection e))).j (cE b K M h3),cV.l⟩
