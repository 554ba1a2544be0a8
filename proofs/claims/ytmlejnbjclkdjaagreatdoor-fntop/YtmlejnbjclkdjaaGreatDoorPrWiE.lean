import Derived.Test.YtmlejnbjclkdjaaGreatDoorPrG33
set_option maxHeartbeats 16000000
namespace Go.Proofs.YtmlejnbjclkdjaaGreatDoor
open Tryz
open Go.RowKit
set_option maxRecDepth 8000
set_option linter.all false
variable {w w':Nb}
theorem Cd{P:Program}(t q:TypeId)(d:Nat)(e:TypeId)(i:TypeInfo)(z:Nc)(A:P.underlying t=some (.slice e))(s:P.info? e=some i)(H:i.zero=some z)(f:i.size=1)
  (v:Nc)(n:Nat)(l:List Nc)(m:w.ownsRow d e 1 v n l)(x:Nc)(u:Nc)(h:Src P 1 t x 1 [u] w)(F:(n+1)*i.bytes<=140737488355328)(G:n+1<=maxLen)
 {I:Nc}(y:(Builtin.append_ #[t,t] q #[v,x]).run P w=.ok I w'):∀b,v.ownBlock=some b->∀j,j<n->w'.cell? ⟨b,j,none⟩=w.cell? ⟨b,j,none⟩:=by
 intro b r j p;rcases m.2 with ⟨rfl,J⟩|⟨g,a,E,rfl,_,o,K,L,M,N⟩
 ·cases r
 cases r
 replace h:Src P i.size t x 1 [u] w:=by rw[f];exact h
 by_cases B:n+1<=a
 ·have c:=run_append_room_src (P:=P) w t t q e i A s g 0 n a x 1 [u] h B (λj p=>by simp at p;simp[World.cell?,o,f];omega) (λj p=>by simp[World.frozen?,o])
  rw[y]at c;injection c with _ k;rw[k];exact EC g [u] _ w ⟨g,j,none⟩ (λ_ _=>.inl (by show j<0+n*i.size;rw[f];omega))
 have C:(Builtin.firstCells i.size n (.slice (Mw g 0) n a)).run P w.drew=.ok l.toArray w.drew:=GI w.drew i.size n _ n a l (by rw[f];exact m.1) (λk D c=>m.cells rfl k D c)
 have c:=run_append_grow_src (P:=P) w t t q e i z A s H (Mw g 0) n a l C x 1 [u] h ω (by unfold maxLen at G;omega) (growslice_fits ω F);rw[y]at c;injection c with _ k;rw[k];have D:g<w.heap.size:=(AW.1 o).1;exact FA (w:=w.drew) _ g j D
theorem I6{P:Program}(w:Nb){C:Array Oper}{o:Oper}{a:Act}{K:Act->Nb->Prop}{Q:Exit->Act->Nb->Prop}{E:Prop}(I:o.guard=none)(s x:Operand)(t:TypeId)
  (O:o.op=.call { callee:=.builtin .append,args:=#[s,x],argTypes:=#[t,t] })
  (d:Nat)(e:TypeId)(i:TypeInfo)(z:Nc)(p:P.underlying t=some (.slice e))(F:P.info? e=some i)(G:i.zero=some z)(r:i.size=1)(J:z.cells.size=1)
  (v:Nc)(n:Nat)(m:List Nc)(R:a.eval s=v)(y:w.ownsRow d e 1 v n m)
  (l:Addr)(c:Nat)(u:Nc)(k:a.eval x=.slice (some l) 1 c)(S:w.cell? (l.add 0)=some u)(D:u.oneCell'=true)
  (A:n+1<=maxLen)(q:(n+1)*i.bytes<=140737488355328)(H:d<=w.heap.size)
  (h:∀g f w',w'.ownsRow d e 1 (.slice (Mw g 0) (n+1) f) (n+1) (m++[u])->w.grownBy w' v.ownBlock->(v.ownBlock=some g\/g=w.heap.size)->(∀b,v.ownBlock=some b->∀j,j<n->w'.cell? ⟨b,j,none⟩=w.cell? ⟨b,j,none⟩)->K (a.put o.dst (.slice (Mw g 0) (n+1) f)) w'):if Region.wanted o (yielded C a.tmps)=true then Oper.wp P o a w K Q else E:=by
 have T:Region.wanted o (yielded C a.tmps)=true:=by simp[Region.wanted,I]
 rw[AE T]
 have B:∀j f,[u][j]?=some f->w.cell? (l.add j)=some f:=λj f b=>by
  match j,b with
  | 0,b=>cases b;exact S
 obtain⟨g,f,w',b,j,L,M,U⟩:=run_append_lies (P:=P) w t o.type d e i z 1 i.bytes p F G r rfl J ω v n m y l 1 c [u] rfl B (λx k=>by simp at k;rw[k];exact D) ω A q H _ rfl;have N:=Cd t o.type d e i z p F G r v n m y _ u (Src.ofSlice w p l 1 c [u] rfl B (λx k=>by simp at k;rw[k];exact D)) q A b;unfold Oper.wp execOp;simp only[O,resolve,invoke,builtin,IF,JK,IP,List.map_toArray,IK,KS,R,k,b];exact h g f w' j L M N
structure HpPost(w w':Nb)(SB:Nat)(l:Int)(o:Nat->Nat)(y:Wo)(q:Wp)(o':Nat->Nat):Prop where
 r:Row w' SB (ST l y q)
 h:RE y w' q o'
 ag:∀b,b<w.heap.size->o' b=o b
 os:w'.os=w.os
 tape:w'.tape=w.tape
 output:w'.output=w.output
 size:w.heap.size<=w'.heap.size
 block:∀b,b<w.heap.size->b≠SB->o b=0->w'.heap[b]?=w.heap[b]?
 cap:y.rs.length<=q.cs
theorem fi{d:Nat}{l:Int}{o:Nat->Nat}{y:Wo}(h:YV w w' d l o y):∃q c,HpPost w w' d l o y q c:=by
 obtain⟨q,c,f,g,i,a,m⟩:=h;exact⟨q,c,f,g,i,a.os,a.tape,a.output,a.size,λb j k _=>a.block b j (λe=>k (by injection e)),m⟩
theorem Bt{o:Nat->Nat}{p:M6}{P:List (List Pr)}{q B g n:Nat}{d:List Nc}{a:M6}{c:Nat}{f:List Pr}(h:XJ w o p P)(J:0<P.length)(own:w.ownsRow B 31 1 (.slice p P.length q) P.length d)
  (I:OwL w o (7+P.length) a (MC f))(m:w'.ownsRow B 31 1 (.slice (Mw g 0) (P.length+1) n) (P.length+1) (d++[.slice a f.length c]))(A:w.grownBy w' (Value.slice p P.length q).ownBlock)
  (H:o g=5)(C:∀b,(Value.slice p P.length q).ownBlock=some b->∀j,j<P.length->w'.cell? ⟨b,j,none⟩=w.cell? ⟨b,j,none⟩):Only o (λk=>k=5) w w'/\XJ w' o p P/\XJ w' o (Mw g 0) (P++[f]):=by
 obtain⟨b,rfl,G,y,z⟩:=h.resolve_left ω;have j:Only o (λk=>k=5) w w':=io A (λx e=>by cases e;exact y);refine⟨j,.inr ⟨b,rfl,AD G A.size,y,λi k=>?_⟩,.inr ⟨g,rfl,(TE m).lt,H,λi k=>?_⟩⟩
 ·obtain⟨l,e,s,t⟩:=z i k
  exact⟨l,e,(C b rfl i k).j s,t.only j ω⟩
 have D:d.length=P.length:=by rw[own.1,KM]
 by_cases v:i<P.length
 ·obtain⟨l,e,s,t⟩:=z i v
  have r:(P++[f]).getD i []=P.getD i []:=by simp[List.getD,BC v]
  simp only[r];obtain⟨u,x⟩:∃u,d[i]?=some u:=⟨_,BQ ω⟩;have F:=(TE own).cell i u x;have E:u=.slice l (P.getD i []).length e:=CE (F.symm.j s);exact⟨l,e,(TE m).cell i _ (by rw[BC ω,x,E]),t.only j ω⟩
 obtain rfl:i=P.length:=by simp at k;omega
 have r:(P++[f]).getD P.length []=f:=by simp[List.getD]
 simp only[r];exact⟨a,c,(TE m).cell P.length _ (by rw[DG ω,D];simp),I.only j ω⟩
theorem VL{a:M6}{b:List Nc}{n g:Nat}(h:OwnS w a b)(d:n≠0->b≠[])(k:blk a n=some g):g<w.heap.size:=by
 by_cases c:n=0
 ·rw[c]at k;simp[blk]at k
 obtain⟨f,rfl,e⟩:=h.resolve_left (d c)
 rw[QJ k];exact e.lt
theorem sq{f:Nat}{e:TypeId}{s:Nat}{v:Nc}{n:Nat}{i:List Nc}{F:Nat->Prop}(h:w.ownsRow f e s v n i)(hF:∀b,v.ownBlock=some b->F b):DepF w F (λW=>W.ownsRow f e s v n i) :=⟨h,λw' o m=>by
  refine⟨h.1,h.2.imp_right λ⟨g,a,c,j,k,d,l⟩=>?_⟩;subst j
  exact⟨g,a,c,rfl,k,(m g (hF g rfl) (AW.1 d).1).j d,l⟩⟩
theorem Kk(x:Wo)(q:Wp)(e:Ev)(a:M6)(c:Nat)(f:M6)(d j:Nat)(l:Int)(o:Nat->Nat)(w:Nb)(n:Row w j (ST l x q))(h:RE x w q o)(z:o j=0)(C:DepF w (λb=>b≠j) (λW=>Ints W f e.fs))(D:x.ok)(B:e.le)(A:e.K=5):Calls prog 31 #[Mv j 0,OD e a c f d] w λr w'=>r=M3 (.tuple #[])/\YV w w' j l o (x.doE e):=by
 have I:=n.lt;have p:x.doE e=x.pow e.fs:=by unfold Wo.doE;rw[AE A]
 rw[p];unfold OD;have i:=(YA n (h.depF z)).add C;have m:=Z (λw' g k s=>qV x q f e.fs d j l o w' g k z s D.le B.f);obtain⟨g,k⟩:∃y,Hid (y=x.pow e.fs):=⟨_,Z rfl⟩;rw[<-k.l]at m⊢;clear n h C p A D B k;go_enter func31,ntmps31;go_upto_region 1 with fail;generalize p:w.alloc _=J;obtain⟨v,G,k⟩:=LY p;clear p;replace i:=i.I v;have p:=k.q.y 3;have s:=k.q.lt;have H:=v.size;go_wp2_with fail;clear p s k;refine(m.l _ i.r i.m.q.1 i.m.q.2).z ?_;rintro r K ⟨rfl,F,E,t,u,y,p,s⟩;have k:=Z (AH t (AH u (AH (QG i.e p) s)));clear t u p s i m;go_wp2;exact GO (v:=.tuple #[]) (by simp[results,results31]) rfl ⟨rfl,F,E,k.l.1,k.l.2.1,λb i=>y b ω,k.l.2.2.1,k.l.2.2.2⟩
theorem Cj{x:Wo}{e:Ev}{D:Dd}(f:e.K=2)(b:x.call e=(D,true)):x.doE e=x.runE e D:=by
 by_cases c:D.C≠0\/200<(NW x e D).length\/2000<(PW x e D).length
 ·have d:x.runE e D=x:=by unfold Wo.runE;rw[AE c]
  rw[d]
  by_cases a:D.C=0
  ·exact un ω b a ω
  exact YR ω b (.inr a)
 have a:D.C=0:=ω
 unfold Wo.runE;rw[AG c]
 cases hb:RF e D with
 | true=>exact xa ω b a ω hb
 | false=>exact vP ω b a ω hb f
theorem Ai(x:Wo)(q:Wp)(e:Ev)(a:M6)(c:Nat)(f:M6)(d n:Nat)(l:Int)(o:Nat->Nat)(w:Nb)(hR:Row w n (ST l x q))(h:RE x w q o)(h0:o n=0)(aV:x.rs.length<=q.cs)(lo:Nat)(K:List Nc)(bQ:w.ownsRow lo 31 1 (.slice q.p x.P.length q.cp) x.P.length K)(cW:0<x.P.length)(dL:lo<=w.heap.size)(hf:DepF w (λb=>b≠n/\o b=0) (λW=>Ints W f e.fs))(bY:Chs w a e.b)(ho:x.ok)(he:e.le)(X:e.K=2):Calls prog 28 #[Mv n 0,OD e a c f d] w λr w'=>r=M3 (.tuple #[])/\∃g j,HpPost w w' n l o (x.doE e) g j:=by
 have lS:=hR.lt;have i:=ho.le;have hd:(QE x.W x.S x.L x.T x.H x.F x.R x.U x.O x.rs e.b).ok:=by have:=ho.call e;unfold Wo.call at this;simpa[X] using this
 have bJ:∀b,(Value.slice q.p x.P.length q.cp).ownBlock=some b->o b=5:=λb k=>by obtain⟨b',e',_,h5,_⟩:=h.h4.resolve_left ω;rw[e']at k;cases k;exact h5
 have bW:∀b,(Value.slice q.p x.P.length q.cp).ownBlock=some b->b<w.heap.size:=λb k=>(bQ.lt b k).2
 have t:DepF w (λb=>b≠n) (λW=>W.ownsRow lo 31 1 (.slice q.p x.P.length q.cp) x.P.length K):=sq bQ (λb k e=>by have:=bJ b k;rw[e]at this;omega);have m:=((YA hR (h.all h0 lS)).add (hf.z (λb _ k=>k.1))).add t;have O:=Z (λw' J L=>Mb x.W x.S x.L x.T x.H x.F x.R x.U x.O q.s x.rs q.cs a e.b c w' J aV i.l3 i.s3 L he.b.1 he.b.2);unfold NK at O;obtain⟨bT,g⟩:∃y,Hid (y=x.doE e):=⟨_,Z rfl⟩;rw[<-g.l];obtain⟨D,s⟩:∃D,Hid (D=QE x.W x.S x.L x.T x.H x.F x.R x.U x.O x.rs e.b):=⟨_,Z rfl⟩;rw[<-s.l]at O hd;have B:Hid (x.call e=(D,x.up)):=Z (by rw[s.l];unfold Wo.call;simp[X]);have u:NW x e D=x.P++[D.rs]:=AE X;have T:=Z (λA F E M p cp j w' (hR':Row w' n (ST l x q)) h' h0' hp' hs' hb' hbc hf' hdc'=>uN x q e a c f d D A F E M p cp n l j w' hR' h' h0' hp' hs' hb' hbc hf' ho hd he aV hdc');have cL:=Z aV;rw[u,show(x.P++[D.rs]).length=x.P.length+1 by simp]at T
 unfold OD NZ at T;unfold OD;have dN:=(VC hd.1).1;have dM:=ho.p.1;have HK:=Z X;have HF:=Z hf;have V:=Z bY;have HH:=Z h;clear hR h hf i X bY bQ t u ho he aV;obtain⟨i1,i,j,t,u⟩:=XF mg;have HJ:=Z (AH i (AH j (AH t u)));clear i j t u;go_enter func28,ntmps28;go_upto_region 1 with fail;generalize i:w.alloc _=v1;obtain⟨t,u,j⟩:=LY i;clear i;replace m:=(m.I t).add (LZ j.q ω);clear j u;have v:=m.r.y 5;have C:=m.r.lt;have dH:=t.size;obtain⟨u,i⟩:∃u,Hid (u=x.up):=⟨_,Z rfl⟩;rw[<-i.l]at v
 cases u with
 | false =>
  have j:x=bT:=by rw[g.l];exact(YR (by have:=HK.l;omega) B.l (.inl (by rw[<-i.l]))).symm
  clear g;subst j;have z:=Z m;clear m O T;go_wp2;exact AJ (v:=.tuple #[]) (by simp[results,results28]) rfl ⟨rfl,fi ⟨q,o,z.l.r,z.l.m.q.1.1.1 o (λ_ _=>rfl),λ_ _=>rfl,z.l.e,cL.l⟩⟩
 | true =>
  have j:bT=x.runE e D:=by rw[g.l];exact Cj HK.l (by rw[B.l,<-i.l])
  rw[<-j]at T;clear j g B i s;go_upto_region 2 with fail;clear v C;replace m:=m.I (AB v1.heap.size v1).drew;replace t:=t.drew;refine VS (9) (S:=λw'=>Row w' n (ST l x q)/\Row w' w.heap.size [.int .i64 e.K,.slice a e.b.length c,.int .i64 e.cut,.slice f e.fs.length d]) κ (⟨m.r,m.m.q.2⟩) (λz=>?_);refine NN 0 (Mv n 0) rfl z (NN 1 (Mv n 0) rfl z (OZ 2 (Mv n 2) rfl (BO ⟨ρ,λw v=>by obtain⟨H,I⟩:=v;have l:=H.lt;go_simp⟩) z (OZ 3 (Mv n 6) rfl (BO ⟨ρ,λw v=>by obtain⟨H,I⟩:=v;have l:=H.lt;go_simp⟩) z (OZ 4 (.agg (sK x.W x.S x.L x.T x.H x.F x.R x.U x.O (.slice q.s x.rs.length q.cs))) rfl (BO ⟨ρ,λw v=>by obtain⟨H,I⟩:=v;exact LJ 33 _ rfl _ 6 rfl (sJ x.W x.S x.L x.T x.H x.F x.R x.U x.O (.slice q.s x.rs.length q.cs)) _ (Row.rangeMid (pre:=[.int .i32 l,.int .u32 0,.int .i64 x.w,.slice q.a x.ss.length q.c,.slice q.a' x.ws.length q.c',M0 x.up]) (cs:=(sJ x.W x.S x.L x.T x.H x.F x.R x.U x.O (.slice q.s x.rs.length q.cs))) (post:=[.slice q.p x.P.length q.cp,.slice q.t x.ts.length q.ct]) H) underlying33 rfl QI⟩) z (OZ 5 (Mv w.heap.size 1) rfl (BO ⟨ρ,λw v=>by obtain⟨H,I⟩:=v;have l:=I.lt;go_simp⟩) z (OZ 6 (.slice a e.b.length c) rfl (BO ⟨ρ,λw v=>by obtain⟨H,I⟩:=v;have c1:=I.y 1;go_simp⟩) z ?_))))))
  simp only[PS];refine RT (rs:=[7,8]) κ σ ?_;refine AllReadyT.cons rfl (λC s=>?_) (AllReadyT.cons rfl (λC s=>?_) AllReadyT.nil)
  focus
   generalize i:v1.drew=W at m t⊢;clear i;have ly:=m.e.size;refine LW ρ 65 #[.agg (sK x.W x.S x.L x.T x.H x.F x.R x.U x.O (.slice q.s x.rs.length q.cs)),.slice a e.b.length c] γ (O.l _ (m.m.q.1.1.1 o (λ_ _=>rfl)).h3.own.prs (V.l.I t)) ?_;rintro r U ⟨⟨A,F,E,M,rfl,aR,own,i,N,j⟩,Q⟩;have cC:=Q _ _ _ _ rfl;refine⟨_,rfl,?_⟩;unfold NZ;have lb:=j.size;replace m:=m.I j;replace t:=t.j (j.z t.size);have S:=ni own i N
   have gA:∀g,blk A D.rs.length=some g->w.heap.size<=g:=λg k=>by have:=i g k;omega
   have gB:∀g,blk E D.ops.length=some g->w.heap.size<=g:=λg k=>by have:=N g k;omega
   have cB:=own.ne;clear j Q own;refine s.l _ _ (⟨m.r,m.m.q.2⟩) (λbG=>?_)
   try simp only[PS]
   refine PH 8 rfl (λC s=>?_);go_simp;obtain⟨y2,R⟩:∃y,y=U.alloc (.cells (dK 0 0 0 0 0 0 0 0 0 0 (.slice none 0 0) (.slice none 0 0)) 99):=⟨_,rfl⟩;have j:=LO U (.cells (dK 0 0 0 0 0 0 0 0 0 0 (.slice none 0 0) (.slice none 0 0)) 99);have G:=MT U (dK 0 0 0 0 0 0 0 0 0 0 (.slice none 0 0) (.slice none 0 0)) 99;rw[<-R]at j G⊢;obtain⟨B,Q⟩:∃y,y=U.heap.size:=⟨_,rfl⟩;rw[<-Q]at G⊢;have cP:n<B/\w.heap.size<B:=by have:=m.r.lt;have:=m.m.q.2.lt;omega
   have mN:=((m.m.and (NE S (λb J _=>ω))).z (G:=λb=>b≠n/\b≠B) (λb j k=>⟨k,ω⟩)).I j;replace m:=m.I j;replace t:=t.j (j.z t.size);have P:B<y2.heap.size:=G.lt;clear R Q j i N S;refine s.l _ _ (⟨m.r,m.m.q.2⟩) (λaN=>?_)
   try simp only[PS]
   have cQ:=P;clear P;have aU:=aN
  rotate_left
  focus
   generalize i:v1.drew=W at m t⊢;clear i;go_simp;obtain⟨U,R⟩:∃y,y=W.alloc (.cells (dK 0 0 0 0 0 0 0 0 0 0 (.slice none 0 0) (.slice none 0 0)) 99):=⟨_,rfl⟩;have j:=LO W (.cells (dK 0 0 0 0 0 0 0 0 0 0 (.slice none 0 0) (.slice none 0 0)) 99);have G:=MT W (dK 0 0 0 0 0 0 0 0 0 0 (.slice none 0 0) (.slice none 0 0)) 99;rw[<-R]at j G⊢;obtain⟨B,Q⟩:∃y,y=W.heap.size:=⟨_,rfl⟩;rw[<-Q]at G⊢;have cP:n<B/\w.heap.size<B:=by have:=m.r.lt;have:=m.m.q.2.lt;omega
   have cZ:=(m.m.z (G:=λb=>b≠n/\b≠B) (λb j k=>⟨k,ω⟩)).I j;replace m:=m.I j;replace t:=t.j (j.z t.size);have P:B<U.heap.size:=G.lt;clear R Q j;refine s.l _ _ (⟨m.r,m.m.q.2⟩) (λaO=>?_)
   try simp only[PS]
   refine PH 7 rfl (λC s=>?_);have ly:=m.e.size;refine LW ρ 65 #[.agg (sK x.W x.S x.L x.T x.H x.F x.R x.U x.O (.slice q.s x.rs.length q.cs)),.slice a e.b.length c] γ (O.l _ (m.m.q.1.1.1 o (λ_ _=>rfl)).h3.own.prs (V.l.I t)) ?_;rintro r y2 ⟨⟨A,F,E,M,rfl,aR,own,i,N,j⟩,Q⟩;have cC:=Q _ _ _ _ rfl;refine⟨_,rfl,?_⟩;unfold NZ;have lb:=j.size;replace m:=m.I j;replace t:=t.j (j.z t.size);have S:=ni own i N
   have gA:∀g,blk A D.rs.length=some g->w.heap.size<=g:=λg k=>by have:=i g k;omega
   have gB:∀g,blk E D.ops.length=some g->w.heap.size<=g:=λg k=>by have:=N g k;omega
   have cB:=own.ne;replace G:=G.I j;have mN:=(cZ.I j).and (NE S (λb J _=>⟨ω,ω⟩));have P:B<y2.heap.size:=G.lt;clear j Q own i N S;refine s.l _ _ (⟨m.r,m.m.q.2⟩) (λaP=>?_)
   try simp only[PS]
   have cQ:=P;clear P;have aU:=aP
  all_goals
   refine RT (rs:=[9]) κ σ ?_;refine AllReadyT.last rfl (λC s=>?_);refine LH rfl 99 _ _ rfl B 0 (dK D.C D.W D.S D.L D.T D.H D.F D.R D.U D.O (.slice A D.rs.length F) (.slice E D.ops.length M)) rfl rfl (G.there rfl) UB κ ?_;refine s.l _ _ trivial (λ_=>?_)
   try simp only[PS]
   refine UY κ ?_ _;have j:=LG y2 B 0 (dJ D.C D.W D.S D.L D.T D.H D.F D.R D.U D.O (.slice A D.rs.length F) (.slice E D.ops.length M));have R:=G.sets (dJ D.C D.W D.S D.L D.T D.H D.F D.R D.U D.O (.slice A D.rs.length F) (.slice E D.ops.length M)) rfl;have i:Sc w (y2.setCells B 0 (dJ D.C D.W D.S D.L D.T D.H D.F D.R D.U D.O (.slice A D.rs.length F) (.slice E D.ops.length M))) n (ST l x q) _:=⟨⟨j.os.j m.e.os,j.tape.j m.e.tape,j.output.j m.e.output,AK m.e.size j.size,λb J L=>(j.block b (by have:=m.e.size;omega) (λe=>by injection e;omega)).j (m.e.block b J L)⟩,m.r.J j (λe=>by injection e;omega),(mN.J j (λg e k=>by cases e;exact k.2 rfl)).z (λb _ k=>k.1)⟩;replace i:=i.add (LZ R ω);have l3:=j.size;generalize N:World.setCells _ _ _ _=y3 at i l3⊢;clear N m mN G R j t O V
   go_upto_region 3 with fail;replace i:=i.I (AB y3.heap.size y3).drew;refine AN (S:=λw'=>n<w'.heap.size/\Row w' w.heap.size [.int .i64 e.K,.slice a e.b.length c,.int .i64 e.cut,.slice f e.fs.length d]/\Row w' B (dJ D.C D.W D.S D.L D.T D.H D.F D.R D.U D.O (.slice A D.rs.length F) (.slice E D.ops.length M))) κ (⟨i.r.lt,i.m.q.1.1.2,i.m.q.2⟩) (λz=>?_);refine TY 0 (Mv n 0) rfl z (TK 1 (.agg #[.int .i64 e.K,.slice a e.b.length c,.int .i64 e.cut,.slice f e.fs.length d]) rfl (BO ⟨ρ,λw v=>by obtain⟨H,I,P⟩:=v;exact LJ 45 _ rfl _ 0 rfl _ _ I.range underlying45 rfl ZQ⟩) z (TK 2 (.agg (dK D.C D.W D.S D.L D.T D.H D.F D.R D.U D.O (.slice A D.rs.length F) (.slice E D.ops.length M))) rfl (BO ⟨ρ,λw v=>by obtain⟨H,I,P⟩:=v;exact LJ 99 _ rfl _ 0 rfl _ _ P.range underlying99 rfl UB⟩) z (TY 3 (Mv n 0) rfl z (TY 4 (Mv n 0) rfl z (TY 5 (Mv n 2) rfl z (TY 6 (Mv n 16) rfl z (TK 8 (Mv B 1) rfl (BO ⟨ρ,λw v=>by obtain⟨H,I,P⟩:=v;have l:=P.lt;go_simp⟩) z (TK 9 (Mv B 10) rfl (BO ⟨ρ,λw v=>by obtain⟨H,I,P⟩:=v;have l:=P.lt;go_simp⟩) z (TK 10 (.agg #[.slice A D.rs.length F]) rfl (BO ⟨ρ,λw v=>by obtain⟨H,I,P⟩:=v;have c10:=P.y 10;go_simp⟩) z ?_)))))))))
   simp only[PS];refine EF (rs:=[7,11]) κ σ ?_;refine BK rfl (λC s=>?_) (BK rfl (λC s=>?_) DX)
   focus
    generalize j:y3.drew=u0 at i⊢;clear j;have c16:=i.r.y 16;go_simp;clear c16;refine s.l _ _ (⟨i.r.lt,i.m.q.1.1.2,i.m.q.2⟩) (λbG=>?_)
    try simp only[PS]
    refine RD 11 rfl (λC s=>?_);refine LW ρ _ _ γ (ZF A D.rs F _ i.m.q.1.2.s.prs ω) ?_;rintro r u1 ⟨m,v,rfl,cV,t,S,j⟩;refine⟨_,rfl,?_⟩;unfold MH;have lu:=i.e.size;have N:=VD t SM S (SB:=n) ω
    have g6:=λg k=>VL (g:=g) t an k
    have gO:=λg k=>VL (g:=g) i.m.q.1.2.s an k
    have gP:=λg k=>VL (g:=g) i.m.q.1.2.p sL k
    have lb:=j.size;replace i:=i.I j;clear j t;refine s.l _ _ (⟨i.r.lt,i.m.q.1.1.2,i.m.q.2⟩) (λaN=>?_)
    try simp only[PS]
    refine RD 12 rfl (λC s=>?_);go_simp;obtain⟨u2,O⟩:∃y,y=u1.alloc (.cells #[.slice m D.rs.length v] 31):=⟨_,rfl⟩;have j:=LO u1 (.cells #[.slice m D.rs.length v] 31);have G:=MT u1 #[.slice m D.rs.length v] 31;rw[<-O]at j G⊢;obtain⟨GB,t⟩:∃y,y=u1.heap.size:=⟨_,rfl⟩;rw[<-t]at G⊢;replace i:=i.I j;replace N:=N.I j;have cJ:u1.heap.size<=u2.heap.size:=j.size;clear O t j;refine s.l _ _ (⟨i.r.lt,i.m.q.1.1.2,i.m.q.2⟩) (λaO=>?_)
    try simp only[PS]
    have aU:=aO
   rotate_left
   focus
    generalize j:y3.drew=u0 at i⊢;clear j;refine LW ρ _ _ γ (ZF A D.rs F _ i.m.q.1.2.s.prs ω) ?_;rintro r u1 ⟨m,v,rfl,cV,t,S,j⟩;refine⟨_,rfl,?_⟩;unfold MH;have lu:=i.e.size;have N:=VD t SM S (SB:=n) ω
    have g6:=λg k=>VL (g:=g) t an k
    have gO:=λg k=>VL (g:=g) i.m.q.1.2.s an k
    have gP:=λg k=>VL (g:=g) i.m.q.1.2.p sL k
    have lb:=j.size;replace i:=i.I j;clear j t;refine s.l _ _ (⟨i.r.lt,i.m.q.1.1.2,i.m.q.2⟩) (λaP=>?_)
    try simp only[PS]
    refine EF (rs:=[7,12]) κ σ ?_;refine BK rfl (λC s=>?_) (BK rfl (λC s=>?_) DX)
    focus
     have c16:=i.r.y 16;go_simp;clear c16;refine s.l _ _ (⟨i.r.lt,i.m.q.1.1.2,i.m.q.2⟩) (λcS=>?_)
     try simp only[PS]
     refine RD 12 rfl (λC s=>?_);go_simp;obtain⟨u2,O⟩:∃y,y=u1.alloc (.cells #[.slice m D.rs.length v] 31):=⟨_,rfl⟩;have j:=LO u1 (.cells #[.slice m D.rs.length v] 31);have G:=MT u1 #[.slice m D.rs.length v] 31;rw[<-O]at j G⊢;obtain⟨GB,t⟩:∃y,y=u1.heap.size:=⟨_,rfl⟩;rw[<-t]at G⊢;replace i:=i.I j;replace N:=N.I j;have cJ:u1.heap.size<=u2.heap.size:=j.size;clear O t j;refine s.l _ _ (⟨i.r.lt,i.m.q.1.1.2,i.m.q.2⟩) (λbH=>?_)
     try simp only[PS]
     have aU:=bH
    rotate_left
    focus
     go_simp;obtain⟨u2,O⟩:∃y,y=u1.alloc (.cells #[.slice m D.rs.length v] 31):=⟨_,rfl⟩;have j:=LO u1 (.cells #[.slice m D.rs.length v] 31);have G:=MT u1 #[.slice m D.rs.length v] 31;rw[<-O]at j G⊢;obtain⟨GB,t⟩:∃y,y=u1.heap.size:=⟨_,rfl⟩;rw[<-t]at G⊢;replace i:=i.I j;replace N:=N.I j;have cJ:u1.heap.size<=u2.heap.size:=j.size;clear O t j;refine s.l _ _ (⟨i.r.lt,i.m.q.1.1.2,i.m.q.2⟩) (λcT=>?_)
     try simp only[PS]
     refine RD 7 rfl (λC s=>?_);have c16:=i.r.y 16;go_simp;clear c16;refine s.l _ _ (⟨i.r.lt,i.m.q.1.1.2,i.m.q.2⟩) (λbI=>?_)
     try simp only[PS]
     have aU:=bI
   all_goals
    refine RD 13 rfl (λC s=>?_);refine I6 _ rfl _ _ 34 rfl lo 31 i1 (.agg #[.slice none 0 0]) underlying34 HJ.l.1 HJ.l.2.1 HJ.l.2.2.1 rfl (.slice q.p x.P.length q.cp) x.P.length K rfl i.m.q.1.1.1.2 ⟨GB,0,none⟩ 1 (.slice m D.rs.length v) rfl (by rw[fg];exact G.y 0) rfl (by unfold maxLen;omega) (by rw[HJ.l.2.2.2];omega) (by have:=i.e.size;omega) ?_;intro g9 aY u3 aT t aQ aS;obtain⟨O,V⟩:∃y,Hid (y=λb=>if b<w.heap.size then o b else if blk m D.rs.length=some b then 7+x.P.length else if blk A D.rs.length=some b then 3 else if blk E D.ops.length=some b then 6 else if b=u2.heap.size then 5 else 0):=⟨_,Z rfl⟩
    have ag:∀b,b<w.heap.size->O b=o b:=λb j=>by rw[V.l];exact AE j
    have z3:O n=0:=(ag n lS).j h0;have dP:=i.e.size;have Q:=i.m.q.1.1.1.1.1 O ag;have cE:OwL u2 O (7+x.P.length) m (MC D.rs):=TW N.q SM S (λg k=>by have:=S g k;rw[V.l];simp only[];rw[AG ω,AE k]);have A2:OwL u2 O 3 A (MC D.rs):=TW i.m.q.1.2.s SM gA (λg k=>by have J:=gA g k;have L:=gO g k;rw[V.l];simp only[];rw[AG ω,AG (λe=>by have:=S g e;omega),AE k])
    have B2:OwL u2 O 6 E (OO D.ops):=TW i.m.q.1.2.p jk gB (λg k=>by have J:=gB g k;have L:=gP g k;rw[V.l];simp only[];rw[AG ω,AG (λe=>by have:=S g e;omega),AG (λe=>by rcases cB with h|h|h;rw[h]at e;cases e;rw[h]at k;cases k;exact h (e.j k.symm)),AE k])
    have cA:O g9=5:=by
     rcases aQ with k|k
     ·obtain⟨b',e',_,h5,_⟩:=Q.h4.resolve_left ω
      rw[e']at k
      cases k
      exact h5
     rw[k,V.l]
     simp only[];rw[AG ω,AG (λe=>by have:=g6 _ e;omega),AG (λe=>by have:=gO _ e;omega),AG (λe=>by have:=gP _ e;omega)];simp
    obtain⟨y,P3,PN⟩:=Bt Q.h4 cW i.m.q.1.1.1.2 cE aT t cA aS;have W3:RE x u3 q O:=⟨Q.h1.only y ω,Q.h2.only y ω,Q.h3.only y ω,P3,Q.h5.only y ω⟩;have A3:=A2.only y ω;have B3:=B2.only y ω;have R3:=i.r.J t (λe=>by have:=bJ n e.symm;omega);have aW:=i.m.q.1.1.2.J t (λe=>by have:=bW _ e.symm;omega);have R:=i.m.q.2.J t (λe=>by have:=bW _ e.symm;omega)
    have b7:∀b,b<w.heap.size->b≠n->o b=0->u3.heap[b]?=w.heap[b]?:=λb J L h3=>(t.block b ω (λe=>by have:=bJ b e.symm;omega)).j (i.e.block b J (λe=>L (by injection e)))
    have g:Below 0 w u3:=⟨t.os.j i.e.os,t.tape.j i.e.tape,t.output.j i.e.output,AK i.e.size t.size,λb j=>ω⟩;have I3:=(HF.l.step g (λb k1 k2=>b7 b k2 k1.1 k1.2)).z (G:=λb=>b≠n) (λb _ k=>k.1);clear Q cE A2 B2 aQ aT t aS i N G cA y P3;refine s.l _ _ (⟨R3.lt,aW,R⟩) (λcU=>?_)
    try simp only[PS]
    refine RD 14 rfl (λC s=>?_);refine LW ρ _ _ γ (T.l A F E M _ aY O u3 R3 W3 z3 PN A3 B3 cC I3 aR) ?_;rintro r u4 ⟨rfl,q4,o4,t,G,N,i,y⟩;have cO:=Z y;clear y;refine⟨_,rfl,?_⟩;replace aW:=aW.J i (λe=>by injection e;omega);replace R:=R.J i (λe=>by injection e;omega);refine s.l _ _ (⟨t.lt,aW,R⟩) (λbV=>?_)
    try simp only[PS]
    refine DN ?_;have y:=Z (AH t G);have cN:=Z i;have Q:=Z g;clear t G i g W3 R3 T PN A3 B3 I3;go_wp2;have i:=cN.l;have g:=Q.l;exact GO (v:=.tuple #[]) (by simp[results,results28]) rfl ⟨rfl,q4,o4,y.l.1,y.l.2,λb j=>(N b (by have:=g.size;omega)).j (ag b j),i.os.j g.os,i.tape.j g.tape,i.output.j g.output,AK g.size i.size,λb J L h3=>(i.block b (by have:=g.size;omega) (λe=>L (by injection e))).j (b7 b J L h3),cO.l⟩
