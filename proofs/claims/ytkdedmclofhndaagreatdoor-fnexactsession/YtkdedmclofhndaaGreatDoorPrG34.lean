import Derived.OneCell
import Derived.Test.YtkdedmclofhndaaGreatDoorPrG33
set_option maxHeartbeats 16000000
set_option maxRecDepth 8000
set_option linter.all false
namespace Go.Proofs.YtkdedmclofhndaaGreatDoor
open _root_.ByteArray(empty)
open Tryz
open Go.RowKit
variable {r:yZ}{vs xs:List qD}{base cap g m n n0 size:Nat}{a:xA}{e:TypeId}{v x:qD}{w w' w1 w7 wr:xV}
section
theorem LZ(h:w.ownsRow base e size v n xs)(l:yX w w'):w'.ownsRow base e size v n xs:=by
 refine⟨h.1,?_⟩;rcases h.2 with f|⟨g,cap,b,i,j,c,k⟩
 ·exact .inl f
 refine .inr ⟨g,cap,b,i,j,?_,k⟩
 have d:g<w.heap.size:=by
  rcases FX g w.heap.size with h|h
  ·exact h
  rw[EG h]at c;cases c
 rw[l.block g d];exact c
theorem RJ(h:w.ownsRow base e size (yI (zY g 0) n cap) n xs):Row w g xs:=by
 have j:=(h.lt g rfl).2;refine⟨j,λi v hv=>?_,λi b=>?_⟩
 ·have:=h.cells (g:=g) rfl i v hv
  have b:((yA g 0):Addr).add i=(yA g i):=by unfold Addr.add;split<;>simp_all
  rwa [b]at this
 rcases h.2 with ⟨f,_⟩|⟨k,i,d,b,_,c,_⟩
 ·cases f
 simp at b
 rw[<-b.1]at c;simp[World.frozen?,c]
theorem qq{t:TypeId}{s:Nat}{c:Nat}(h:w.ownsRow base t s (yI a n c) m xs):m<=c:=by
 rcases h.2 with ⟨b,f⟩|⟨g,cap,d,b,_,_,f,_⟩
 ·omega
 injection b with _ _ e;omega
theorem MC(h:w.ownsRow base e size v n xs):(v=yI none 0 0/\n=0)\/∃g cap,v=yI (zY g 0) n cap/\base<=g/\g<w.heap.size/\Row w g xs:=by
 rcases h.2 with c|⟨g,cap,b,d,f,i,j⟩
 ·exact .inl c
 subst d
 exact .inr ⟨g,cap,rfl,f,(h.lt g rfl).2,RJ h⟩
structure Dsk(W w:xV)(R D base:Nat)(e e':TypeId)(v v':qD)(ss:List yZ)(ws:List (Int×yZ)):Prop where
 hR:W.heap.size<=R
 hR':R<base
 hD:W.heap.size<=D
 hD':D<base
 ne:R≠D
 sz:base<=w.heap.size
 bel:yX W w
 r0:w.cell? (yA R 0)=some (yI none 0 0)
 r1:w.cell? (yA R 1)=some (yI none 0 0)
 fr0:w.frozen? (yA R 0)=false
 fr1:w.frozen? (yA R 1)=false
 d0:w.cell? (yA D 0)=some v
 d1:w.cell? (yA D 1)=some v'
 fd0:w.frozen? (yA D 0)=false
 fd1:w.frozen? (yA D 1)=false
 own:w.ownsRow base e 1 v ss.length (ss.map Value.string)
 own':w.ownsRow base e' 2 v' ws.length (MH ws)
 apart:v.ownBlock=none\/v'.ownBlock=none\/v.ownBlock≠v'.ownBlock
section
variable {W w w':xV} {R D base:Nat} {e e':TypeId} {v v':qD} {ss:List yZ} {ws:List (Int×yZ)}
theorem Dsk.I(h:Dsk W w R D base e e' v v' ss ws)(b:yX w w'):Dsk W w' R D base e e' v v' ss ws :=have d:R<w.heap.size:=AC h.hR' h.sz;have c:D<w.heap.size:=AC h.hD' h.sz;have f:W.heap.size<=w.heap.size:=h.bel.size
 ⟨h.hR,h.hR',h.hD,h.hD',h.ne,AJ h.sz b.size,h.bel.E (b.J f),(b.cell (p:=(yA R 0)) d).E h.r0,(b.cell (p:=(yA R 1)) d).E h.r1,(b.frozen (p:=(yA R 0)) d).E h.fr0,(b.frozen (p:=(yA R 1)) d).E h.fr1,
  (b.cell (p:=(yA D 0)) c).E h.d0,(b.cell (p:=(yA D 1)) c).E h.d1,(b.frozen (p:=(yA D 0)) c).E h.fd0,(b.frozen (p:=(yA D 1)) c).E h.fd1,LZ h.own b,LZ h.own' b,h.apart⟩
theorem Dsk.drew(h:Dsk W w R D base e e' v v' ss ws):Dsk W w.drew R D base e e' v v' ss ws:=h.I ((AB _ _).drew)
theorem Dsk.alloc(h:Dsk W w R D base e e' v v' ss ws)(o:Obj):Dsk W (w.alloc o) R D base e e' v v' ss ws:=h.I (LG _ _)
theorem Dsk.push(h:Dsk W w R D base e e' v v' ss ws){H:Nat}{s:yZ}(l:w1.ownsRow base e 1 (yI (zY g 0) (ss.length+1) cap) (ss.length+1) (ss.map Value.string++[yQ s]))(c:w.grownBy w1 v.ownBlock)(A:v.ownBlock=some g\/g=H)(F:w.heap.size=H):Dsk W (w1.setCell (yA D 0) (yI (zY g 0) (ss.length+1) cap)) R D base e e' (yI (zY g 0) (ss.length+1) cap) v' (ss++[s]) ws:=by
 have y:R<w.heap.size:=AC h.hR' h.sz;have u:D<w.heap.size:=AC h.hD' h.sz;have G:W.heap.size<=w.heap.size:=h.bel.size
 have j:∀k,k<base->some k≠v.ownBlock:=λk b d=>by have:=(h.own.lt k d.symm).1;omega
 have p:∀i,w1.cell? (yA R i)=w.cell? (yA R i):=λi=>c.cell_far (yA R i) y (j R h.hR')
 have o:∀i,w1.cell? (yA D i)=w.cell? (yA D i):=λi=>c.cell_far (yA D i) u (j D h.hD')
 have t:∀i,w1.frozen? (yA R i)=w.frozen? (yA R i):=λi=>c.frozen_far (yA R i) y (j R h.hR')
 have q:∀i,w1.frozen? (yA D i)=w.frozen? (yA D i):=λi=>c.frozen_far (yA D i) u (j D h.hD')
 have E:base<=g:=(l.lt g rfl).1;have z:yX W w1:=h.bel.E ⟨c.os,c.tape,c.output,c.size,λk b=>c.block k ω (j k (by have:=h.hR;have:=h.hR';omega))⟩
 have B:v'.ownBlock=none\/(yI (zY g 0) (ss.length+1) cap).ownBlock≠v'.ownBlock:=by
  cases hv':v'.ownBlock with
  | none=>exact .inl rfl
  | some i =>
   refine .inr λd=>?_
   have k:g=i:=by simpa[Value.ownBlock] using d
   have C:=(h.own'.lt i hv').2;rcases A with f|f
   ·rcases h.apart with b|b|b
    ·rw[f]at b;cases b
    ·rw[hv']at b;cases b
    rw[f,hv',k]at b;exact b rfl
   omega
 refine⟨h.hR,h.hR',h.hD,h.hD',h.ne,?_,z.setCell h.hD _,?_,?_,?_,?_,?_,?_,?_,?_,?_,?_,?_⟩
 ·have:=c.size;have:=h.sz;simp only[BL];omega
 ·rw[DE (w:=w1) (h:=show((yA D 0):Addr)≠(yA R 0) fromλd=>h.ne (by injection d with f;exact f.symm)),p];exact h.r0
 ·rw[DE (w:=w1) (h:=show((yA D 0):Addr)≠(yA R 1) fromλd=>h.ne (by injection d with f;exact f.symm)),p];exact h.r1
 ·rw[BY,t];exact h.fr0
 ·rw[BY,t];exact h.fr1
 ·exact FW w1 _ _ ((o 0).E h.d0)
 ·rw[DE (w:=w1) (h:=show((yA D 0):Addr)≠(yA D 1) by simp),o];exact h.d1
 ·rw[BY,q];exact h.fd0
 ·rw[BY,q];exact h.fd1
 ·have:=EC l (a:=(yA D 0)) h.hD' (yI (zY g 0) (ss.length+1) cap)
  simpa using this
 ·have f:w1.ownsRow base e' 2 v' ws.length (MH ws):=h.own'.kept c (by
   rcases h.apart with b|b|b
   ·cases hv':v'.ownBlock with
    | none=>exact .inl rfl
    | some _=>rw[b];exact .inr σ
   ·exact .inl b
   ·exact .inr (λd=>b d.symm))
  exact EC f (a:=(yA D 0)) h.hD' _
 exact .inr B
theorem Dsk.push2(h:Dsk W w R D base e e' v v' ss ws){H:Nat}{x:Int×yZ}(l:w1.ownsRow base e' 2 (yI (zY g 0) (ws.length+1) cap) (ws.length+1) (MH ws++[Z x.1,yQ x.2]))(d:w.grownBy w1 v'.ownBlock)(z:v'.ownBlock=some g\/g=H)(E:w.heap.size=H):Dsk W (w1.setCell (yA D 1) (yI (zY g 0) (ws.length+1) cap)) R D base e e' v (yI (zY g 0) (ws.length+1) cap) ss (ws++[x]):=by
 have u:R<w.heap.size:=AC h.hR' h.sz;have t:D<w.heap.size:=AC h.hD' h.sz;have F:W.heap.size<=w.heap.size:=h.bel.size
 have j:∀k,k<base->some k≠v'.ownBlock:=λk b f=>by have:=(h.own'.lt k f.symm).1;omega
 have p:∀i,w1.cell? (yA R i)=w.cell? (yA R i):=λi=>d.cell_far (yA R i) u (j R h.hR')
 have o:∀i,w1.cell? (yA D i)=w.cell? (yA D i):=λi=>d.cell_far (yA D i) t (j D h.hD')
 have s:∀i,w1.frozen? (yA R i)=w.frozen? (yA R i):=λi=>d.frozen_far (yA R i) u (j R h.hR')
 have q:∀i,w1.frozen? (yA D i)=w.frozen? (yA D i):=λi=>d.frozen_far (yA D i) t (j D h.hD')
 have C:base<=g:=(l.lt g rfl).1;have y:yX W w1:=h.bel.E ⟨d.os,d.tape,d.output,d.size,λk b=>d.block k ω (j k (by have:=h.hR;have:=h.hR';omega))⟩
 have A:v.ownBlock=none\/v.ownBlock≠(yI (zY g 0) (ws.length+1) cap).ownBlock:=by
  cases hv:v.ownBlock with
  | none=>exact .inl rfl
  | some i =>
   refine .inr λf=>?_
   have k:i=g:=by simpa[Value.ownBlock] using f
   have B:=(h.own.lt i hv).2;rcases z with c|c
   ·rcases h.apart with b|b|b
    ·rw[hv]at b;cases b
    ·rw[c]at b;cases b
    rw[c,hv,k]at b;exact b rfl
   omega
 refine⟨h.hR,h.hR',h.hD,h.hD',h.ne,?_,y.setCell h.hD _,?_,?_,?_,?_,?_,?_,?_,?_,?_,?_,?_⟩
 ·have:=d.size;have:=h.sz;simp only[BL];omega
 ·rw[DE (w:=w1) (h:=show((yA D 1):Addr)≠(yA R 0) fromλf=>h.ne (by injection f with c;exact c.symm)),p];exact h.r0
 ·rw[DE (w:=w1) (h:=show((yA D 1):Addr)≠(yA R 1) fromλf=>h.ne (by injection f with c;exact c.symm)),p];exact h.r1
 ·rw[BY,s];exact h.fr0
 ·rw[BY,s];exact h.fr1
 ·rw[DE (w:=w1) (h:=show((yA D 1):Addr)≠(yA D 0) by simp),o];exact h.d0
 ·exact FW w1 _ _ ((o 1).E h.d1)
 ·rw[BY,q];exact h.fd0
 ·rw[BY,q];exact h.fd1
 ·have c:w1.ownsRow base e 1 v ss.length (ss.map Value.string):=h.own.kept d (by
   rcases h.apart with b|b|b
   ·exact .inl b
   ·cases hv:v.ownBlock with
    | none=>exact .inl rfl
    | some _=>rw[b];exact .inr σ
   ·exact .inr b)
  exact EC c (a:=(yA D 1)) h.hD' _
 ·have:=EC l (a:=(yA D 1)) h.hD' (yI (zY g 0) (ws.length+1) cap)
  rw[AK,B5];exact this
 rcases A with c|c
 ·exact .inl c
 exact .inr (.inr c)
theorem Dsk.V(h:Dsk W w R D base e e' v v' ss ws)(b:w.grownBy w1 v.ownBlock):w1.cell? (yA D 0)=some v/\w1.frozen? (yA D 0)=false:=by
 have c:D<w.heap.size:=AC h.hD' h.sz
 have d:some D≠v.ownBlock:=λf=>by have:=(h.own.lt D f.symm).1;have:=h.hD';omega
 exact⟨(b.cell_far (yA D 0) c d).E h.d0,(b.frozen_far (yA D 0) c d).E h.fd0⟩
theorem Dsk.grown2(h:Dsk W w R D base e e' v v' ss ws)(b:w.grownBy w1 v'.ownBlock):w1.cell? (yA D 1)=some v'/\w1.frozen? (yA D 1)=false:=by
 have c:D<w.heap.size:=AC h.hD' h.sz
 have d:some D≠v'.ownBlock:=λf=>by have:=(h.own'.lt D f.symm).1;have:=h.hD';omega
 exact⟨(b.cell_far (yA D 1) c d).E h.d1,(b.frozen_far (yA D 1) c d).E h.fd1⟩
end
end
def NN(x:yZ×yZ×Bool):List Int:=if x.2.2 then [1]++([(x.1.size:Int)]++LF x.1) else [0]++([(x.1.size:Int)]++LF x.1)++([(x.2.1.size:Int)]++LF x.2.1)
def ST(b:List (yZ×yZ×Bool)):yZ:=strOfNums (b.flatMap NN)
theorem L2:ST []=empty:=rfl
theorem Es(k v:yZ):strOfNums [0]++(strOfNums [(k.size:Int)]++k)++(strOfNums [(v.size:Int)]++v)=strOfNums (NN (k,v,false)):=by
 show _=strOfNums ([0]++([(k.size:Int)]++LF k)++([(v.size:Int)]++LF v));rw[TM,TM,TM,TM,UA,UA]
theorem Hj(k v:yZ):strOfNums [1]++(strOfNums [(k.size:Int)]++k)=strOfNums (NN (k,v,true)):=by
 show _=strOfNums ([1]++([(k.size:Int)]++LF k));rw[TM,TM,UA]
theorem Gz(b:List (yZ×yZ×Bool))(k:Nat)(x:yZ×yZ×Bool)(d:yZ×yZ×Bool)(h:k<b.length)(c:x=b.getD k d):ST (b.take (k+1))=ST (b.take k)++strOfNums (NN x):=by
 unfold ST;rw[BH h,List.flatMap_append,TM];simp[List.getD,h]at c;rw[c];simp
theorem nR(x:yZ×yZ×Bool)(h:OX x=true):(strOfNums (NN x)).size<=123:=by
 rw[CY];unfold OX PC OB at h;simp only[BD,BG]at h;unfold NN
 split
 ·simp[MR];omega
 simp[MR];omega
theorem sw(b:List (yZ×yZ×Bool))(h:∀x∈b,OX x=true):(ST b).size<=123*b.length:=by
 induction b with
 | nil=>simp[L2]
 | cons x r d =>
  have f:=d (λy c=>h y (DJ _ c));have c:=nR x (h x (EM));have e:ST (x::r)=strOfNums (NN x)++ST r:=by unfold ST;rw[GZ,TM]
  rw[e,BW,BJ];omega
def MA(b:List (yZ×yZ×Bool)):yZ:=if OM b=true then ST b else empty
abbrev Ch:=yZ×yZ×Bool
def b0(r:yZ):Nat:=(r.data.toList.getD 0 0).toNat
theorem ka(r:yZ):b0 r<=255:=by unfold b0;have:=IJ (r.data.toList.getD 0 0);omega
theorem vw(r:yZ)(a b:Nat):LF (r.extract a b)=((LF r).drop a).take (b-a):=by
 unfold LF;rw[IL,JV,List.extract_eq_take_drop,GS,KS]
theorem qP(r:yZ)(h:0<r.size):LF r=(b0 r:Int)::(LF r).drop 1:=by
 have b:0<r.data.toList.length:=h;unfold LF b0
 match r.data.toList,b with
 | x::l,_=>simp
theorem Mt{s:yZ}(h:LF r=LF s):r=s:=by rw[<-UA r,h,UA]
theorem uf(r:yZ):∀y∈LF r,0<=y/\y<=255:=by
 intro y b;unfold LF at b;obtain⟨c,_,rfl⟩:=DT.1 b;have:=IJ c;omega
theorem yx:∀(xs:List Int),(∀y∈xs,0<=y/\y<=255)->LF (strOfNums xs)=xs
 | [],_=>rfl
 | x::l,h=>by
  have ih:=yx l (λy hy=>h y (DJ _ hy));have hx:=h x (EM);simp only[LF,strOfNums]at ih⊢;simp only[FU,IM,List.toList_toArray]at ih⊢;simp[List.map_eq_map_iff]at ih⊢
  constructor
  ·omega
  exact ih
def pc(r:yZ):Option (yZ×yZ):=if 1<=r.size/\1+b0 r<=r.size then some (r.extract 1 (1+b0 r),r.extract (1+b0 r) r.size) else none
theorem vg{k m:yZ}(h:pc r=some (k,m)):LF r=[(k.size:Int)]++LF k++LF m/\k.size<=255:=by
 unfold pc at h
 split at h
 ·rename_i j
  simp only[EX,EJ]at h;obtain⟨rfl,rfl⟩:=h;have b:(r.extract 1 (1+b0 r)).size=b0 r:=by simp only[AQ];omega
  refine⟨?_,by rw[b];exact ka r⟩;rw[b,vw,vw];have i:=qP r ω;have c:r.size-(1+b0 r)=(LF r).length-(1+b0 r):=by rw[MR]
  rw[c,<-BQ,DF];have d:1+b0 r-1=b0 r:=ω
  rw[d];have f:(LF r).drop (1+b0 r)=((LF r).drop 1).drop (b0 r):=by rw[GN]
  rw[f,BV,FJ];exact i
 cases h
def QY(r:yZ):Option (Ch×yZ) :=match pc (r.extract 1 r.size) with
 | none=>none
 | some (k,m)=>if b0 r=1 then some ((k,empty,true),m) else
  match pc m with
  | none=>none
  | some (v,m')=>some ((k,v,false),m')
theorem Lo(r:yZ):LF (r.extract 1 r.size)=(LF r).drop 1:=by
 rw[vw];have b:r.size-1=((LF r).drop 1).length:=by rw[BQ,MR]
 rw[b,DF]
theorem tL{j:yZ}{c:Ch}(s:0<r.size)(h:QY r=some (c,j)):c.1.size<=255/\c.2.1.size<=255/\∃t,NN c++LF j=(if b0 r=1 then 1 else 0)::t/\LF r=(b0 r:Int)::t:=by
 unfold QY at h
 split at h
 ·cases h
 rename_i k m p
 obtain⟨b,f⟩:=vg p;rw[Lo]at b;have i:=qP r s
 split at h
 ·rename_i d
  simp only[EX,EJ]at h;obtain⟨rfl,rfl⟩:=h;refine⟨f,σ,_,?_,i⟩;rw[b,AI d];simp[NN]
 rename_i d
 split at h
 ·cases h
 rename_i v u q
 obtain⟨l,o⟩:=vg q;simp only[EX,EJ]at h;obtain⟨rfl,rfl⟩:=h;refine⟨f,o,_,?_,i⟩;rw[b,l,AF d];simp[NN]
def run:Nat->yZ->List Ch->Option (List Ch×yZ)
 | 0,r,o=>some (o,r)
 | n+1,r,o=>if r.size=0 then some (o,r) else
  match QY r with
  | none=>none
  | some (c,r')=>run n r' (o++[c])
def RO:Nat->yZ->List Ch->Option (List Ch×yZ)
 | 0,r,o=>some (o,r)
 | n+1,r,o=>if r.size=0 then some (o,r) else if 1<b0 r then none else
  match QY r with
  | none=>none
  | some (c,r')=>RO n r' (o++[c])
theorem Aw(n:Nat)(o:List Ch)(r:yZ)(h:r.size=0):run n r o=some (o,r):=by cases n<;>simp[run,h]
theorem qH:∀(n:Nat) (r:yZ) (o f:List Ch) (b:yZ),run n r o=some (f,b) ->
  ∃l,f=o++l/\(∀x∈l,x.1.size<=255/\x.2.1.size<=255)/\(b.size=0\/l.length=n) /\
   ((RO n r o=some (f,b)/\l.flatMap NN++LF b=LF r)\/(RO n r o=none/\∀z,l.flatMap NN++z≠LF r))
 | 0,r,o,f,b,h=>by
  simp only[run,EX,EJ]at h;obtain⟨rfl,rfl⟩:=h;exact⟨[],σ,σ,.inr rfl,.inl ⟨rfl,σ⟩⟩
 | n+1,r,o,f,b,h=>by
  by_cases d:r.size=0
  ·rw[run,AI d]at h
   simp only[EX,EJ]at h;obtain⟨rfl,rfl⟩:=h;exact⟨[],σ,σ,.inl d,.inl ⟨by rw[RO,AI d],σ⟩⟩
  rw[run,AF d]at h
  cases hs:QY r with
  | none=>rw[hs]at h;cases h
  | some p =>
   obtain⟨c,A⟩:=p;rw[hs]at h;obtain⟨K,L,t,k3,E⟩:=tL ω hs;obtain⟨l,F,G,j,k⟩:=qH n A (o++[c]) f b h;refine⟨c::l,by rw[F];simp,λx y=>?_,?_,?_⟩
   ·rcases DX.1 y with rfl|y
    ·exact⟨K,L⟩
    exact G x y
   ·rcases j with j|j
    ·exact .inl j
    exact .inr (by simp[j])
   by_cases C:1<b0 r
   ·refine .inr ⟨by rw[RO,AF d,AI C],λz i=>?_⟩
    have q:¬b0 r=1:=ω
    rw[AF q]at k3
    have I:∃u,NN c=0::u:=by
     have:c.2.2=false:=by
      unfold QY at hs
      split at hs
      ·cases hs
      rw[AF q]at hs
      split at hs
      ·cases hs
      simp only[EX,EJ]at hs
      rw[<-hs.1]
     exact⟨_,by unfold NN;rw[this];rfl⟩
    obtain⟨u,J⟩:=I;rw[GZ,J,E]at i;simp at i;omega
   have D:LF r=NN c++LF A:=by
    rw[k3,E]
    split
    ·rename_i H;rw[H];rfl
    have:b0 r=0:=ω
    rw[this];rfl
   have B:RO (n+1) r o=RO n A (o++[c]):=by rw[RO,AF d,AF C,hs]
   rcases k with ⟨k,s⟩|⟨k,s⟩
   ·refine .inl ⟨B.E k,?_⟩
    rw[GZ,BV,s,D]
   refine .inr ⟨B.E k,λz i=>s z ?_⟩
   rw[GZ,BV,D]at i;exact List.append_cancel_left i
theorem nQ:∀(n:Nat) (r:yZ) (o:List Ch),run n r o=none->RO n r o=none
 | 0,r,o,h=>by simp[run]at h
 | n+1,r,o,h=>by
  by_cases hz:r.size=0
  ·rw[run,AI hz]at h;cases h
  rw[run,AF hz]at h
  rw[RO,AF hz]
  split
  ·rfl
  cases hs:QY r with
  | none=>rfl
  | some p =>
   obtain⟨c,r1⟩:=p;rw[hs]at h;exact nQ n r1 _ h
theorem Ii(x:Ch)(c:x.1.size<=255)(d:x.2.1.size<=255):∀y∈NN x,0<=y/\y<=255:=by
 intro y b;unfold NN at b
 split at b
 ·simp only[BZ,DX,EW,IX]at b
  rcases b with rfl|rfl|b
  ·omega
  ·omega
  exact uf _ y b
 simp only[BZ,DX,EW,IX]at b
 rcases b with (rfl|rfl|b)|rfl|b
 ·omega
 ·omega
 ·exact uf _ y b
 ·omega
 exact uf _ y b
def UM(s:yZ):Option (List Ch):=match run 21 s [] with|none=>none|some (o,_)=>if s.size≠0/\MA o=s then some o else none
def YN(s:yZ):Option (List Ch):=match RO 21 s [] with|none=>none|some (o,_)=>if OM o=true then some o else none
theorem sC(s:yZ):YN s=UM s:=by
 unfold YN UM
 cases hr:run 21 s [] with
 | none=>rw[nQ _ _ _ hr]
 | some p =>
  obtain⟨o,r⟩:=p;obtain⟨l,k,q,i,f⟩:=qH 21 s [] o r hr;rw[EK]at k;subst k
  have j:∀y∈o.flatMap NN,0<=y/\y<=255:=by
   intro y b;obtain⟨x,c,b⟩:=JQ.1 b;exact Ii x (q x c).1 (q x c).2 y b
  have t:ST o=s->o.flatMap NN=LF s:=λh=>by rw[<-h];exact(yx _ j).symm
  rcases f with ⟨f,b⟩|⟨f,b⟩
  ·rw[f]
   simp only
   by_cases d:OM o=true
   ·have u:r.size=0:=by
     rcases i with i|i
     ·exact i
     have:=(XW d).1;omega
    have c:LF r=[]:=AD (by rw[MR];exact u);rw[c,FQ]at b
    have B:MA o=s:=by
     unfold MA;rw[AI d]
     apply Mt
     rw[<-b];exact yx _ j
    have z:s.size≠0:=by
     intro A;have h:LF s=[]:=AD (by rw[MR];exact A);rw[h]at b
     match o,(XW d).1 with
     | x::o',_ =>
      simp only[GZ,List.append_eq_nil_iff]at b;have:=b.1;unfold NN at this
      split at this<;>simp at this
    rw[AI d,AI ⟨z,B⟩]
   have u:MA o=empty:=by unfold MA;rw[AF d]
   rw[AF d,AF];rintro⟨h,c⟩;rw[u]at c;rw[<-c]at h;exact h rfl
  rw[f]
  simp only;rw[AF];rintro⟨h,c⟩;unfold MA at c
  split at c
  ·have:=t c
   exact b [] (by rw[FQ];exact this)
  rw[<-c]at h
  exact h rfl
abbrev Pr:=yZ×yZ
abbrev OG:qD:=yI none 0 0
def XK(p:Pr):Ch:=(p.1,p.2,false)
def PQ(b:List Pr)(k:Nat):List Ch:=((b.drop (k*20)).take 20).map XK
def SU(b:List Pr)(i:Nat):List (List Ch):=(List.range ((i+19) / 20)).map (PQ (b.take i))
def MK(b:List Pr):List (List Ch):=if LX b=true then SU b b.length else []
theorem Lj(b:List Pr)(i:Nat):(SU b i).length=(i+19) / 20:=by simp[SU]
theorem xE(b:List Pr)(i k:Nat)(c:i<b.length)(d:k*20+20<=i):PQ (b.take (i+1)) k=PQ (b.take i) k:=by
 unfold PQ
 congr 1
 rw[FT,FT,II,II]
 congr 1
 omega
theorem xT(b:List Pr)(i k:Nat)(c:i<b.length)(f:k*20<=i)(h:i<k*20+20)(d:Pr):PQ (b.take (i+1)) k=PQ (b.take i) k++[XK (b.getD i d)]:=by
 unfold PQ;rw[FT,FT,II,II,Nat.min_eq_right ω,Nat.min_eq_right ω];rw[show i+1-k*20=(i-k*20)+1 by omega,List.take_add_one,DA]
 congr 1
 rw[FC,show k*20+(i-k*20)=i by omega];simp[List.getD,c]
theorem Do(b:List Pr)(i:Nat)(c:i<b.length)(h:i % 20=0)(d:Pr):SU b (i+1)=SU b i++[[XK (b.getD i d)]]:=by
 unfold SU;rw[show(i+1+19) / 20=(i+19) / 20+1 by omega,GW,DA]
 have f:PQ (b.take i) (i / 20)=[]:=by
  unfold PQ;rw[List.drop_eq_nil_of_le (by rw[AX];omega)];rfl
 congr 1
 ·exact IG λk j=>xE b i k c (by simp at j;omega)
 have j:(i+19) / 20=i / 20:=ω
 rw[j,List.map_singleton,xT b i (i / 20) c ω ω d,f];rfl
theorem Iz(b:List Pr)(i:Nat)(j:i<b.length)(h:i % 20≠0)(d:Pr):∃f c,SU b i=f++[c]/\SU b (i+1)=f++[c++[XK (b.getD i d)]]/\c.length<=20:=by
 refine⟨(List.range (i / 20)).map (PQ (b.take i)),PQ (b.take i) (i / 20),?_,?_,?_⟩
 ·unfold SU
  rw[show(i+19) / 20=i / 20+1 by omega,GW,DA];rfl
 ·unfold SU
  rw[show(i+1+19) / 20=i / 20+1 by omega,GW,DA,List.map_singleton,xT b i (i / 20) j ω ω d]
  congr 1
  exact IG λk c=>xE b i k j (by simp at c;omega)
 unfold PQ;simp;omega
theorem Ce(b:List Pr)(k:Nat):(PQ b k).length=min 20 (b.length-k*20):=by unfold PQ;simp
theorem xI(b:List Pr):SU b b.length=(List.range ((b.length+19) / 20)).map (PQ b):=by unfold SU;rw[DF]
theorem Ju{c:List Pr}{b:List Ch}(h:b∈SU c c.length):b.length<=20/\∀x∈b,(x.1,x.2.1)∈c:=by
 rw[xI]at h;obtain⟨k,i,rfl⟩:=DT.1 h;refine⟨by rw[Ce];omega,λx d=>?_⟩;unfold PQ at d;obtain⟨p,f,rfl⟩:=DT.1 d;exact EY (DM f)
def Bat(w:xV)(base:Nat)(v:qD)(b:List (List Ch)):Prop :=∃vs:List qD,w.ownsRow base 44 1 v b.length vs/\(∀i,i<b.length->w.ownsRow base 92 3 (vs.getD i OG) (b.getD i []).length (MS (b.getD i []))) /\
  ∀i j k,i<j->j<b.length->(vs.getD i OG).ownBlock=some k->(vs.getD j OG).ownBlock≠some k
theorem Bat.nil(w:xV)(base:Nat):Bat w base OG []:=⟨[],BT _ _ _ _,λi h=>absurd h σ,λi j k _ h=>absurd h σ⟩
theorem Bat.I{b:List (List Ch)}(h:Bat w base v b)(c:yX w w'):Bat w' base v b:=by
 obtain⟨vs,d,f,j⟩:=h;exact⟨vs,LZ d c,λi k=>LZ (f i k) c,j⟩
theorem ZQ{i j:Nat}{d f:TypeId}{u y:Nat}{b h:qD}{s t:Nat}{z A:List qD}(l:w.ownsRow i d u b s z)(o:w.ownsRow j f y h t A)(p:d≠f):b.ownBlock=none\/b.ownBlock≠h.ownBlock:=by
 rcases l.2 with ⟨rfl,_⟩|⟨g,cap,k,rfl,_,q,_⟩
 ·exact .inl rfl
 right
 rcases o.2 with ⟨rfl,_⟩|⟨D,B,C,rfl,_,c,_⟩
 ·simp[Value.ownBlock]
 simp only[Value.ownBlock,ne_eq,EX]
 intro e;subst e;rw[q]at c
 cases c
 exact p rfl
theorem Bat.kept{b:List (List Ch)}{row:Option Nat}(h:Bat w base v b)(o:w.grownBy w' row)(p:∀k,row=some k->base > k\/w.heap.size<=k):Bat w' base v b:=by
 obtain⟨vs,f,j,l⟩:=h
 have c:∀ {e:TypeId} {s:Nat} {u:qD} {n:Nat} {xs:List qD},w.ownsRow base e s u n xs->w'.ownsRow base e s u n xs:=λd=>by
  refine d.kept o ?_
  cases hu:(Value.ownBlock _) with
  | none=>exact .inl rfl
  | some k =>
   refine .inr λe=>?_
   have:=d.lt k hu;rcases p k e.symm with h|h<;>omega
 exact⟨vs,c f,λi d=>c (j i d),l⟩
theorem Bat.push{z:qD}{b:List (List Ch)}{d:List Ch}(l:w.ownsRow base 44 1 v b.length vs)(s:∀i,i<b.length->w.ownsRow base 92 3 (vs.getD i OG) (b.getD i []).length (MS (b.getD i [])))
  (C:∀i j k,i<j->j<b.length->(vs.getD i OG).ownBlock=some k->(vs.getD j OG).ownBlock≠some k)(u:w.ownsRow base 92 3 x d.length (MS d))(B:∀i k,i<b.length->(vs.getD i OG).ownBlock=some k->x.ownBlock≠some k)
  (F:w1.ownsRow base 44 1 z (b.length+1) (vs++[x]))(t:w.grownBy w1 v.ownBlock):Bat w1 base z (b++[d]):=by
 have q:vs.length=b.length:=by have:=l.1;omega
 have y:(92:TypeId)≠44:=δ
 refine⟨vs++[x],by simpa using F,λi D=>?_,λi j k p E o=>?_⟩
 ·by_cases f:i<b.length
  ·have h:(vs++[x]).getD i OG=vs.getD i OG:=by simp[List.getD,BN (show i<vs.length by omega)]
   have c:(b++[d]).getD i []=b.getD i []:=by simp[List.getD,BN f]
   rw[h,c];exact(s i f).kept t (ZQ (s i f) l y)
  have A:i=b.length:=by simp at D;omega
  subst A;have h:(vs++[x]).getD b.length OG=x:=by rw[<-q];simp[List.getD]
  have c:(b++[d]).getD b.length []=d:=by simp[List.getD]
  rw[h,c];exact u.kept t (ZQ u l y)
 simp only[AK,BJ,AT]at E
 have h:(vs++[x]).getD i OG=vs.getD i OG:=by simp[List.getD,BN (show i<vs.length by omega)]
 rw[h]at o
 by_cases f:j<b.length
 ·have c:(vs++[x]).getD j OG=vs.getD j OG:=by simp[List.getD,BN (show j<vs.length by omega)]
  rw[c];exact C i j k p f o
 have A:j=b.length:=ω
 subst A;have c:(vs++[x]).getD b.length OG=x:=by rw[<-q];simp[List.getD]
 rw[c];exact B i k p o
def Bts(w:xV)(a:xA)(b:List (List Ch)):Prop :=b=[]\/∃g,a=zY g 0/\g<w.heap.size/\∀i,i<b.length->∃p c,w.cell? (yA g i)=some (yI p (b.getD i []).length c)/\Chs w p (b.getD i [])
theorem Bts.I{d:List (List Ch)}(h:Bts w a d)(b:yX w w'):Bts w' a d:=by
 rcases h with h|⟨g,j,f,k⟩
 ·exact .inl h
 refine .inr ⟨g,j,AC f b.size,λi q=>?_⟩
 obtain⟨p,c,l,o⟩:=k i q;exact⟨p,c,(b.cell (p:=(yA g i)) f).E l,o.I b⟩
theorem tZ{B:Nat}{y:qD}{o:List Ch}(h:w.ownsRow B e 3 y o.length (MS o)):∃a c,y=yI a o.length c/\Chs w a o:=by
 rcases MC h with ⟨b,c⟩|⟨g,cap,b,c,_,d⟩
 ·have:o=[]:=AD c
  subst this;exact⟨none,0,b,.inl rfl⟩
 exact⟨_,cap,b,d.chs⟩
theorem Bat.bts{b:List (List Ch)}(h:Bat w base v b):∃a c,v=yI a b.length c/\Bts w a b:=by
 obtain⟨vs,j,s,u⟩:=h;rcases MC j with ⟨d,f⟩|⟨g,cap,d,f,k,l⟩
 ·have:b=[]:=AD f
  subst this;exact⟨none,0,d,.inl rfl⟩
 refine⟨_,cap,d,.inr ⟨g,rfl,k,λi t=>?_⟩⟩
 obtain⟨p,c,o,q⟩:=tZ (s i t);have t:vs.length=b.length:=by have:=j.1;omega
 refine⟨p,c,l.cell i _ ?_,q⟩;exact(by simp[List.getD,AO (show i<vs.length by omega)]:vs[i]?=some (vs.getD i OG)).E (BC some o)
theorem Bts.at{b:List (List Ch)}(h:Bts w a b){k:Nat}(d:k<b.length):∃g p c,a=zY g 0/\g<w.heap.size/\w.cell? (yA g k)=some (yI p (b.getD k []).length c)/\Chs w p (b.getD k []):=by
 rcases h with h|⟨g,f,i,j⟩
 ·subst h;simp at d
 obtain⟨p,c,l,o⟩:=j k d
 exact⟨g,p,c,f,i,l,o⟩
theorem xW:(prog.info? 92).map (λi=>(i.zero,i.size,i.bytes))=some (some (.agg #[yQ empty,yQ empty,yR false]),3,40):=κ
theorem vE:(prog.info? 44).map (λi=>(i.zero,i.size,i.bytes))=some (some (yI none 0 0),1,24):=κ
theorem VI{P:Program}{z:qD}{b:Nat}(h:(P.info? e).map (λi=>(i.zero,i.size,i.bytes))=some (some z,size,b)):∃i,P.info? e=some i/\i.zero=some z/\i.size=size/\i.bytes=b:=by
 obtain⟨i,d,c⟩:=DZ.1 h;simp only[EJ]at c;exact⟨i,d,c⟩
theorem RU{W:xV}{B:Nat}(c:Below B W w)(own:w.ownsRow B e size v n xs)(b:w.grownBy w1 v.ownBlock)(f:B<=w.heap.size):Below B W w1 :=c.E ⟨b.os,b.tape,b.output,b.size,λk h=>b.block k ω (λd=>by have:=(own.lt k d.symm).1;omega)⟩
theorem mJ{b d:Nat}{s:Nat}(h:w.ownsRow b e s v n xs)(l:d<=b):w.ownsRow d e s v n xs:=by
 refine⟨h.1,?_⟩;rcases h.2 with f|⟨g,cap,c,i,j,k⟩
 ·exact .inl f
 exact .inr ⟨g,cap,c,i,AJ l j,k⟩
theorem Bat.J{b d:Nat}{c:List (List Ch)}(h:Bat w b v c)(f:d<=b):Bat w d v c:=by
 obtain⟨vs,j,k,l⟩:=h;exact⟨vs,mJ j f,λi o=>mJ (k i o) f,l⟩
structure Rest(w:xV)(base:Nat)(bss:List (List Ch))(vs:List qD)(x:qD):Prop where
 len:vs.length=bss.length
 own:∀i,i<bss.length->w.ownsRow base 92 3 (vs.getD i OG) (bss.getD i []).length (MS (bss.getD i []))
 apart:∀i j k,i<j->j<bss.length->(vs.getD i OG).ownBlock=some k->(vs.getD j OG).ownBlock≠some k
 last:∀i k,i<bss.length->(vs.getD i OG).ownBlock=some k->x.ownBlock≠some k
theorem Bat.last{b:List (List Ch)}{d:List Ch}(h:Bat w base v (b++[d])):∃g cap vs p c,v=yI (zY g 0) (b.length+1) cap/\w.ownsRow base 44 1 v (b.length+1) (vs++[yI p d.length c])/\w.ownsRow base 92 3 (yI p d.length c) d.length (MS d)/\Rest w base b vs (yI p d.length c):=by
 obtain⟨vs,q,A,B⟩:=h;have s:vs.length=b.length+1:=by have:=q.1;simp at this;omega
 obtain⟨l,x,rfl⟩:∃l x,vs=l++[x]:=⟨vs.dropLast,vs.getLast (by intro e;subst e;simp at s),(JZ _).symm⟩;have y:l.length=b.length:=by simp at s;exact s
 have u:=A b.length σ;have z:(l++[x]).getD b.length OG=x:=by rw[<-y];simp[List.getD]
 have D:(b++[d]).getD b.length []=d:=by simp[List.getD]
 rw[z,D]at u
 have o:∀i,i<b.length->(l++[x]).getD i OG=l.getD i OG:=λi f=>by simp[List.getD,BN (show i<l.length by omega)]
 have E:∀i,i<b.length->(b++[d]).getD i []=b.getD i []:=λi f=>by simp[List.getD,BN f]
 obtain⟨p,c,rfl,_⟩:=tZ u;simp only[AK,BJ,AT]at q
 obtain⟨g,cap,hv⟩:∃g cap,v=yI (zY g 0) (b.length+1) cap:=by
  rcases MC q with ⟨_,j⟩|⟨g,cap,j,_⟩
  ·omega
  exact⟨g,cap,j⟩
 refine⟨g,cap,l,p,c,hv,q,u,y,λi f=>?_,λi j k C F t=>?_,λi k f t=>?_⟩
 ·have:=A i τ
  rwa [o i f,E i f]at this
 ·have:=B i j k C τ
  rw[o i ω,o j F]at this;exact this t
 have:=B i b.length k f σ
 rw[o i f,z]at this;exact this t
theorem Rest.relast{b:List (List Ch)}{o:List Ch}{d:qD}{I:List Ch}(p:Rest w base b vs x)(Z:base<=w.heap.size)
  (G:w.ownsRow base 44 1 (yI (zY g 0) (b.length+1) cap) (b.length+1) (vs++[x]))(W:w.ownsRow base 92 3 x n0 (MS I))
  (F:w.grownBy w1 x.ownBlock)(K:w1.ownsRow base 92 3 d o.length (MS o))(V:x.ownBlock=d.ownBlock\/d.ownBlock=some w.heap.size):Bat (w1.setCell (yA g b.length) d) base (yI (zY g 0) (b.length+1) cap) (b++[o]):=by
 have H:(92:TypeId)≠44:=δ
 have y:=p.len
 have A:w1.ownsRow base 44 1 (yI (zY g 0) (b.length+1) cap) (b.length+1) (vs++[x]):=G.kept F (by
  rcases ZQ G W (JC H) with h|h
  ·exact .inl h
  ·exact .inr h)
 have J:w1.grownBy (w1.setCell (yA g b.length) d) (some g):=⟨rfl,rfl,rfl,by simp[World.setCell],λk _ q=>BM _ _ _ k (λe=>q (by rw[e]))⟩
 have B:∀ {u:qD} {n:Nat} {xs:List qD},w1.ownsRow base 92 3 u n xs->(w1.setCell (yA g b.length) d).ownsRow base 92 3 u n xs:=λh=>h.kept J (ZQ h A H)
 have L:∀i,i<b.length->w1.ownsRow base 92 3 (vs.getD i OG) (b.getD i []).length (MS (b.getD i [])):=λi l=>(p.own i l).kept F (by
  cases q:(vs.getD i OG).ownBlock with
  | none=>exact .inl rfl
  | some k=>exact .inr λe=>p.last i k l q e.symm)
 have z:∀i,i<b.length->(vs++[d]).getD i OG=vs.getD i OG:=λi l=>by simp[List.getD,BN (show i<vs.length by omega)]
 have N:∀i,i<b.length->(b++[o]).getD i []=b.getD i []:=λi l=>by simp[List.getD,BN l]
 have C:(vs++[d]).getD b.length OG=d:=by rw[<-y];simp[List.getD]
 have M:(b++[o]).getD b.length []=o:=by simp[List.getD]
 refine⟨vs++[d],?_,λi l=>?_,λi j k t U s=>?_⟩
 ·refine⟨by simp[y],.inr ?_⟩
  rcases A.2 with ⟨O,_⟩|⟨Y,X,c,P,Q,D,R,S,T,E⟩
  ·cases O
  cases P
  refine⟨g,cap,c.set! b.length d,σ,Q,?_,by simpa using R,S,by simpa using T,?_⟩
  ·have f:=(AP.1 D).1
   have q:=(AP.1 D).2;show(w1.heap.modify g _)[g]?=_;rw[Array.getElem?_eq_getElem (by rw[Array.size_modify];exact f),Array.getElem_modify_self,q];rfl
  have hz:c.toList.length=c.size:=σ
  have f:b.length<c.toList.length:=ω
  simp only[JX,AK,BJ,AT]at E⊢;have:(c.set! b.length d).toList=c.toList.set b.length d:=σ
  rw[this,BK,List.take_set,E,IR _ _ ω,y];simp
 ·by_cases f:i<b.length
  ·rw[z i f,N i f];exact B (L i f)
  have:i=b.length:=by simp at l;omega
  subst this;rw[C,M];exact B K
 simp only[AK,BJ,AT]at U
 rw[z i ω]at s
 by_cases f:j<b.length
 ·rw[z j f];exact p.apart i j k t f s
 have:j=b.length:=ω
 subst this;rw[C];rcases V with h|h
 ·rw[<-h];exact p.last i k t s
 rw[h]
 intro e;have:=(p.own i t).lt k s;simp at e;omega
theorem gh(k v:yZ)(g:Bool):∀u∈[yQ k,yQ v,yR g],u.oneCell'=true:=by
 intro u b;simp only[DX,EW,IX]at b;rcases b with rfl|rfl|rfl<;>rfl
theorem yd(d:w.ownsRow base e 1 (yI (zY g 0) (m+1) cap) (m+1) (vs++[x]))(c:vs.length=m):w.cell? (yA g m)=some x/\w.frozen? (yA g m)=false:=by
 have b:=RJ d;exact⟨b.cell m x (by rw[<-c];simp),b.froz m τ⟩
theorem ZG{o:Obj}(b:w.ownsRow base 44 1 (yI (zY g 0) (m+1) cap) (m+1) (vs++[x])/\vs.length=m)(d:w.ownsRow base 92 3 x n0 xs)(c:(w.alloc o).grownBy w1 x.ownBlock):w1.cell? (yA g m)=some x/\w1.frozen? (yA g m)=false:=by
 have f:(44:TypeId)≠92:=δ
 exact yd ((b.1.alloc o).kept c (ZQ b.1 d f)) b.2
theorem Rest.alloc{b:List (List Ch)}(h:Rest w base b vs x)(o:Obj):Rest (w.alloc o) base b vs x:=⟨h.len,λi c=>(h.own i c).alloc o,h.apart,h.last⟩
theorem nY(w:xV)(A:Obj)(b:Array qD)(t:TypeId):∀j u,b.toList[j]?=some u->((w.alloc A).alloc (.cells b t)).cell? (((yA (w.heap.size+1) 0):Addr).add j)=some u:=by
 have h:=AU (w.alloc A) (.cells b t);rw[BE]at h;exact World.news_of_block h
theorem N1{o:Obj}(c:wr.ownsRow base 44 1 v n vs)(d:base<=wr.heap.size)(f:((wr.alloc (.cells #[] 92)).alloc o).grownBy w7 v.ownBlock):w7.ownsRow base 92 3 (yI (zY wr.heap.size 0) 0 0) 0 []:=by
 have b:(wr.alloc (.cells #[] 92)).ownsRow base 92 3 (yI (zY wr.heap.size 0) 0 0) 0 []:=by
  have:=DG wr (base:=base) (e:=92) (size:=3) #[] 0 d σ σ;simpa using this
 exact(b.alloc o).kept f (ZQ (b.alloc o) ((c.alloc _).alloc _) δ)
theorem Mm{c:xV}{k:Nat}{j:xA}(l:Below base c wr)(h:base<=wr.heap.size)(b:wr.ownsRow base 44 1 (yI j m k) m vs)(f:w7.ownsRow base 44 1 (yI (zY g 0) (m+1) cap) (m+1) (vs++[yI (zY wr.heap.size 0) 0 0]))
  (d:((wr.alloc (.cells #[] 92)).alloc (.cells #[yI (zY wr.heap.size 0) 0 0] 44)).grownBy w7 (yI j m k).ownBlock):Below base c w7/\(w7.ownsRow base 44 1 (yI (zY g 0) (m+1) cap) (m+1) (vs++[yI (zY wr.heap.size 0) 0 0])/\vs.length=m)/\w7.ownsRow base 92 3 (yI (zY wr.heap.size 0) 0 0) 0 []/\w7.cell? (yA g m)=some (yI (zY wr.heap.size 0) 0 0):=by
 have i:vs.length=m:=by have:=b.1;omega
 exact⟨RU ((l.alloc h _).alloc τ _) ((b.alloc _).alloc _) d τ,⟨f,i⟩,N1 b h d,(yd f i).1⟩
theorem uR(o:List Ch)(c:Ch):MS (o++[c])=MS o++[yQ c.1,yQ c.2.1,yR c.2.2]:=by rw[yq];rfl
theorem cq{o:Obj}{r:Option Nat}(h:(w.drew.alloc o).grownBy w' r):(w.alloc o).grownBy w' r:=⟨h.os,h.tape,h.output,h.size,h.block⟩
theorem nj{l W d:xV}{b f c:Nat}{p:xA}{i:List (List Ch)}{cs:List Ch}{j k:yZ}{o:Obj}(B:base<=W.heap.size)(E:Rest W base i vs (yI p n0 c))(C:m=i.length)(D:n0=cs.length)
  (s:W.ownsRow base 44 1 (yI (zY g 0) (m+1) cap) (m+1) (vs++[yI p n0 c]))(t:W.ownsRow base 92 3 (yI p n0 c) n0 (MS cs))(q:(W.alloc o).grownBy d (yI p n0 c).ownBlock)
  (z:d.ownsRow base 92 3 (yI (zY b 0) (n0+1) f) (n0+1) (MS cs++[yQ j,yQ k,yR false]))(y:(yI p n0 c).ownBlock=some b\/b=W.heap.size+1)(u:Below base l W):Bat (d.setCell (yA g m) (yI (zY b 0) (n0+1) f)) base (yI (zY g 0) (m+1) cap) (i++[cs++[(j,k,false)]])/\Below base l (d.setCell (yA g m) (yI (zY b 0) (n0+1) f)):=by
 subst C D
 have A:d.ownsRow base 92 3 (yI (zY b 0) (cs.length+1) f) (cs++[(j,k,false)]).length (MS (cs++[(j,k,false)])):=by
  rw[uR,AK];exact z
 refine⟨(E.alloc o).relast τ (s.alloc o) (t.alloc o) q A ?_,?_⟩
 ·rcases y with h|h
  ·exact .inl h
  right;rw[h];simp[Value.ownBlock]
 have h:=(s.lt g rfl).1
 exact(RU (u.alloc B o) (t.alloc o) q τ).setCell (p:=(yA g i.length)) h _
theorem M3{l:Nat}{h:xA}{b:List (List Ch)}{o:Obj}(f:wr.ownsRow base 44 1 (yI h m l) m vs)(d:∀i,i<b.length->wr.ownsRow base 92 3 (vs.getD i OG) (b.getD i []).length (MS (b.getD i [])))
  (p:∀i j k,i<j->j<b.length->(vs.getD i OG).ownBlock=some k->(vs.getD j OG).ownBlock≠some k)(s:base<=wr.heap.size)(t:m=b.length)(q:((wr.alloc (.cells #[] 92)).alloc o).grownBy w7 (yI h m l).ownBlock):Rest w7 base b vs (yI (zY wr.heap.size 0) 0 0):=by
 refine⟨by have:=f.1;omega,λi c=>(((d i c).alloc _).alloc _).kept q (ZQ (d i c) f δ),p,λi k c j=>?_⟩;have:=(d i c).lt k j;simp only[Value.ownBlock,ne_eq,EX];omega
theorem xo(b:List Pr)(i:Nat)(c:i<=100):(SU b i).length<=5:=by rw[Lj];omega
theorem tJ(a:xA)(f:List Pr)(c:Nat)(w:xV)(h:Prs w a f)(hl:f.length<=1048576)(hs:∀x∈f,x.1.size<=1048576/\x.2.size<=1048576):Calls prog 181 #[.agg #[yI a f.length c]] w λe w'=>∃v,e=yT v/\Bat w' (w.heap.size+1) v (MK f)/\yX w w':=by
 obtain⟨i0,b,l,o,p⟩:=VI xW;have HI:=Y (AG b (AG l (AG o p)));obtain⟨i1,d,i,j,k⟩:=VI vE;have HJ:=Y (AG d (AG i (AG j k)));clear b l o p d i j k;unfold MK;have b:yX w ((w.alloc (.cells #[yI a f.length c] 37)).alloc (.cells #[] 44)):=(LG _ _).alloc σ _;have hv:=ew a f c ((w.alloc (.cells #[yI a f.length c] 37)).alloc (.cells #[] 44)) (h.I b) hl hs
 have d:Bat ((w.alloc (.cells #[yI a f.length c] 37)).alloc (.cells #[] 44)) (w.heap.size+1) (yI (zY (w.heap.size+1) 0) 0 0) []:=by
  refine⟨[],?_,λi h=>absurd h σ,λi j k _ h=>absurd h σ⟩;have:=DG (w.alloc (.cells #[yI a f.length c] 37)) (base:=w.heap.size+1) (e:=44) (size:=1) #[] 0 σ σ σ;simpa using this
 have HV:=Y hv;have cF:=Y b;have HE:=Y d;clear hv b d
 cases hok:LX f
 focus
  rw[hok]at HV;simp only[FA,JA]
 rotate_left
 focus
  rw[hok]at HV;simp only[IU];have b:f.length<=100:=(ZM hok).1
 rotate_left
 all_goals
  go_enter func181,ntmps181;go_wp2_with (go_at_call 82;refine HV.j.J ?_;rintro e b ⟨rfl,bG⟩)
 ·go_ret
  exact⟨_,rfl,HE.j.I bG,cF.j.E (bG.J cF.j.size)⟩
 have dH:=bG.size
 simp only[BE]at dH;go_loopw [3,4] (λy i wr=>∃k:Nat,k<=f.length/\i=Z k/\Bat wr (w.heap.size+1) y (SU f k)/\Below (w.heap.size+1) (w.alloc (.cells #[yI a f.length c] 37)) wr) (λ_ i _=>f.length-(intOf i).toNat)
 case atStart =>
  exact⟨0,AL _,rfl,HE.j.I bG,((AB _ _).alloc σ _).E (bG.J σ)⟩
 case round =>
  obtain⟨k,hk,rfl,aW,R⟩:=hrel;have q0:wr.cell? (yA w.heap.size 0)=some (yI a f.length c):=(R.cell (p:=(yA w.heap.size 0)) (by show w.heap.size<_;omega)).E γ;have bI:w.heap.size+1<=wr.heap.size:=by have:=R.size;simpa using this
  by_cases bQ:k<f.length
  ·obtain⟨b,o,s,t,rfl,bJ,bP,HS⟩:=(h.I ((LG _ _).E (R.J ω))).at bQ
   have B:b<w.heap.size:=by
    rcases h with h|⟨j,l,d,i,_⟩
    ·subst h;simp at bQ
    cases d;exact i
   have cZ:(k:Int)<(f.length:Int):=ω
   have P:=Y R;have S:=Y aW;clear R aW
   by_cases hr:k % 20=0
   focus
    have dF:(k:Int) % 20=0:=ω
    have bT:=Y (Do f k bQ hr (empty,empty));have T:=xo f k ω;obtain⟨L,d⟩:∃L,L=SU f k:=⟨_,rfl⟩;rw[<-d]at S T bT;clear d;obtain⟨vs,d,i,q⟩:=S.j
    obtain⟨ya,yc,rfl⟩:∃ya yc,u3=yI ya L.length yc:=by
     rcases MC d with ⟨j,l⟩|⟨g,cap,j,_⟩
     ·exact⟨none,0,by rw[j,l]⟩
     exact⟨_,cap,j⟩
    obtain⟨m,l⟩:∃m,m=L.length:=⟨_,rfl⟩;rw[<-l]at d T⊢;have Q:=Y l;have p:=Y d;have H2:=Y i;have H3:=Y q;clear S d i q l;go_wp2_with (at_builtin;refine QS _ rfl _ _ 215 rfl (w.heap.size+1) underlying215 HJ.j rfl ω _ m _ rfl ((p.j.alloc _).alloc _) (yA (wr.heap.size+1) 0) 1 1 [yI (zY wr.heap.size 0) 0 0] rfl rfl (nY wr _ _ _) (by intro u hu;simp at hu;subst hu;rfl) τ (wr.heap.size+1+1) σ ?_;intro g cap w7 l i C bW;obtain⟨d,y,z,q7⟩:=Mm P.j bI p.j l i;have X:=Y d;have q:=Y y;have j:=Y z;have A:w.heap.size+1<=w7.heap.size:=AJ σ d.size;have cA:=(d.cell (p:=(yA w.heap.size 0)) (JR _)).E ((P.j.cell (p:=(yA w.heap.size 0)) (JR _)).symm.E q0);have cC:=(d.cell (p:=(yA b (o+k*2))) (FN B)).E ((P.j.cell (p:=(yA b (o+k*2))) (FN B)).symm.E bJ);have cE:=(d.cell (p:=(yA b (o+k*2+1))) (FN B)).E ((P.j.cell (p:=(yA b (o+k*2+1))) (FN B)).symm.E bP);have dL:b<w7.heap.size:=AC (FN B) A;have cW:=Y i;clear l i C d y z bJ bP q0)
    have dB:(m:Int)<(m:Int)+1:=ω
    have bY:(0:Int)<=(m:Int):=ω
    have bF:=Y (j.j.alloc (.cells #[yQ s,yQ t,yR false] 92));have U:Hid (Rest w7 (w.heap.size+1) L vs (yI (zY wr.heap.size 0) 0 0)):=Y (M3 p.j H2.j H3.j bI Q.j cW.j)
    have l:∀w',Below (w.heap.size+1) w7 w'->w'.cell? (yA w.heap.size 0)=some (yI (zY b o) f.length c)/\w'.cell? (yA b (o+k*2))=some (yQ s)/\w'.cell? (yA b (o+k*2+1))=some (yQ t):=λw' M=>⟨(M.cell (p:=(yA w.heap.size 0)) (JR _)).E cA,(M.cell (p:=(yA b (o+k*2))) (FN B)).E cC,(M.cell (p:=(yA b (o+k*2+1))) (FN B)).E cE⟩
    have y:=Y l;clear l;refine AN (S:=λw'=>w'.cell? (yA w.heap.size 0)=some (yI (zY b o) f.length c)/\w'.cell? (yA b (o+k*2))=some (yQ s)/\w'.cell? (yA b (o+k*2+1))=some (yQ t)) κ (y.j _ (AB _ _).drew) (λd=>?_);refine TY 0 (yI (zY g 0) (m+1) cap) rfl d (TY 1 (Z (m:Int)) rfl d (TY 2 (yI (zY g 0) (m+1) cap) rfl d (TY 3 (Z (m:Int)) rfl d (TY 4 (zW g m) rfl d (TY 6 (zW w.heap.size 0) rfl d (TY 7 (yI (zY b o) f.length c) rfl d (TY 8 (Z (k:Int)) rfl d (TY 9 (zW b (o+k*2)) rfl d (TY 10 (zW b (o+k*2)) rfl d (TY 11 (yQ s) rfl d (TY 12 (zW w.heap.size 0) rfl d ?_)))))))))));simp only[PS];refine TY 13 (yI (zY b o) f.length c) rfl d (TY 14 (Z (k:Int)) rfl d (TY 15 (zW b (o+k*2)) rfl d (TY 16 (zW b (o+k*2+1)) rfl d (TY 17 (yQ t) rfl d (TY 18 (.agg #[yQ s,yQ t,yR false]) rfl d ?_)))))
    simp only[PS];refine ET (rs:=[5,19]) κ σ ?_;have H:=y.j (w7.drew.alloc (.cells #[yQ s,yQ t,yR false] 92)) ((AB _ _).drew.alloc A _);refine DC rfl (λK i=>?_) (DC rfl (λK i=>?_) EP)
    focus
     go_simp;refine i.j _ _ d (λ_=>?_);clear i K;refine RD 19 rfl (λK i=>?_);go_simp;refine i.j _ _ H (λ_=>?_);clear i K;refine RD 20 rfl (λK i=>?_);refine RP _ ρ _ _ _ ρ (w.heap.size+1) underlying44 HI.j rfl ω (yI (zY wr.heap.size 0) 0 0) 0 _ ρ bF.j (yA w7.heap.size 0) 1 1 [yQ s,yQ t,yR false] ρ rfl (World.news_of_block (AU w7 _)) (gh _ _ _) ξ (w7.heap.size+1) σ ?_;intro N G O D C E aX;have J:=Y D;have l:=Y (cq C);have I:=Y E;have F:=nj A U.j Q.j (cs:=[]) rfl q.j.1 j.j l.j J.j I.j X.j;have V:=Y F;have q9:=(ZG q.j j.j l.j).1;have r9:=(ZG q.j j.j l.j).2;have z:Below (w.heap.size+1) w7 O:=RU ((AB _ _).alloc A _) (j.j.alloc _) l.j τ;have W:=y.j _ z;have aR:=y.j _ (z.setCell (p:=(yA g m)) (q.j.1.lt g rfl).1 (yI (zY N 0) (0+1) G))
    rotate_left
    focus
     go_simp;refine i.j _ _ H (λ_=>?_);clear i K;refine RD 5 rfl (λK i=>?_);go_simp;refine i.j _ _ H (λ_=>?_);clear i K;refine RD 20 rfl (λK i=>?_);refine RP _ ρ _ _ _ ρ (w.heap.size+1) underlying44 HI.j rfl ω (yI (zY wr.heap.size 0) 0 0) 0 _ ρ bF.j (yA w7.heap.size 0) 1 1 [yQ s,yQ t,yR false] ρ rfl (World.news_of_block (AU w7 _)) (gh _ _ _) ξ (w7.heap.size+1) σ ?_;intro N G O D C E aX;have J:=Y D;have l:=Y (cq C);have I:=Y E;have F:=nj A U.j Q.j (cs:=[]) rfl q.j.1 j.j l.j J.j I.j X.j;have V:=Y F;have q9:=(ZG q.j j.j l.j).1;have r9:=(ZG q.j j.j l.j).2;have z:Below (w.heap.size+1) w7 O:=RU ((AB _ _).alloc A _) (j.j.alloc _) l.j τ;have W:=y.j _ z;have aR:=y.j _ (z.setCell (p:=(yA g m)) (q.j.1.lt g rfl).1 (yI (zY N 0) (0+1) G))
    rotate_left
   rotate_left 2
   focus
    have dF:decide ((k:Int) % 20=0)=false:=τ
    obtain⟨L,cs,D,E,cX⟩:=Iz f k bQ hr (empty,empty);have bT:=Y E;have T:=xo f k ω;rw[D]at S T;obtain⟨g,cap,vs,p,c9,rfl,u,C,z⟩:=S.j.last;obtain⟨m,l⟩:∃m,m=L.length:=⟨_,rfl⟩;obtain⟨n0,y⟩:∃n0,n0=cs.length:=⟨_,rfl⟩;have dN:m<=5:=by simp at T;omega
    have A:vs.length=m:=by rw[z.len,l]
    rw[<-l,<-y]at u;rw[<-y]at C z cX;rw[<-l];have Q:=Y l;have HN:=Y y;have q:=Y (AG u A);have j:=Y C;have U:=Y z;have bW:g<wr.heap.size:=(u.lt g rfl).2;have q7:=(yd u A).1;clear D E T u C z l y S A;have dB:(m:Int)<(m:Int)+1:=ω
    have bY:(0:Int)<=(m:Int):=ω
    have bF:=Y (j.j.alloc (.cells #[yQ s,yQ t,yR false] 92));have dL:b<wr.heap.size:=AC (FN B) bI;have cA:=q0;have cC:=bJ;have cE:=bP;have A:=bI;have X:=P;clear q0 bJ bP bI P;go_wp2_with fail
    have l:∀w',Below (w.heap.size+1) wr w'->w'.cell? (yA w.heap.size 0)=some (yI (zY b o) f.length c)/\w'.cell? (yA b (o+k*2))=some (yQ s)/\w'.cell? (yA b (o+k*2+1))=some (yQ t):=λw' M=>⟨(M.cell (p:=(yA w.heap.size 0)) (JR _)).E cA,(M.cell (p:=(yA b (o+k*2))) (FN B)).E cC,(M.cell (p:=(yA b (o+k*2+1))) (FN B)).E cE⟩
    have y:=Y l;clear l;refine AN (S:=λw'=>w'.cell? (yA w.heap.size 0)=some (yI (zY b o) f.length c)/\w'.cell? (yA b (o+k*2))=some (yQ s)/\w'.cell? (yA b (o+k*2+1))=some (yQ t)) κ (y.j _ (AB _ _).drew) (λd=>?_);refine TY 0 (yI (zY g 0) (m+1) cap) rfl d (TY 1 (Z (m:Int)) rfl d (TY 2 (yI (zY g 0) (m+1) cap) rfl d (TY 3 (Z (m:Int)) rfl d (TY 4 (zW g m) rfl d (TY 6 (zW w.heap.size 0) rfl d (TY 7 (yI (zY b o) f.length c) rfl d (TY 8 (Z (k:Int)) rfl d (TY 9 (zW b (o+k*2)) rfl d (TY 10 (zW b (o+k*2)) rfl d (TY 11 (yQ s) rfl d (TY 12 (zW w.heap.size 0) rfl d ?_)))))))))));simp only[PS];refine TY 13 (yI (zY b o) f.length c) rfl d (TY 14 (Z (k:Int)) rfl d (TY 15 (zW b (o+k*2)) rfl d (TY 16 (zW b (o+k*2+1)) rfl d (TY 17 (yQ t) rfl d (TY 18 (.agg #[yQ s,yQ t,yR false]) rfl d ?_)))))
    simp only[PS];refine ET (rs:=[5,19]) κ σ ?_;have H:=y.j (wr.drew.alloc (.cells #[yQ s,yQ t,yR false] 92)) ((AB _ _).drew.alloc A _);refine DC rfl (λK i=>?_) (DC rfl (λK i=>?_) EP)
    focus
     go_simp;refine i.j _ _ d (λ_=>?_);clear i K;refine RD 19 rfl (λK i=>?_);go_simp;refine i.j _ _ H (λ_=>?_);clear i K;refine RD 20 rfl (λK i=>?_);refine RP _ ρ _ _ _ ρ (w.heap.size+1) underlying44 HI.j rfl ω (yI p n0 c9) n0 _ ρ bF.j (yA wr.heap.size 0) 1 1 [yQ s,yQ t,yR false] ρ rfl (World.news_of_block (AU wr _)) (gh _ _ _) ξ (wr.heap.size+1) σ ?_;intro N G O D C E aX;have J:=Y D;have l:=Y (cq C);have I:=Y E;have F:=nj A U.j Q.j HN.j q.j.1 j.j l.j J.j I.j X.j;have V:=Y F;have q9:=(ZG q.j j.j l.j).1;have r9:=(ZG q.j j.j l.j).2;have z:Below (w.heap.size+1) wr O:=RU ((AB _ _).alloc A _) (j.j.alloc _) l.j τ;have W:=y.j _ z;have aR:=y.j _ (z.setCell (p:=(yA g m)) (q.j.1.lt g rfl).1 (yI (zY N 0) (n0+1) G))
    rotate_left
    focus
     go_simp;refine i.j _ _ H (λ_=>?_);clear i K;refine RD 5 rfl (λK i=>?_);go_simp;refine i.j _ _ H (λ_=>?_);clear i K;refine RD 20 rfl (λK i=>?_);refine RP _ ρ _ _ _ ρ (w.heap.size+1) underlying44 HI.j rfl ω (yI p n0 c9) n0 _ ρ bF.j (yA wr.heap.size 0) 1 1 [yQ s,yQ t,yR false] ρ rfl (World.news_of_block (AU wr _)) (gh _ _ _) ξ (wr.heap.size+1) σ ?_;intro N G O D C E aX;have J:=Y D;have l:=Y (cq C);have I:=Y E;have F:=nj A U.j Q.j HN.j q.j.1 j.j l.j J.j I.j X.j;have V:=Y F;have q9:=(ZG q.j j.j l.j).1;have r9:=(ZG q.j j.j l.j).2;have z:Below (w.heap.size+1) wr O:=RU ((AB _ _).alloc A _) (j.j.alloc _) l.j τ;have W:=y.j _ z;have aR:=y.j _ (z.setCell (p:=(yA g m)) (q.j.1.lt g rfl).1 (yI (zY N 0) (n0+1) G))
    rotate_left
   rotate_left 2
   all_goals
    clear D C E F z;refine i.j _ _ W (λ_=>?_);clear i K;simp only[PS];refine TY 21 (zW g m) rfl W ?_;simp only[PS];refine RD 22 rfl (λK i=>?_);go_simp;refine i.j _ _ aR (λ_=>?_);clear i K;refine DN ?_;go_wp2;refine⟨⟨k+1,ω,ν,?_,V.j.2⟩,by simp[intOf];omega⟩;rw[bT.j];have l:(s,t,false)=XK (f.getD k (empty,empty)):=by rw[<-HS.j];rfl
    rw[<-l];exact V.j.1
  have b:k=f.length:=ω
  subst b;go_wp2;go_ret;exact⟨_,rfl,aW,(LG _ _).E (R.J ω)⟩
