import Derived.Test.YteflhojcomcfaaaGreatDoorPrWdS
import Derived.Test.YteflhojcomcfaaaGreatDoorPrPfS
import Derived.Lib.AppendZeros
import Derived.Test.YteflhojcomcfaaaGreatDoorPrOpI
import Derived.Test.YteflhojcomcfaaaGreatDoorPrG30
set_option maxHeartbeats 16000000
set_option maxRecDepth 8000
set_option linter.all false
namespace Go.Proofs.YteflhojcomcfaaaGreatDoor
open _root_.ByteArray(empty)
section
open Tryz
open Go.RowKit
variable {cs xs:List Ra}{B SB c g k lo n s:Nat}{a:Q5}{P:Program}{e:TypeId}{w w':Q9}
theorem kq:(prog.info? 9).map (λi=>(i.zero,i.size,i.bytes))=some (some (Ow empty),1,16):=h
theorem ub:(prog.info? 42).map (λi=>(i.zero,i.size,i.bytes))=some (some (.agg #[Y none 0 0]),1,24):=h
theorem aq{z:Ra}{b d:Nat}(h:(P.info? e).map (λi=>(i.zero,i.size,i.bytes))=some (some z,b,d)):∃i,P.info? e=some i/\i.zero=some z/\i.size=b/\i.bytes=d:=by
 obtain⟨i,j,f⟩:=EC.1 h;simp only[EK]at f;exact⟨i,j,f⟩
theorem wU(b:List OpT)(j:Nat)(h:j<b.length):OH (b.take (j+1))=OH (b.take j)++(if (b.getD j (false,0,empty)).1=true then [] else [(b.getD j (false,0,empty)).2.2]):=by
 rw[BJ h,Hr];simp[List.getD,h]
theorem fh{x:Wo}{e:Ev}{D:Dd}{u:Bool}(b:¬e.K=5)(d:x.call e=(D,u))(h:u=false\/D.C≠0):x.doE e=x:=by unfold Wo.doE;rw[A b,d,G h]
theorem nI{x:Wo}{e:Ev}{D:Dd}(d:¬e.K=5)(f:x.call e=(D,true))(b:D.C=0)(h:2000<(SC x e D).length\/200<(PQ x e D).length):x.doE e=x:=by unfold Wo.doE;rw[A d,f,A (by simp[b]),G h]
theorem oV{x:Wo}{e:Ev}{D:Dd}(d:¬e.K=5)(i:x.call e=(D,true))(b:D.C=0)(h:¬(2000<(SC x e D).length\/200<(PQ x e D).length))(f:TC e D=true):x.doE e=(x.ran e D).pow e.fs:=by unfold Wo.doE;rw[A d,i,A (by simp[b]),A h,G f]
theorem Av{x:Wo}{e:Ev}{D:Dd}(f:¬e.K=5)(j:x.call e=(D,true))(b:D.C=0)(h:¬(2000<(SC x e D).length\/200<(PQ x e D).length))(i:TC e D=false)(d:e.K=2):x.doE e=(x.ran e D).upS D:=by unfold Wo.doE;rw[A f,j,A (by simp[b]),A h,A (by simp[i]),G d]
theorem zD{x:Wo}{e:Ev}{D:Dd}(f:¬e.K=5)(j:x.call e=(D,true))(b:D.C=0)(h:¬(2000<(SC x e D).length\/200<(PQ x e D).length))(i:TC e D=false)(d:¬e.K=2):x.doE e={ (x.ran e D).upS D with P:=[D.rs] }:=by unfold Wo.doE;rw[A f,j,A (by simp[b]),A h,A (by simp[i]),A d]
theorem Em(b:Q5)(n i:Nat)(f:Int)(w:Q9)(o:n<=i)(p:n<=1000):Calls prog 197 #[Y b n i,Z f] w λr w'=>r=Q2 (.tuple #[Y b (if 0<=f/\f<=n then f.toNat else n) i,Q1 (decide (0<=f/\f<=n))])/\w'=w:=by
 go_enter func197,ntmps197
 by_cases j:0<=f
 .by_cases l:f<=(n:Int)
  .obtain⟨m,rfl⟩:∃m:Nat,f=(m:Int):=⟨f.toNat,d⟩
   have k3:m<=i:=d
   rw[G ⟨j,l⟩,AM ⟨j,l⟩];go_wp2;exact H (v:=.tuple #[Y b m i,Q1 true]) (by simp[results,results197,go_sem]) z ⟨z,z⟩
  rw[A (λh=>l h.2),AH (λh=>l h.2)]
  go_wp2;exact H (v:=.tuple #[Y b n i,Q1 false]) (by simp[results,results197,go_sem]) z ⟨z,z⟩
 rw[A (λh=>j h.1),AH (λh=>j h.1)]
 go_wp2;exact H (v:=.tuple #[Y b n i,Q1 false]) (by simp[results,results197,go_sem]) z ⟨z,z⟩
theorem M4(t p e:TypeId)(i:TypeInfo)(b:Nat)(o:P.underlying t=some (.slice e))(l:P.info? e=some i)(q:i.size=b)(B n:Nat)(v:Ra)(xs:List Ra)(own:w.ownsRow B e b v n xs)(x:Ra)(f:Src P b t x 0 [] w):(Builtin.append_ #[t,t] p #[v,x]).run P w=.ok v w:=by
 subst q;rcases own.2 with ⟨rfl,_⟩|⟨g,h,r,rfl,_,_,y,_⟩
 .rcases f.kind with ⟨u,m⟩|m<;>simp[Builtin.append_,GG o,GG m,sizeOf,typeInfo,l,f.len,f.cells]
 exact run_append_room_src (P:=P) w t t p e i o l g 0 n h x 0 [] f d j j
theorem Dc(b:Q5)(i:List OpT)(O:Nat)(w:Q9)(h:Ops w b i)(hl:i.length<=1000):Calls prog 199 #[Y b i.length O] w λr w'=>∃v,r=Q2 v/\w'.ownsRow w.heap.size 9 1 v (OH i).length ((OH i).map Value.string)/\Q3 w w':=by
 obtain⟨i0,f,l,m,o⟩:=aq kq;have H:=LE (I f (I l (I m o)));clear f l m o;go_enter func199,ntmps199;go_wp2;go_loopw [3,8] (λm l wr=>∃f:Nat,f<=i.length/\l=Z (f:Int)/\wr.ownsRow w.heap.size 9 1 m (OH (i.take f)).length ((OH (i.take f)).map Value.string)/\Q3 w wr) (λ_ l _=>i.length-(intOf l).toNat)
 case atStart=>exact⟨0,AL,z,BU _ _ _ _,AB⟩
 case round =>
  rename Ra=>m
  obtain⟨f,hj,rfl,o,m⟩:=hrel;have C:=pA (i.take f);rw[AZ]at C;obtain⟨v,p⟩:=nHz (OH (i.take f));rw[<-p.j]at o C
  by_cases E:f<i.length
  .have T:(f:Int)<(i.length:Int):=d
   have V:(0:Int)<=(f:Int):=d
   obtain⟨j,o1,Q,n1,G,rfl,N,D,c2,M⟩:=(h.I m).at E;have t:=wU i f E;rw[<-M.j]at t;have A:=LE t;have r:=LE o;have l:=LE m;have x:=uX N;have W:=m.size;clear o m t;have X:IntKind.i64.wrap ((f:Int)+1)=((f+1:Nat):Int):=by rw[QC _ d d];omega
   cases Q with
   | true =>
    go_wp2;exact⟨⟨f+1,d,ν,by rw[A.j];simpa[p.j] using(r.j.alloc _),l.j.alloc l.j.size _⟩,by simp[intOf];omega⟩
   | false =>
    go_wp2_with (at_builtin;refine SX _ z _ _ 29 z w.heap.size underlying29 H.j z d _ v.length _ z ((r.j.alloc _).alloc _) (Ki (wr.heap.size+1) 0) 1 1 [Ow G] z z (World.news_of_block (by simpa using AV (wr.alloc _) _)) (by intro u F;simp at F;subst F;rfl) q (wr.heap.size+1+1) σ ?_;intro g9 S R y t J U;have L:=LE y;have K:=LE t;clear y t J);have y:OH (i.take (f+1))=v++[G]:=by rw[A.j,p.j];simp
    have t:Q3 w R:=UJ ((l.j.alloc l.j.size _).alloc q _) ((r.j.alloc _).alloc _) K.j q;exact⟨⟨f+1,d,ν,by rw[y];simpa using L.j,t⟩,by simp[intOf];omega⟩
  obtain rfl:f=i.length:=d
  rw[DG]at p;have r:=LE o;have l:=LE m;clear o m;go_wp2;go_ret;rw[<-p.j];exact⟨_,z,r.j,l.j⟩
theorem Fq(n:Nat)(w:Q9)(t:n<=100000):Calls prog 253 #[Y none 0 0,Z (n:Int)] w λr w'=>∃v,r=Q2 v/\w'.ownsRow w.heap.size 9 1 v 0 []/\Q3 w w':=by
 obtain⟨p,b,f,m,h⟩:=aq kq;go_enter func253,ntmps253
 by_cases o:n=0
 .subst o
  go_wp2;go_ret;exact⟨_,z,BU _ _ _ _,D⟩
 have r:(0:Int)<(n:Int):=d
 have i:=LE (λl=>Lib.run_append_nil_zeros (P:=prog) w 29 3 l 9 p _ .i64 .i64 underlying29 underlying3 b f n d d d (by rw[h];omega));have q:=JL w n 0 9;have l:=IR w n 0 9 (by unfold maxLen;omega);clear b f m h;go_wp2_with (at_builtin;refine Lib.wpList_append_run _ z _ _ _ _ z _ _ z z _ _ (i.j _) ?_);go_ret;refine⟨_,z,⟨j,.inr ⟨w.heap.size,_,_,z,C,AV w.drew _,d,l,?_,j⟩⟩,(D).drew.alloc C _⟩;simp[KJ,Value.cells];omega
def UZ(b:List (List Q4))(j:Nat):List Q4:=(b.take j).flatten
theorem tU(b:List (List Q4))(j:Nat)(h:j<b.length):UZ b (j+1)=UZ b j++b.getD j []:=by
 unfold UZ;rw[List.take_add_one,List.flatten_append];simp[AO h,List.getD]
theorem xo(b:List (List Q4)):UZ b b.length=b.flatten:=by unfold UZ;rw[DG]
theorem tk(b:List (List Q4))(j:Nat):(UZ b j).length<=(UZ b b.length).length:=by
 have:=BD (λl:List (List Q4)=>l.flatten.length) (FL j b);simp only[List.flatten_append,AK]at this;rw[xo];unfold UZ;omega
theorem O9(g c0:Nat)(h:List (List Q4))(w:Q9)(L:∀f,f<h.length->∃a c,w.cell? (Ki g f)=some (Y a (h.getD f []).length c)/\Strs w a (h.getD f []))(hg:g<w.heap.size)(hl:(UZ h h.length).length<=10000)(hk:h.length<=100):Calls prog 198 #[Y (Hw g 0) h.length c0] w λr w'=>∃v,r=Q2 v/\w'.ownsRow w.heap.size 9 1 v (UZ h h.length).length ((UZ h h.length).map Value.string)/\Q3 w w':=by
 obtain⟨N,b,i,m,o⟩:=aq kq;have l:=LE (I b (I i (I m o)));clear b i m o;have J:=LE L;clear L;go_enter func198,ntmps198;go_wp2;go_loopw [3,11] (λi b wr=>∃f:Nat,f<=h.length/\b=Z (f:Int)/\i=Z (((UZ h f).length:Nat):Int)/\wr=w) (λ_ b _=>h.length-(intOf b).toNat)
 case atStart=>exact⟨0,AL,z,z,z⟩
 case round =>
  obtain⟨f,hj,rfl,rfl,X⟩:=hrel;subst X;have E:=tk h f
  by_cases v:f<h.length
  .have S:(f:Int)<(h.length:Int):=d
   have j:(0:Int)<=(f:Int):=d
   obtain⟨a,c,p,_⟩:=J.j f v;have C:=tk h (f+1);have i:=BD List.length (tU h f v);rw[AK]at i;obtain⟨m,D⟩:=x ((h.getD f []).length);obtain⟨n,o⟩:=x ((UZ h f).length);rw[<-D.j]at p i;rw[<-o.j]at i E⊢;have q:¬((n:Int)+(m:Int)<0):=d
   go_wp2
   exact⟨⟨f+1,d,ν,by congr 2;rw[i];omega,by first|rfl|trivial⟩,by simp[intOf];omega⟩
  obtain rfl:f=h.length:=d
  have O:=LE (Fq (UZ h h.length).length wr d);go_wp2_with (go_at_call 253;refine O.j.J ?_;rintro e w2 ⟨v2,rfl,i,m⟩);go_loopw [6,27] (λo b q=>∃f:Nat,f<=h.length/\b=Z (f:Int)/\q.ownsRow wr.heap.size 9 1 o (UZ h f).length ((UZ h f).map Value.string)/\Q3 wr q) (λ_ b _=>h.length-(intOf b).toNat)
  case atStart=>exact⟨0,AL,z,i,m⟩
  case round =>
   rename World=>q
   rename Ra=>o
   clear i m;obtain⟨f,hj,rfl,r,i⟩:=hrel;have E:=tk h f
   by_cases v:f<h.length
   .have S:(f:Int)<(h.length:Int):=d
    have j:(0:Int)<=(f:Int):=d
    obtain⟨a,c,p,y⟩:=J.j f v;replace p:=OG i p;replace y:=y.I i;have C:=tk h (f+1);have t:=LE (tU h f v);rw[t.j,AK]at C;obtain⟨M,D⟩:=x (h.getD f []);obtain⟨Q,U⟩:=x (UZ h f);rw[<-D.j]at p y t C;rw[<-U.j]at r E C t;have m:=LE r;have A:=LE i;have bI:=i.size;have lg:g<q.heap.size:=d
    clear r i
    by_cases G:M=[]
    .subst G
     have b:=LE (λo=>M4 (P:=prog) 29 o 9 N 1 underlying29 l.j.1 l.j.2.2.1 _ _ _ _ m.j _ (PG y _ _ underlying29 c));simp only[AU]at p b;go_wp2_with (at_builtin;refine Lib.wpList_append_run _ z _ _ _ _ z _ _ z z _ _ (b.j _) ?_);exact⟨⟨f+1,d,ν,by rw[t.j,FT];exact m.j,A.j⟩,by simp[intOf];omega⟩
    obtain⟨b,o,rfl,hb,K⟩:=y.resolve_left G
    have hm:0<M.length:=by cases M;exact absurd z G;simp
    have V:Hid (∀k u,(M.map Value.string)[k]?=some u->q.cell? (((Ki b o):Addr).add k)=some u):=λk u H=>by
     obtain⟨F,R⟩:=DJ.1 H;simp only[BP]at F;rw[show((Ki b o):Addr).add k=(Ki b (o+k)) by unfold Addr.add;split<;>simp_all,K k F,<-R];simp[List.getD,F]
    clear K;go_wp2_with (at_builtin;refine wpList_append_lies _ z _ _ 29 z wr.heap.size 9 N (Ow empty) 1 16 underlying29 l.j.1 l.j.2.1 l.j.2.2.1 l.j.2.2.2 z d _ Q.length _ z m.j (Ki b o) M.length c (M.map Value.string) z σ V.j (by intro u H;obtain⟨s,_,rfl⟩:=DW.1 H;rfl) hm (by unfold maxLen;omega) d d q.heap.size z ?_;intro g9 bB w9 K F R bG;have W:=LE K;have T:=LE F;clear K F R);have F:Q3 wr w9:=UJ A.j m.j T.j d;exact⟨⟨f+1,d,ν,by rw[t.j,AK,DC];exact W.j,F⟩,by simp[intOf];omega⟩
   obtain rfl:f=h.length:=d
   have m:=LE r;have A:=LE i;clear r i;go_wp2;go_ret;exact⟨_,z,m.j,A.j⟩
section
@[reducible] def UE(l:Int)(x:Wo)(q:Wp):List Ra:=[.int .i32 l,.int .u32 0,Z x.w,Y q.a x.ss.length q.c,Y q.a' x.ws.length q.c',Q1 x.up,Z x.W,Z x.S,Z x.L,Z x.T,Z x.H,Z x.F,Z x.R,Z x.U,Z x.O,Y q.s x.rs.length q.cs,Y q.p x.P.length q.cp,Y q.t x.ts.length q.ct]
structure Sc(w v:Q9)(SB:Nat)(cs:List Ra)(M:Q9->Prop):Prop where
 e:w.grownBy v (some SB)
 r:Row v SB cs
 m:DepF v (λb=>b≠SB) M
section
variable {w v v':Q9} {SB:Nat} {cs cs':List Ra} {M N:Q9->Prop}
theorem Sc.I(h:Sc w v SB cs M)(d:Q3 v v'):Sc w v' SB cs M :=⟨⟨d.os.E h.e.os,d.tape.E h.e.tape,d.output.E h.e.output,AJ h.e.size d.size,λb f i=>(d.block b (AC f h.e.size)).E (h.e.block b f i)⟩,h.r.I d,h.m.I d⟩
theorem Sc.put(h:Sc w v SB cs M)(b:v.grownBy v' (some SB))(d:Row v' SB cs'):Sc w v' SB cs' M:=⟨OE h.e b,d,h.m.V b (λg e k=>by cases e;exact k rfl)⟩
theorem Sc.set(h:Sc w v SB cs M)(i:Nat)(b:i<cs.length)(u:Ra):Sc w (v.setCell (Ki SB i) u) SB (cs.set i u) M:=h.put (NZ (BC _ _) _ _) (h.r.set i b u)
theorem Sc.add(h:Sc w v SB cs M)(k:DepF v (λb=>b≠SB) N):Sc w v SB cs (λW=>M W/\N W):=⟨h.e,h.r,h.m.and k⟩
theorem Sc.map(h:Sc w v SB cs M)(f:∀W,M W->N W):Sc w v SB cs N:=⟨h.e,h.r,h.m.map f⟩
theorem dx(r:Row w SB cs)(m:DepF w (λb=>b≠SB) M):Sc w w SB cs M:=⟨BC _ _,r,m⟩
end
theorem WoG.depF{f i j:List Ra}{R:Nat->List Pr}{l:List Ra}{q:Wp}{o:Nat->Nat}(h:WoG f i j n R l w q o)(m:o SB=0):DepF w (λb=>b≠SB) (λW=>WoG f i j n R l W q o) :=⟨h,λw' d p=>h.only (K:=λk=>k=0) ⟨d.os,d.tape,d.output,d.size,λb r t=>p b (λe=>t (by rw[e];exact m)) r⟩ (λ_ k=>k)⟩
def fw(w w':Q9)(SB:Nat)(l:Int)(o:Nat->Nat)(y:Wo):Prop:=∃q d,Row w' SB (UE l y q)/\RY y w' q d/\(∀b,b<w.heap.size->d b=o b)/\w.grownBy w' (some SB)/\y.rs.length<=q.cs
theorem WoG.all{i j l:List Ra}{R:Nat->List Pr}{m:List Ra}{q:Wp}{o:Nat->Nat}(h:WoG i j l n R m w q o)(p:o SB=0)(u:SB<w.heap.size):DepF w (λb=>b≠SB) (λW=>∀f:Nat->Nat,(∀b,b<w.heap.size->f b=o b)->WoG i j l n R m W q f) :=⟨λf d=>h.lab d,λw' r t f d=>((h.lab d).depF ((d SB u).E p)).keep w' r t⟩
theorem OwL.all{o:Nat->Nat}(h:OwL w o k a cs)(j:k≠0)(l:o SB=0)(p:SB<w.heap.size):DepF w (λb=>b≠SB) (λW=>∀i:Nat->Nat,(∀b,b<w.heap.size->i b=o b)->OwL W i k a cs) :=⟨λi f=>h.lab f,λw' d m i f=>(h.lab f).only (K:=λk=>k=0) ⟨d.os,d.tape,d.output,d.size,λb q j=>m b (λe=>j (by rw[e];exact(f SB p).E l)) q⟩ j⟩
theorem PsR.all{o:Nat->Nat}{R:Nat->List Pr}{p:Q5}(h:PsR w o p n R)(l:o SB=0)(q:SB<w.heap.size):DepF w (λb=>b≠SB) (λW=>∀j:Nat->Nat,(∀b,b<w.heap.size->j b=o b)->PsR W j p n R) :=⟨λj f=>h.lab f,λw' d m j f=>(h.lab f).only (K:=λk=>k=0) ⟨d.os,d.tape,d.output,d.size,λb r t=>m b (λe=>t (by rw[e];exact(f SB q).E l)) r⟩ ω (λi=>ω)⟩
theorem OwL.depF{o:Nat->Nat}(h:OwL w o k a cs)(f:k≠0)(i:o SB=0):DepF w (λb=>b≠SB) (λW=>OwL W o k a cs) :=⟨h,λw' d j=>h.only (K:=λk=>k=0) ⟨d.os,d.tape,d.output,d.size,λb l f=>j b (λe=>f (by rw[e];exact i)) l⟩ f⟩
theorem YC{v:Ra}(h:w.ownsRow B e s v n xs):∃a c,v=Y a n c:=by
 rcases h.2 with ⟨rfl,rfl⟩|⟨g,b,d,rfl,_⟩
 .exact⟨_,_,z⟩
 exact⟨_,_,z⟩
theorem G6{b:List Q4}(h:w.ownsRow B 9 1 (Y a n c) b.length (b.map Value.string)):Strs w a b:=by
 rcases MS h with ⟨e,f⟩|⟨g,d,e,_,_,i⟩
 .exact .inl (AD f)
 injection e with e;subst e;exact OwnS.strs (.inr ⟨g,z,i⟩)
theorem Pq{f:Q5}{h:Nat}{b d:List Q4}(i:w.cell? (Ki g 0)=some (Y a b.length c))(l:w.cell? (Ki g 1)=some (Y f d.length h))(o:Strs w a b)(p:Strs w f d)(j:Nat)(m:j<[b,d].length):∃a c,w.cell? (Ki g j)=some (Y a ([b,d].getD j []).length c)/\Strs w a ([b,d].getD j []):=by
 match j,m with
 | 0,_=>exact⟨a,c,i,o⟩
 | 1,_=>exact⟨f,h,l,p⟩
theorem vI(h:w.ownsRow B e s (Y a n c) n xs):OwnS w a xs/\∀g,blk a n=some g->B<=g/\g<w.heap.size:=by
 rcases MS h with ⟨b,d⟩|⟨g,f,b,d,i,j⟩
 .exact⟨.inl (AD (by rw[h.1,d,Nat.zero_mul])),λg k=>by rw[d]at k;simp[blk]at k⟩
 injection b with b _ _
 subst b;exact⟨.inr ⟨g,z,j⟩,λl k=>by rw[kp k];exact⟨d,i⟩⟩
def fg(N:Nat)(o:Nat->Nat)(d f:Option Nat)(b:Nat):Nat:=if b<N then o b else if d=some b then 1 else if f=some b then 2 else 4
section
variable {N:Nat} {o:Nat->Nat} {r1 r2:Option Nat} {b:Nat}
theorem N2(h:b<N):fg N o r1 r2 b=o b:=G h
theorem Kw(h:N<=b)(f:r1=some b):fg N o r1 r2 b=1:=by unfold fg;rw[A d,G f]
theorem M0(h:N<=b)(f:r2=some b)(i:r1=none\/r2=none\/r1≠r2):fg N o r1 r2 b=2:=by unfold fg;rw[A d,A (λe=>by rw[e,f]at i;simp at i),G f]
theorem Cg(h:N<=b)(f:r1≠some b)(i:r2≠some b):fg N o r1 r2 b=4:=by unfold fg;rw[A d,A f,A i]
end
theorem VQ{o:Nat->Nat}(h:OwnS w a cs)(f:cs≠[]->n≠0)(j:∀g,blk a n=some g->lo<=g)(i:∀g,blk a n=some g->o g=k):OwL w o k a cs :=nC h (λg b d=>i g (by rw[b];exact ND _ _ _ (f d)))
theorem XS(h:OwnS w a cs)(i:cs≠[]->n≠0)(f:∀g,blk a n=some g->lo<=g)(l:SB<lo):DepF w (λb=>b≠SB) (λW=>OwnS W a cs):=gd (RX h i f) (λb j _=>d)
theorem wW(i:Wo)(q:Wp)(f:Q5)(p:List Int)(d SB:Nat)(l:Int)(o:Nat->Nat)(w:Q9)(D:Row w SB (UE l i q))(h:RY i w q o)(h0:o SB=0)(K:Ints w f p)(v:i.le 1048576)(I:p.length<=1048576):Calls prog 138 #[Dr SB 0,Y f p.length d] w λr w'=>r=Q2 (.tuple #[])/\fw w w' SB l o (i.pow p):=by
 have b:=LE (My q.a i.ss q.c q.a' i.ws q.c' f p d w h.at.h1 h.at.h2 K I v.l1 v.l2 v.s1 v.s2);unfold LR at b;have L:=D.lt;have m:=dx D (h.all h0 L);clear D K v I h;go_enter func138,ntmps138;have t:=m.r.y 3;have u:=m.r.y 4;have C:=m.r.lt;go_wp2_with fail;clear t u C;refine b.j.J ?_;rintro r v1 ⟨E,J,F,H,rfl,C,y,t⟩;replace m:=m.I t;have aN:=t.size;obtain⟨X,u⟩:=nHz (QY p i.ss i.ws);rw[<-u.j]at C y⊢;have M:Hid (i.pow p={ i with ss:=X,ws:=[],up:=false,W:=0,S:=0,L:=0,T:=0,H:=0,F:=0,R:=0,U:=0,O:=0,rs:=[] }):=LE (by rw[u.j];rfl);replace m:=m.add (XS C YP y L);clear t b u C;have t:=m.r.y 3;have u:=m.r.y 4;have x:=m.r.y 5;have A:=m.r.y 6;have G:=m.r.y 7;have c8:=m.r.y 8;have c9:=m.r.y 9;have c10:=m.r.y 10;have b:=m.r.y 11
 have c12:=m.r.y 12;have N:=m.r.y 13;have O:=m.r.y 14;have Q:=m.r.y 15;have f3:=m.r.A 3;have f4:=m.r.A 4;have f5:=m.r.A 5;have f6:=m.r.A 6;have f7:=m.r.A 7;have f8:=m.r.A 8;have f9:=m.r.A 9;have R:=m.r.A 10;have S:=m.r.A 11;have T:=m.r.A 12;have U:=m.r.A 13;have V:=m.r.A 14;have W:=m.r.A 15;have C:=m.r.lt;go_wp2;clear t f3 u f4 x f5 A f6 G f7 c8 f8 c9 f9 c10 R b S c12 T N U O V Q W C;have u:=(((((((((((((m.set 3 j (Y E X.length J)).set 4 j (Y F 0 H)).set 5 j (Q1 false)).set 6 j (Z 0)).set 7 j (Z 0)).set 8 j (Z 0)).set 9 j (Z 0)).set 10 j (Z 0)).set 11 j (Z 0)).set 12 j (Z 0)).set 13 j (Z 0)).set 14 j (Z 0)).set 15 j (Y none 0 0))
 generalize World.setCell _ _ _=N at u⊢;rw[M.j];refine GN (v:=.tuple #[]) (by simp[results,results138]) z ⟨z,⟨E,J,F,H,none,0,q.p,q.cp,q.t,q.ct⟩,λb=>if b<w.heap.size then o b else 1,u.r,?_,λb t=>AI t,u.e,AL⟩;have C:=u.m.q.1 (λb=>if b<w.heap.size then o b else 1) (λb t=>AI t);exact⟨VQ u.m.q.2 YP y (λg e=>AF (by have:=y g e;omega)),.inl z,.inl z,C.h4,C.h5⟩
def Wo.no(x:Wo)(e:Ev)(D:Dd):Prop:=D.C≠0\/200<(PQ x e D).length\/2000<(SC x e D).length
def Wo.runE(x:Wo)(e:Ev)(D:Dd):Wo:=if D.C≠0\/200<(PQ x e D).length\/2000<(SC x e D).length then x else if TC e D=true then (x.ran e D).pow e.fs else (x.ran e D).upS D
def Wo.runB(x:Wo)(e:Ev)(D:Dd):Bool:=if D.C≠0\/200<(PQ x e D).length\/2000<(SC x e D).length then false else !TC e D
theorem J4(d:List Q4)(f:List (Int×Q4))(b:List OpT)(N:Nat)(h:N<=b.length):OS d f (b.take N) (N:Int)=OS d f b (N:Int):=by
 unfold OS SR;simp[AZ,Nat.min_eq_left h,IL]
theorem Pw{f:List OpT}(h:Ops w a f)(k:Nat):Ops w a (f.take k):=by
 rcases h with h|⟨b,o,e,j,l⟩
 .exact .inl (by rw[h];exact List.take_nil)
 refine .inr ⟨b,o,e,j,λi m=>?_⟩
 rw[AZ]at m;have:=l i d;rw[show(f.take k).getD i (false,0,empty)=f.getD i (false,0,empty) by simp[List.getD,FQ,show i<k by omega]];exact this
theorem zT(m:Wo)(q:Wp)(e:Ev)(a:Q5)(c:Nat)(C:Q5)(E:Nat)(i:Dd)(U:Q5)(V:Nat)(Q:Q5)(X:Nat)(p:Q5)(b SB:Nat)(y:Int)(o:Nat->Nat)(w:Q9)(hR:Row w SB (UE y m q))(F:RY m w q o)(h0:o SB=0)(hp:bk w o p (PQ m e i))(hs:OwL w o 3 U (LS i.rs))(K:OwL w o 6 Q (LG i.ops))(cF:i.ops.length<=X)(hf:DepF w (λt=>t≠SB) (λW=>Ints W C e.fs))(f:m.ok)(hd:i.ok)(he:e.le)(cH:m.rs.length<=q.cs)(cI:i.rs.length<=V):Calls prog 137 #[Dr SB 0,OQ e a c C E,MT i U V Q X,Y p (PQ m e i).length b] w λr w'=>r=Q2 (Q1 (m.runB e i))/\fw w w' SB y o (m.runE e i):=by
 have bV:=LE (AG cH cI);clear cH cI;have v:=f.le;have j:=hR.lt;have J:=((((dx hR (F.all h0 j)).add (hp.all h0 j)).add (hs.all d h0 j)).add (K.all d h0 j)).add hf;clear hR F hp hs K hf;have cS:=hd.2.1;obtain⟨aY,aB⟩:=x (m.runE e i);obtain⟨RB,aN⟩:=x (m.runB e i);rw[<-aB.j,<-aN.j];obtain⟨N,H⟩:=x (YR e i);obtain⟨CB,aW⟩:=x (TC e i);have cQ:N<=i.ops.length:=by rw[H.j];exact sY e i
 obtain⟨S,l⟩:=x (PQ m e i);rw[<-l.j]at J⊢;have bQ:S.length<=201:=by have:=f.p.1;rw[l.j];unfold PQ;split<;>(try simp)<;>omega
 obtain⟨O,u⟩:=x (SC m e i);have M:Hid (∀w',Calls prog 197 #[Y Q i.ops.length X,Z e.cut] w' λr L=>r=Q2 (.tuple #[Y Q (YR e i) X,Q1 (TC e i)])/\L=w'):=LE (λw'=>Em Q i.ops.length X e.cut w' cF cS);rw[<-H.j,<-aW.j]at M;obtain⟨R,aM⟩:=x (i.ops.take N);have cC:R.length=N:=by rw[aM.j,AZ];omega
 have I:=LE (λw' k=>Dc Q R X w' k d);rw[cC]at I;have bW:Hid (∀W,Ops W Q i.ops->Ops W Q R):=LE (λW k=>by rw[aM.j];exact Pw k N);have aZ:[m.ts,OH R].flatten=O:=by rw[u.j,aM.j,H.j];simp[SC]
 have bI:O.length<=3000:=by have h1:=f.t.1;have h2:=pA R;rw[<-aZ];simp;omega
 have h:=LE (λw' G L k3=>Ln q.a m.ss q.c q.a' m.ws q.c' Q R X (N:Int) w' G L k3 d d (λo f=>by have:=hd.2.2 o (by rw[aM.j]at f;exact DR f);omega) v.l1 v.l2 v.s1 v.s2);obtain⟨L,bC⟩:=x (OS m.ss m.ws i.ops (N:Int));rw[show OS m.ss m.ws R (N:Int)=L by rw[bC.j,aM.j];exact J4 _ _ _ _ cQ,cC]at h;have HD:=LE hd;have HM:=LE v;have HO:=LE f;have HE:=LE he;clear hd v f he cF;unfold LR at h;unfold OQ MT;go_enter func137,ntmps137;go_upto_region 1 with fail;generalize v:w.alloc _=v1;obtain⟨cE,D,b2⟩:=LP v;clear v;generalize A:v1.alloc _=v2;obtain⟨T,aV,v⟩:=LP A;clear A;rw[D]at v aV;replace J:=(((J.I cE).I T).add (WG (b2.I T).q d)).add (WG v.q d);have l2:w.heap.size+1<v2.heap.size:=d
 clear cE T b2 v D aV;have cY:=J.m.q.1.2.lt;have T:=J.m.q.1.2.y 2;have v:=J.m.q.2.y 11;have dl:=J.m.q.2.lt;go_wp2_with fail;clear T v;refine(M.j _).J ?_;rintro r T ⟨rfl,v⟩;rw[v];clear v T M;go_upto_region 2 with fail;have D:Hid (∀W,Q3 v2 W->W.cell? (Ki SB 17)=some (Y q.t m.ts.length q.ct)):=LE (λW K=>(J.I K).r.y 17);have v:=@AB v2.heap.size v2;refine AN (S:=λw'=>w'.cell? (Ki SB 17)=some (Y q.t m.ts.length q.ct)) κ (D.j _ v.drew) (λM=>?_);refine TY 0 (Dr SB 0) z M (TY 1 (Dr SB 0) z M (TY 2 (Dr SB 2) z M (TK 3 (Dr SB 17) z (AT ⟨ρ,λw hw=>by obtain z0:=hw;have y:=DP _ _ hw;go_simp⟩) M (TY 4 (Y q.t m.ts.length q.ct) z M (TY 5 (Y Q N X) z M ?_)))))
 simp only[PS];refine RD 6 z (λKq T=>?_);replace v:=v.drew;refine LM ρ 199 #[Y Q N X] γ (I.j _ (bW.j _ ((J.I v).m.q.1.1.1.2 o (λ_ _=>z)).own.ops)) ?_;rintro r y1 ⟨vd,rfl,od,K⟩;refine⟨_,z,?_⟩;have lD:=v.size;replace v:=v.E (K.J v.size);clear K I;refine T.j _ _ (D.j _ v) (λaD=>?_)
 try simp only[PS]
 refine RD 7 z (λKq T=>?_);obtain⟨bR,bT,rfl⟩:∃a c,vd=Y a (OH R).length c:=YC od;go_simp;obtain⟨y2,A⟩:=nMz (y1.alloc (.cells #[Y q.t m.ts.length q.ct,Y bR (OH R).length bT] 29));rw[<-A];have I:=LZ y1 #[Y q.t m.ts.length q.ct,Y bR (OH R).length bT] 29;have K:=LH y1 (.cells #[Y q.t m.ts.length q.ct,Y bR (OH R).length bT] 29);rw[<-A]at I K;obtain⟨GB,aO⟩:=nMz y1.heap.size;rw[<-aO]at I⊢;have oT:=MK od K;replace v:=v.E (K.J v.size);have lY:=v.size;clear A aO K od;refine T.j _ _ (D.j _ v) (λaS=>?_)
 try simp only[PS]
 refine RD 8 z (λKq T=>?_);have A:=O9 GB 2 [m.ts,OH R] y2 (Pq (I.y 0) (I.y 1) ((J.I v).m.q.1.1.1.1.1.1 o (λ_ _=>z)).h5.own.strs (G6 oT)) I.lt (by rw[xo,aZ];omega) σ;rw[xo,aZ]at A;refine LM ρ 198 #[Y (Hw GB 0) 2 2] γ A ?_;rintro r y3 ⟨vt,rfl,ot,K⟩;refine⟨_,z,?_⟩;have l3:=K.size;replace v:=v.E (K.J v.size);clear K A oT I;refine T.j _ _ (D.j _ v) (λI=>?_)
 try simp only[PS]
 refine RD 9 z (λKq T=>?_);go_simp;refine T.j _ _ I (λ_=>?_)
 try simp only[PS]
 refine DN ?_;obtain⟨A,tc,rfl⟩:=YC ot;obtain⟨oT,gT⟩:=vI ot
 have aR:∀g,blk A O.length=some g->w.heap.size<=g:=λg k=>by have:=(gT g k).1;omega
 replace J:=(J.I v).add (XS oT YP aR j);clear D ot oT v lD l3 aD aS I M;have d0:=J.m.q.1.2.y 0;have dl:=J.m.q.1.2.lt;go_upto_region 3 with fail;generalize Value.tuple _=T9;generalize Value.agg _=A8;generalize Value.agg _=A9;go_cut [41] from 29 to 40 (λv M=>v=Q1 (decide (i.C≠0\/200<S.length\/2000<O.length))/\M=y3)
 case first =>
  by_cases v:i.C=0
  .have I:(i.C == 0)=true:=by simp[v]
   have M:=LE v;clear v
   by_cases t1:200<S.length
   .have D:(200:Int)<(S.length:Int):=d
    go_wp2_with fail;go_meet;exact⟨by rw[AM (.inr (.inl t1))],z⟩
   have D:¬((200:Int)<(S.length:Int)):=d
   by_cases t2:2000<O.length
   .have cW:(2000:Int)<(O.length:Int):=d
    go_wp2_with fail;go_meet;exact⟨by rw[AM (.inr (.inr t2))],z⟩
   have cW:¬((2000:Int)<(O.length:Int)):=d
   go_wp2_with fail;go_meet;exact⟨by rw[AH (by have:=M.j;omega)],z⟩
  have I:(i.C == 0)=false:=by simp[v]
  go_wp2_with fail;go_meet;exact⟨by rw[AM (.inl v)],z⟩
 case rest =>
 obtain⟨rfl,v⟩:=hcut;rw[v];clear v d0 dl
 by_cases M:i.C≠0\/200<S.length\/2000<O.length
 .rw[AM M]
  have D:m=aY:=by rw[aB.j];unfold Wo.runE;rw[<-l.j,<-u.j,AI M]
  have eb:false=RB:=by rw[aN.j];unfold Wo.runB;rw[<-l.j,<-u.j,AI M]
  clear aB aN;subst D eb;have SH:=LE J;clear J h M;go_wp2;refine AE (v:=Q1 false) (by simp[results,results137]) z ⟨z,q,o,SH.j.r,SH.j.m.q.1.1.1.1.1.1.1 o (λ_ _=>z),λ_ _=>z,SH.j.e,bV.j.1⟩
 rw[AH M];obtain⟨v,I⟩:=x (m.ran e i);have bE:Hid (v={ m with ss:=L.1,ws:=L.2,P:=S,ts:=O }):=LE (by rw[I.j,bC.j,l.j,u.j,H.j];rfl);have cM:Hid (v.le 1048576):=LE (by rw[I.j];exact(HO.j.ran e (d:=i) HD.j (by rw[<-l.j,<-u.j];omega)).le);have D:aY=if CB=true then v.pow e.fs else v.upS i:=by rw[aB.j,I.j,aW.j];unfold Wo.runE;rw[<-l.j,<-u.j,AF M]
 have eb:RB=!CB:=by rw[aN.j,aW.j];unfold Wo.runB;rw[<-l.j,<-u.j,AF M]
 have ER:=LE D;have EB:=LE eb;clear D eb M aB aN bC H aW I bQ bI aZ u l;have M:=J.r.y 3;have I:=J.r.y 4;have c16:=J.r.y 16;have l:=J.r.y 17;have f16:=J.r.A 16;have u:=J.r.A 17;have D:=J.r.lt;go_wp2_with fail;clear M I c16 f16 l u D;replace J:=(J.set 16 σ (Y p S.length b)).set 17 σ (Y A O.length tc);have z6:((y3.setCell (Ki SB 16) (Y p S.length b)).setCell (Ki SB 17) (Y A O.length tc)).heap.size=y3.heap.size:=by rw[BI,BI]
 generalize M:World.setCell (World.setCell _ _ _) _ _=v6 at J z6⊢;clear M;have I:=J.m.q.1.1.1.1.1.1.1 o (λ_ _=>z);refine(h.j _ I.h1.own.strs I.h2.own.wrs (bW.j _ (J.m.q.1.1.1.1.2 o (λ_ _=>z)).own.ops)).J ?_;rintro r7 v7 ⟨l,G,u,H,rfl,M,g1,g2,K⟩;have l6:=J.e.size;have l7:=K.size
 have gA:∀g,blk l L.1.length=some g->w.heap.size<=g:=λg k=>by have:=g1 g k;omega
 have gB:∀g,blk u L.2.length=some g->w.heap.size<=g:=λg k=>by have:=g2 g k;omega
 replace J:=((J.I K).add (XS M.s YP gA j)).add (XS M.p iy gB j);have bP:=M.ne;clear K h M I;have M:=J.r.y 3;have I:=J.r.y 4;have h:=J.r.A 3;have f4:=J.r.A 4;have D:=J.r.lt;go_upto_region 7 with fail;clear M h I f4 D;replace J:=(J.set 3 σ (Y l L.1.length G)).set 4 σ (Y u L.2.length H);have z8:((v7.setCell (Ki SB 3) (Y l L.1.length G)).setCell (Ki SB 4) (Y u L.2.length H)).heap.size=v7.heap.size:=by rw[BI,BI]
 generalize M:World.setCell (World.setCell _ _ _) _ _=I at J z8⊢;clear M;obtain⟨h,M⟩:=x (fg w.heap.size o (blk l L.1.length) (blk u L.2.length))
 have ag:∀t,t<w.heap.size->h t=o t:=λt K=>by rw[M.j];exact N2 K
 have aX:DepF I (λt=>t≠SB) (λW=>RY v W ⟨l,G,u,H,q.s,q.cs,p,b,A,tc⟩ h):=J.m.map (λW ⟨⟨⟨⟨⟨⟨⟨⟨⟨mW,mP⟩,mS⟩,mO⟩,mI⟩,rE⟩,rD⟩,mT⟩,mA⟩,mB⟩=>by
  rw[bE.j];refine⟨VQ mA YP gA (λg k=>by rw[M.j];exact Kw (gA g k) k),VQ mB iy gB (λg k=>by rw[M.j];exact M0 (gB g k) k bP),(mW h ag).h3,mP h ag,VQ mT YP aR (λg k=>?_)⟩
  rw[M.j];exact Cg (aR g k) (λe=>by have:=g1 g e;have:=(gT g k).2;omega) (λe=>by have:=g2 g e;have:=(gT g k).2;omega))
 have z1:h SB=0:=(ag SB j).E h0
 cases CB with
 | true =>
  have D:=wW v ⟨l,G,u,H,q.s,q.cs,p,b,A,tc⟩ C e.fs E SB y h I (by rw[bE.j];exact J.r) aX.q z1 J.m.q.1.1.1.1.1.2 cM.j HE.j.f;have e3:=J.m.q.1.1.1.1.2.y 3;have el:=J.m.q.1.1.1.1.2.lt;have SE:=LE J.e;clear J aX gA gB gT aR g1 g2 bP h0 M;have bU:=LE D;clear D;go_wp2_with fail;clear e3 el;refine bU.j.J ?_;rintro r9 v9 ⟨rfl,q2,o2,R9,W9,a9,D,K9⟩;have H9:=LE (AG R9 W9);have cL:=LE K9;have HG:=LE D;clear R9 W9 bU D K9;go_wp2;refine AE (v:=Q1 false) (by simp[results,results137]) z ⟨by rw[EB.j];rfl,q2,o2,?_,?_,λt K=>(a9 t d).E (ag t K),OE SE.j HG.j,by rw[ER.j];exact cL.j⟩
  .rw[ER.j];exact H9.j.1
  rw[ER.j];exact H9.j.2
 | false =>
  have D:aY=v.upS i:=by rw[ER.j,AF σ]
  have bY:DepF I (λt=>t≠SB) (λW=>RY aY W ⟨l,G,u,H,U,V,p,b,A,tc⟩ h):=(aX.and J.m).map (λW ⟨hW,⟨⟨⟨⟨⟨⟨⟨⟨⟨mW,mP⟩,mS⟩,mO⟩,mI⟩,rE⟩,rD⟩,mT⟩,mA⟩,mB⟩⟩=>by rw[D];exact⟨hW.h1,hW.h2,mS h ag,hW.h4,hW.h5⟩);replace J:=J.add bY;clear bY aX gA gB gT aR g1 g2 bP h0 M;go_upto_region 10 with fail;refine AN (S:=λw'=>Row w' (w.heap.size+1) (dJ i.C i.W i.S i.L i.T i.H i.F i.R i.U i.O (Y U i.rs.length V) (Y Q i.ops.length X))/\SB<w'.heap.size) κ (⟨(J.I (@AB I.heap.size I).drew).m.q.1.1.1.1.2,(J.I (@AB I.heap.size I).drew).r.lt⟩) (λM=>?_);refine TY 0 (Dr SB 0) z M (TY 1 (Dr SB 0) z M (TK 2 (Dr (w.heap.size+1) 1) z (AT ⟨ρ,λw hw=>by obtain⟨z0,z1⟩:=hw;have y:=z0.lt;go_simp⟩) M (TK 3 (.agg (sK i.W i.S i.L i.T i.H i.F i.R i.U i.O (Y U i.rs.length V))) z (AT ⟨ρ,λw hw=>by obtain⟨z0,z1⟩:=hw;exact SA 44 _ z _ 1 z (sJ i.W i.S i.L i.T i.H i.F i.R i.U i.O (Y U i.rs.length V)) _ (Row.rangeMid (pre:=[Z i.C]) (cs:=(sJ i.W i.S i.L i.T i.H i.F i.R i.U i.O (Y U i.rs.length V))) (post:=[Y Q i.ops.length X]) z0) underlying44 z QD⟩) M (TY 4 (Dr SB 0) z M (TY 5 (Dr SB 2) z M (TY 6 (Dr SB 5) z M ?_))))))
  simp only[PS];refine RD 7 z (λKq T=>?_);replace J:=J.I (@AB I.heap.size I).drew;generalize t:I.drew=y9 at J⊢;clear t;have t:=J.r.y 5;have W:=J.r.A 5;go_simp;clear t W;replace J:=J.set 5 σ (Q1 true);generalize World.setCell _ _ _=W at J⊢;refine T.j _ _ (⟨J.m.q.1.1.1.1.2,J.r.lt⟩) (λaD=>?_)
  try simp only[PS]
  refine TY 8 (Dr SB 0) z aD (TY 9 (Dr SB 2) z aD (TY 10 (Dr SB 6) z aD ?_));simp only[PS];refine RD 11 z (λKq T=>?_);refine VC z 44 _ _ z SB 6 (sK i.W i.S i.L i.T i.H i.F i.R i.U i.O (Y U i.rs.length V)) z z (Row.thereMid (pre:=[.int .i32 y,.int .u32 0,Z m.w,Y l L.1.length G,Y u L.2.length H,Q1 true]) (cs:=(sJ m.W m.S m.L m.T m.H m.F m.R m.U m.O (Y q.s m.rs.length q.cs))) (post:=[Y p S.length b,Y A O.length tc]) J.r z) QD κ ?_;replace J:=J.put (QF _ SB 6 (sJ i.W i.S i.L i.T i.H i.F i.R i.U i.O (Y U i.rs.length V))) (Row.setsMid (pre:=[.int .i32 y,.int .u32 0,Z m.w,Y l L.1.length G,Y u L.2.length H,Q1 true]) (cs:=(sJ m.W m.S m.L m.T m.H m.F m.R m.U m.O (Y q.s m.rs.length q.cs))) (post:=[Y p S.length b,Y A O.length tc]) J.r (sJ i.W i.S i.L i.T i.H i.F i.R i.U i.O (Y U i.rs.length V)) z)
  generalize World.setCells _ _ _ _=y5 at J⊢;refine T.j _ _ (⟨J.m.q.1.1.1.1.2,J.r.lt⟩) (λaS=>?_)
  try simp only[PS]
  refine DN ?_;have SH:=LE J;have t:=LE D;clear J D;go_wp2;refine AE (v:=Q1 true) (by simp[results,results137]) z ⟨by rw[EB.j];rfl,⟨l,G,u,H,U,V,p,b,A,tc⟩,h,?_,?_,ag,SH.j.e,by rw[t.j];exact bV.j.2⟩
  .rw[t.j,bE.j];exact SH.j.r
  exact SH.j.m.q.2
end
theorem ZB:(prog.info? 87).map (·.size)=some 4:=h
theorem Ol{o:Nat->Nat}{b:List Pr}(d:Row w g [Y a b.length c])(f:o g=5)(h:OwL w o 7 a (LS b)):bk w o (Hw g 0) [b] :=.inr ⟨g,z,d.lt,f,λi j=>by
  obtain rfl:i=0:=by simpa using j
  exact⟨a,c,d.y 0,h⟩⟩
def Wo.setE(x:Wo)(e:Ev)(D:Dd):Wo:=if x.runB e D=true then { x.runE e D with P:=[D.rs] } else x.runE e D
theorem xj(t:Wo)(u:Wp)(e:Ev)(a:Q5)(c:Nat)(v:Q5)(C:Nat)(i:Dd)(N:Q5)(O:Nat)(S:Q5)(T SB:Nat)(E:Int)(o:Nat->Nat)(w:Q9)(G:Row w SB (UE E t u))(H:RY t w u o)(U:o SB=0)(hs:OwL w o 3 N (LS i.rs))(J:OwL w o 6 S (LG i.ops))(aW:i.ops.length<=T)(hf:DepF w (λm=>m≠SB) (λW=>Ints W v e.fs))(ho:t.ok)(b:i.ok)(he:e.le)(hK:e.K≠2)(aN:t.rs.length<=u.cs)(aO:i.rs.length<=O):Calls prog 136 #[Dr SB 0,OQ e a c v C,MT i N O S T] w λr w'=>r=Q2 (.tuple #[])/\fw w w' SB E o (t.setE e i):=by
 have lS:=G.lt;have y:PQ t e i=t.P:=AF hK;have bB:=(XO b.1).1;have I:=((dx G (H.depF U)).add (hs.depF d U)).add ((J.depF d U).and hf);have K:=LE (λw' L F R M Q=>zT t u e a c v C i N O S T u.p u.cp SB E o w' L F U (by rw[y];exact F.h4) R M aW Q ho b he aN aO);rw[y]at K;unfold OQ MT at K⊢;clear G H hs J hf ho b he y hK aN aO;obtain⟨F,y⟩:=nHz (t.runE e i);obtain⟨x,M⟩:=nHz (t.runB e i);rw[<-y.j,<-M.j]at K;obtain⟨aP,L⟩:=nHz (t.setE e i);rw[<-L.j];have Q:Hid (aP=if x=true then { F with P:=[i.rs] } else F):=LE (by rw[L.j,y.j,M.j];rfl);clear L y M;go_enter func136,ntmps136;go_upto_region 1 with fail;generalize y:w.alloc _=v1;obtain⟨X,R,h⟩:=LP y;clear y;generalize M:v1.alloc _=f;obtain⟨y,V,L⟩:=LP M;clear M;rw[R]at L V;replace I:=(((I.I X).I y).add (WG (h.I y).q d)).add (WG L.q d)
 clear X y h L R V;replace I:=I.I (@AB f.heap.size f).drew;refine AN (S:=λw'=>SB<w'.heap.size/\Row w' w.heap.size [Z e.K,Y a e.b.length c,Z e.cut,Y v e.fs.length C]/\Row w' (w.heap.size+1) (dJ i.C i.W i.S i.L i.T i.H i.F i.R i.U i.O (Y N i.rs.length O) (Y S i.ops.length T))) κ (⟨I.r.lt,I.m.q.1.2,I.m.q.2⟩) (λM=>?_);refine TY 0 (Dr SB 0) z M (TK 1 (.agg #[Z e.K,Y a e.b.length c,Z e.cut,Y v e.fs.length C]) z (AT ⟨ρ,λw y=>by obtain⟨z0,X,z2⟩:=y;exact SA 87 _ z _ 0 z _ _ X.range underlying87 z ZB⟩) M (TK 2 (.agg (dK i.C i.W i.S i.L i.T i.H i.F i.R i.U i.O (Y N i.rs.length O) (Y S i.ops.length T))) z (AT ⟨ρ,λw y=>by obtain⟨z0,X,z2⟩:=y;exact SA 115 _ z _ 0 z _ _ z2.range underlying115 z UH⟩) M (TY 3 (Dr SB 0) z M (TY 4 (Dr SB 0) z M (TY 5 (Dr SB 2) z M (TY 6 (Dr SB 16) z M ?_))))))
 simp only[PS];refine RD 7 z (λKq j=>?_);generalize L:f.drew=y at I⊢;clear L;have c16:=I.r.y 16;go_simp;clear c16;refine j.j _ _ (⟨I.r.lt,I.m.q.1.2,I.m.q.2⟩) (λaS=>?_)
 try simp only[PS]
 refine RD 8 z (λKq j=>?_);refine LM ρ 137 #[Dr SB 0,.agg #[Z e.K,Y a e.b.length c,Z e.cut,Y v e.fs.length C],.agg (dK i.C i.W i.S i.L i.T i.H i.F i.R i.U i.O (Y N i.rs.length O) (Y S i.ops.length T)),Y u.p t.P.length u.cp] γ (K.j _ I.r I.m.q.1.1.1.1 I.m.q.1.1.1.2 I.m.q.1.1.2.1 (I.m.map λW k=>k.1.1.2.2)) ?_;rintro r W ⟨rfl,q1,V,q,L,h,R,l⟩;have aL:=LE l;clear l;refine⟨_,z,?_⟩;have lw:=I.e.size;replace I:=I.put R q;have l1:=R.size;clear R q K;refine j.j _ _ (⟨I.r.lt,I.m.q.1.2,I.m.q.2⟩) (λaT=>?_)
 try simp only[PS]
 refine DN ?_;have X:V SB=0:=(h SB d).E U
 cases x with
 | false =>
  have K:=LE I;have R:=LE L;clear I L;go_wp2;refine GN (v:=.tuple #[]) (by simp[results,results136]) z ⟨z,q1,V,?_,?_,λm J=>h m d,K.j.e,by rw[Q.j];exact aL.j⟩
  .rw[Q.j];exact K.j.r
  rw[Q.j];exact R.j
 | true =>
  have ly:SB<W.heap.size:=I.r.lt;replace I:=I.add (L.all X ly);clear L;have L:=LE (gu N i.rs O W I.m.q.1.1.1.1.2.own.prs d);unfold LX at L;have K:=I.m.q.1.2.y 10;have R:=I.m.q.1.2.lt;go_wp2_with fail;clear K R;refine L.j.J ?_;rintro r K ⟨A,c5,rfl,aZ,R,D,J⟩;replace I:=I.I J;have l2:=J.size;have d5:=XS R (λl q=>l (by rw[AD q];rfl)) D ly
  have g6:=λg k=>gz (g:=g) R k
  replace I:=I.add d5;unfold LX;clear L J R d5;have c16:=I.r.y 16;have f16:=I.r.A 16;have L:=I.r.lt;go_wp2;clear c16 f16 L;have L:=I.set 16 σ (Y (Hw K.heap.size 0) 1 1);have zs:(K.setCell (Ki SB 16) (Y (Hw K.heap.size 0) 1 1)).heap.size=K.heap.size:=BI _ _ _;generalize R:K.setCell _ _=y3 at L zs⊢;clear R I;have rN:=LZ y3 #[Y A i.rs.length c5] 42;rw[zs]at rN;replace L:=L.I (LH y3 (.cells #[Y A i.rs.length c5] 42))
  have I:∀m,m<W.heap.size->(λm=>if m<W.heap.size then V m else if m=K.heap.size then 5 else 7) m=V m:=λm J=>AI J
  have R:=L.m.q.1.2 _ I;refine GN (v:=.tuple #[]) (by simp[results,results136]) z ⟨z,{ q1 with p:=Hw K.heap.size 0,cp:=1 },_,?_,?_,λm J=>(I m d).E (h m d),L.e,by rw[Q.j];exact aL.j⟩
  .rw[Q.j];exact L.r
  rw[Q.j];exact⟨R.h1,R.h2,R.h3,Ol rN τ (VQ L.m.q.2 (λl q=>l (by rw[AD q];rfl)) D (λg k=>by have m:=D g k;have h2:=g6 g k;show(if g<W.heap.size then V g else if g=K.heap.size then 5 else 7)=7;rw[AF d,AF d])),R.h5⟩
theorem mC{x:Wo}{e:Ev}{D:Dd}(f:e.K≠5)(m:e.K≠2)(h:x.call e=(D,true)):x.doE e=x.setE e D:=by
 by_cases i:D.C≠0\/200<(PQ x e D).length\/2000<(SC x e D).length
 .have j:x.runB e D=false:=by unfold Wo.runB;rw[G i]
  have l:x.runE e D=x:=by unfold Wo.runE;rw[G i]
  unfold Wo.setE;rw[j,l]
  by_cases b:D.C=0
  .exact nI f h b d
  exact fh f h (.inr b)
 have b:D.C=0:=d
 have j:x.runB e D=!TC e D:=by unfold Wo.runB;rw[A i]
 have l:x.runE e D=if TC e D=true then (x.ran e D).pow e.fs else (x.ran e D).upS D:=by unfold Wo.runE;rw[A i]
 unfold Wo.setE;rw[j,l]
 cases hb:TC e D with
 | true=>exact oV f h b d hb
 | false=>exact zD f h b d hb m
theorem zg{o:Nat->Nat}{N:Nat}{d:List Pr}{i:List OpT}{b:Q5}(h:OwnDn w d i a b)(j:∀g,blk a d.length=some g->N<=g)(l:∀g,blk b i.length=some g->N<=g)(m:o SB=0)(p:SB<N):∃f:Nat->Nat,(∀x,x<N->f x=o x)/\f SB=0/\OwL w f 3 a (LS d)/\OwL w f 6 b (LG i):=by
 refine⟨λx=>if x<N then o x else if blk a d.length=some x then 3 else 6,λx f=>G f,(G p).E m,VQ h.s TS j (λg k=>?_),VQ h.p qy l (λg k=>?_)⟩
 .show(if g<N then o g else if blk a d.length=some g then 3 else 6)=3
  rw[A (by have:=j g k;omega),G k]
 show(if g<N then o g else if blk a d.length=some g then 3 else 6)=6
 rw[A (by have:=l g k;omega),A (λe=>by rcases h.ne with h|h|h;rw[h]at e;cases e;rw[h]at k;cases k;exact h (e.E k.symm))]
theorem G7(i:Wo)(q:Wp)(e:Ev)(a:Q5)(c:Nat)(m:Q5)(t SB:Nat)(v:Int)(o:Nat->Nat)(w:Q9)(X:Row w SB (UE v i q))(C:RY i w q o)(h0:o SB=0)(aO:i.rs.length<=q.cs)(hf:DepF w (λp=>p≠SB) (λW=>Ints W m e.fs))(j:i.ok)(he:e.le)(Q:e.K=1)(ty:TypeId)(gv:Ra)(aZ:w.cell? (Ki 7 0)=some (.iface ty gv))(aY:w.cell? (Ki 1 0)=some (.iface 318 (.agg #[Dr 10 58])))(aP:7<w.heap.size):Calls prog 91 #[Dr SB 0,OQ e a c m t] w λr w'=>r=Q2 (.tuple #[])/\fw w w' SB v o (i.doE e):=by
 have lS:=X.lt;have u:=j.le;have hd:(OL i.ss i.ws i.w).ok:=by have:=j.call e;unfold Wo.call at this;simpa[Q] using this
 have E:=(dx X (C.all h0 lS)).add hf;have O:=LE (λD1 D h I l o' w' (b:Row w' SB (UE v i q)) h' h0' hs' hb' hbc hf' hd' hdc'=>xj i q e a c m t D1 D h I l SB v o' w' b h' h0' hs' hb' hbc hf' j hd' he ω aO hdc');have aQ:=LE aO;unfold OQ MT at O;unfold OQ;have K:=LE (λw' h1 h2 (H:Q3 w w')=>lO q.a i.ss q.c q.a' i.ws q.c' i.w w' h1 h2 u.l1 u.l2 u.s1 u.s2 ty gv ((H.cell (p:=(Ki 7 0)) aP).E aZ) ((H.cell (p:=(Ki 1 0)) (by show 1<_;omega)).E aY) (AC aP H.size));unfold LR at K;obtain⟨aN,N⟩:=nHz (i.doE e);rw[<-N.j];obtain⟨A,f⟩:=nHz (OL i.ss i.ws i.w);rw[<-f.j]at K hd;have aM:Hid (i.call e=(A,!i.up)):=LE (by rw[f.j];unfold Wo.call;simp[Q]);have T:=LE Q;clear X C hf u Q;go_enter func91,ntmps91;go_upto_region 1 with fail;generalize u:w.alloc _=R;obtain⟨J,F,y⟩:=LP u
 clear u;replace E:=(E.I J).add (WG y.q ω);clear y F;have c5:=E.r.y 5;have cl:=E.r.lt;have bE:=J.size;obtain⟨u,U⟩:=nHz i.up;rw[<-U.j]at c5
 cases u with
 | false =>
  have M:aN=i.setE e A:=by rw[N.j];exact mC (by have:=T.j;omega) (by have:=T.j;omega) (by rw[aM.j,<-U.j];rfl)
  go_upto_region 2 with fail;clear c5 cl;replace E:=E.I (@AB R.heap.size R).drew;replace J:=J.drew;refine AN (S:=λw'=>SB<w'.heap.size/\Row w' w.heap.size [Z e.K,Y a e.b.length c,Z e.cut,Y m e.fs.length t]) κ (⟨E.r.lt,E.m.q.2⟩) (λG=>?_);refine TY 0 (Dr SB 0) z G (TK 1 (.agg #[Z e.K,Y a e.b.length c,Z e.cut,Y m e.fs.length t]) z (AT ⟨ρ,λw y=>by obtain⟨z0,d⟩:=y;exact SA 87 _ z _ 0 z _ _ d.range underlying87 z ZB⟩) G (TY 2 (Dr SB 0) z G (TY 3 (Dr SB 0) z G (TY 4 (Dr SB 2) z G (TY 5 (Dr SB 3) z G (TY 7 (Dr SB 0) z G (TY 8 (Dr SB 0) z G (TY 9 (Dr SB 2) z G (TY 10 (Dr SB 2) z G ?_)))))))))
  simp only[PS];refine EU (rs:=[6,11]) κ σ ?_;refine DA z (λL F=>?_) (DA z (λL F=>?_) EQ)
  focus
   generalize S:R.drew=y at E J⊢;clear S;have S:=E.r.y 3;have V:=E.r.y 4;go_simp;clear S V;refine F.j _ _ (⟨E.r.lt,E.m.q.2⟩) (λaT=>?_)
   try simp only[PS]
   refine RD 11 z (λL F=>?_);have S:=E.r.y 2;go_simp;clear S;refine F.j _ _ (⟨E.r.lt,E.m.q.2⟩) (λaH=>?_)
   try simp only[PS]
   have aX:=aH
  rotate_left
  focus
   generalize S:R.drew=y at E J⊢;clear S;have S:=E.r.y 2;go_simp;clear S;refine F.j _ _ (⟨E.r.lt,E.m.q.2⟩) (λaU=>?_)
   try simp only[PS]
   refine RD 6 z (λL F=>?_);have S:=E.r.y 3;have V:=E.r.y 4;go_simp;clear S V;refine F.j _ _ (⟨E.r.lt,E.m.q.2⟩) (λaI=>?_)
   try simp only[PS]
   have aX:=aI
  all_goals
   refine RD 12 z (λL F=>?_);have ly:=E.e.size;refine LM ρ 100 #[.agg #[Y q.a i.ss.length q.c,Y q.a' i.ws.length q.c'],Z i.w] γ (K.j _ (E.m.q.1.1 o (λ_ _=>z)).h1.own.strs (E.m.q.1.1 o (λ_ _=>z)).h2.own.wrs J) ?_;rintro r y1 ⟨⟨D,h,I,l,rfl,aK,own,g1,g2,H⟩,S⟩;have bB:=S _ _ _ _ z;refine⟨_,z,?_⟩;unfold MT;have lb:=H.size;replace E:=E.I H;clear H S K;refine F.j _ _ (⟨E.r.lt,E.m.q.2⟩) (λaV=>?_)
   try simp only[PS]
   refine RD 13 z (λL F=>?_);obtain⟨o1,ag,d,bC,aJ⟩:=zg (o:=o) (N:=w.heap.size) own (λg k=>by have:=g1 g k;omega) (λg k=>by have:=g2 g k;omega) h0 lS;refine LM ρ _ _ γ (O.j A D h I l o1 _ E.r (E.m.q.1.1 o1 ag) d bC aJ bB (E.m.map λW k=>k.1.2) hd aK) ?_;rintro r y2 ⟨rfl,q1,o2,x,W1,a1,S,V⟩;have aS:=LE V;clear V;refine⟨_,z,?_⟩;have lw:=E.e.size;have V:=OE E.e S;replace E:=E.put S x;clear O own;refine F.j _ _ (⟨E.r.lt,E.m.q.2⟩) (λaW=>?_)
   try simp only[PS]
   refine DN ?_;have W:=LE (AG E.r W1);have aR:=LE V;clear E W1 V x S;go_wp2;refine GN (v:=.tuple #[]) (by simp[results,results91]) z ⟨z,q1,o2,?_,?_,λp H=>(a1 p ω).E (ag p H),aR.j,by rw[M];exact aS.j⟩
   .rw[M];exact W.j.1
   .rw[M];exact W.j.2
 | true =>
  have M:i=aN:=by rw[N.j];exact(fh (by have:=T.j;omega) aM.j (.inl (by rw[<-U.j];rfl))).symm
  clear N;subst M;have p:=LE E;clear E K O;go_wp2;exact GN (v:=.tuple #[]) (by simp[results,results91]) z ⟨z,q,o,p.j.r,p.j.m.q.1.1 o (λ_ _=>z),λ_ _=>z,p.j.e,aQ.j⟩
theorem Ec(i:Wo)(q:Wp)(e:Ev)(a:Q5)(c:Nat)(j:Q5)(t SB:Nat)(m:Int)(o:Nat->Nat)(w:Q9)(S:Row w SB (UE m i q))(A:RY i w q o)(h0:o SB=0)(R:i.rs.length<=q.cs)(hf:DepF w (λp=>p≠SB) (λW=>Ints W j e.fs))(U:i.ok)(he:e.le)(N:e.K=3):Calls prog 93 #[Dr SB 0,OQ e a c j t] w λr w'=>r=Q2 (.tuple #[])/\fw w w' SB m o (i.doE e):=by
 have lS:=S.lt;have u:=U.le;have hd:(RM i.W i.S i.L i.T i.H i.F i.R i.U i.O i.rs).ok:=by have:=U.call e;unfold Wo.call at this;simpa[N] using this
 have C:=(dx S (A.all h0 lS)).add hf;have M:=LE (λD1 V b X h o' w' (T:Row w' SB (UE m i q)) h' h0' hs' hb' hbc hf' hd' hdc'=>xj i q e a c j t D1 V b X h SB m o' w' T h' h0' hs' hb' hbc hf' U hd' he ω R hdc');have aM:=LE R;unfold OQ MT at M;unfold OQ;have F:=LE (λw' v=>zU i.W i.S i.L i.T i.H i.F i.R i.U i.O q.s i.rs q.cs w' v R u.l3 u.s3);unfold NA at F;obtain⟨aL,L⟩:=nHz (i.doE e);rw[<-L.j];obtain⟨v,l⟩:=nHz (RM i.W i.S i.L i.T i.H i.F i.R i.U i.O i.rs);rw[<-l.j]at F hd;have x:Hid (i.call e=(v,i.up)):=LE (by rw[l.j];unfold Wo.call;simp[N]);have O:=LE N;clear S A hf u N;go_enter func93,ntmps93;go_upto_region 1 with fail;generalize u:w.alloc _=D;obtain⟨H,E,y⟩:=LP u;clear u;replace C:=(C.I H).add (WG y.q ω);clear y E;have E:=C.r.y 5;have G:=C.r.lt;have aV:=H.size
 obtain⟨u,Q⟩:=nHz i.up;rw[<-Q.j]at E
 cases u with
 | false =>
  have J:i=aL:=by rw[L.j];exact(fh (by have:=O.j;omega) x.j (.inl (by rw[<-Q.j]))).symm
  clear L;subst J;have y:=LE C;clear C F M;go_wp2;exact GN (v:=.tuple #[]) (by simp[results,results93]) z ⟨z,q,o,y.j.r,y.j.m.q.1.1 o (λ_ _=>z),λ_ _=>z,y.j.e,aM.j⟩
 | true =>
  have J:aL=i.setE e v:=by rw[L.j];exact mC (by have:=O.j;omega) (by have:=O.j;omega) (by rw[x.j,<-Q.j])
  go_upto_region 2 with fail;clear E G;replace C:=C.I (@AB D.heap.size D).drew;replace H:=H.drew;refine AN (S:=λw'=>SB<w'.heap.size/\Row w' w.heap.size [Z e.K,Y a e.b.length c,Z e.cut,Y j e.fs.length t]) κ (⟨C.r.lt,C.m.q.2⟩) (λE=>?_);refine TY 0 (Dr SB 0) z E (TK 1 (.agg #[Z e.K,Y a e.b.length c,Z e.cut,Y j e.fs.length t]) z (AT ⟨ρ,λw y=>by obtain⟨z0,I⟩:=y;exact SA 87 _ z _ 0 z _ _ I.range underlying87 z ZB⟩) E (TY 2 (Dr SB 0) z E (TY 3 (Dr SB 0) z E (TY 4 (Dr SB 2) z E (TY 5 (Dr SB 6) z E ?_)))));simp only[PS];refine RD 6 z (λd G=>?_);generalize K:D.drew=y at C H⊢;clear K;refine rJ z 44 _ z SB 6 z (sJ i.W i.S i.L i.T i.H i.F i.R i.U i.O (Y q.s i.rs.length q.cs)) _ (Row.rangeMid (pre:=[.int .i32 m,.int .u32 0,Z i.w,Y q.a i.ss.length q.c,Y q.a' i.ws.length q.c',Q1 i.up]) (cs:=(sJ i.W i.S i.L i.T i.H i.F i.R i.U i.O (Y q.s i.rs.length q.cs))) (post:=[Y q.p i.P.length q.cp,Y q.t i.ts.length q.ct]) C.r) underlying44 z QD ?_
  refine G.j _ _ (⟨C.r.lt,C.m.q.2⟩) (λaQ=>?_)
  try simp only[PS]
  refine RD 7 z (λd G=>?_);have ly:=C.e.size;refine LM ρ 132 #[.agg (sK i.W i.S i.L i.T i.H i.F i.R i.U i.O (Y q.s i.rs.length q.cs))] γ (F.j _ (C.m.q.1.1 o (λ_ _=>z)).h3.own.prs) ?_;rintro r y1 ⟨⟨V,b,X,h,rfl,aH,own,g1,g2,K⟩,f⟩;have aT:=f _ _ _ _ z;refine⟨_,z,?_⟩;unfold MT;have lb:=K.size;replace C:=C.I K;clear K f F;refine G.j _ _ (⟨C.r.lt,C.m.q.2⟩) (λaR=>?_)
  try simp only[PS]
  refine RD 8 z (λd G=>?_);obtain⟨o1,ag,I,aU,aG⟩:=zg (o:=o) (N:=w.heap.size) own (λg k=>by have:=g1 g k;omega) (λg k=>by have:=g2 g k;omega) h0 lS;refine LM ρ _ _ γ (M.j v V b X h o1 _ C.r (C.m.q.1.1 o1 ag) I aU aG aT (C.m.map λW k=>k.1.2) hd aH) ?_;rintro r y2 ⟨rfl,q1,o2,W,f,a1,F,K⟩;have aO:=LE K;clear K;refine⟨_,z,?_⟩;have lw:=C.e.size;have K:=OE C.e F;replace C:=C.put F W;clear M own;refine G.j _ _ (⟨C.r.lt,C.m.q.2⟩) (λaS=>?_)
  try simp only[PS]
  refine DN ?_;have M:=LE (AG C.r f);have aN:=LE K;clear C f K W F;go_wp2;refine GN (v:=.tuple #[]) (by simp[results,results93]) z ⟨z,q1,o2,?_,?_,λp K=>(a1 p ω).E (ag p K),aN.j,by rw[J];exact aO.j⟩
  .rw[J];exact M.j.1
  rw[J];exact M.j.2
theorem Jg(i:Wo)(q:Wp)(e:Ev)(a:Q5)(c:Nat)(j:Q5)(t SB:Nat)(m:Int)(o:Nat->Nat)(w:Q9)(S:Row w SB (UE m i q))(A:RY i w q o)(h0:o SB=0)(R:i.rs.length<=q.cs)(hf:DepF w (λp=>p≠SB) (λW=>Ints W j e.fs))(U:i.ok)(he:e.le)(N:e.K=4):Calls prog 94 #[Dr SB 0,OQ e a c j t] w λr w'=>r=Q2 (.tuple #[])/\fw w w' SB m o (i.doE e):=by
 have lS:=S.lt;have u:=U.le;have hd:(QL i.W i.S i.L i.T i.H i.F i.R i.U i.O i.rs).ok:=by have:=U.call e;unfold Wo.call at this;simpa[N] using this
 have C:=(dx S (A.all h0 lS)).add hf;have M:=LE (λD1 V b X h o' w' (T:Row w' SB (UE m i q)) h' h0' hs' hb' hbc hf' hd' hdc'=>xj i q e a c j t D1 V b X h SB m o' w' T h' h0' hs' hb' hbc hf' U hd' he ω R hdc');have aM:=LE R;unfold OQ MT at M;unfold OQ;have F:=LE (λw' v=>A7 i.W i.S i.L i.T i.H i.F i.R i.U i.O q.s i.rs q.cs w' v R u.l3 u.s3);unfold NA at F;obtain⟨aL,L⟩:=nHz (i.doE e);rw[<-L.j];obtain⟨v,l⟩:=nHz (QL i.W i.S i.L i.T i.H i.F i.R i.U i.O i.rs);rw[<-l.j]at F hd;have x:Hid (i.call e=(v,i.up)):=LE (by rw[l.j];unfold Wo.call;simp[N]);have O:=LE N;clear S A hf u N;go_enter func94,ntmps94;go_upto_region 1 with fail;generalize u:w.alloc _=D;obtain⟨H,E,y⟩:=LP u;clear u;replace C:=(C.I H).add (WG y.q ω);clear y E;have E:=C.r.y 5;have G:=C.r.lt;have aV:=H.size
 obtain⟨u,Q⟩:=nHz i.up;rw[<-Q.j]at E
 cases u with
 | false =>
  have J:i=aL:=by rw[L.j];exact(fh (by have:=O.j;omega) x.j (.inl (by rw[<-Q.j]))).symm
  clear L;subst J;have y:=LE C;clear C F M;go_wp2;exact GN (v:=.tuple #[]) (by simp[results,results94]) z ⟨z,q,o,y.j.r,y.j.m.q.1.1 o (λ_ _=>z),λ_ _=>z,y.j.e,aM.j⟩
 | true =>
  have J:aL=i.setE e v:=by rw[L.j];exact mC (by have:=O.j;omega) (by have:=O.j;omega) (by rw[x.j,<-Q.j])
  go_upto_region 2 with fail;clear E G;replace C:=C.I (@AB D.heap.size D).drew;replace H:=H.drew;refine AN (S:=λw'=>SB<w'.heap.size/\Row w' w.heap.size [Z e.K,Y a e.b.length c,Z e.cut,Y j e.fs.length t]) κ (⟨C.r.lt,C.m.q.2⟩) (λE=>?_);refine TY 0 (Dr SB 0) z E (TK 1 (.agg #[Z e.K,Y a e.b.length c,Z e.cut,Y j e.fs.length t]) z (AT ⟨ρ,λw y=>by obtain⟨z0,I⟩:=y;exact SA 87 _ z _ 0 z _ _ I.range underlying87 z ZB⟩) E (TY 2 (Dr SB 0) z E (TY 3 (Dr SB 0) z E (TY 4 (Dr SB 2) z E (TY 5 (Dr SB 6) z E ?_)))));simp only[PS];refine RD 6 z (λd G=>?_);generalize K:D.drew=y at C H⊢;clear K;refine rJ z 44 _ z SB 6 z (sJ i.W i.S i.L i.T i.H i.F i.R i.U i.O (Y q.s i.rs.length q.cs)) _ (Row.rangeMid (pre:=[.int .i32 m,.int .u32 0,Z i.w,Y q.a i.ss.length q.c,Y q.a' i.ws.length q.c',Q1 i.up]) (cs:=(sJ i.W i.S i.L i.T i.H i.F i.R i.U i.O (Y q.s i.rs.length q.cs))) (post:=[Y q.p i.P.length q.cp,Y q.t i.ts.length q.ct]) C.r) underlying44 z QD ?_
  refine G.j _ _ (⟨C.r.lt,C.m.q.2⟩) (λaQ=>?_)
  try simp only[PS]
  refine RD 7 z (λd G=>?_);have ly:=C.e.size;refine LM ρ 133 #[.agg (sK i.W i.S i.L i.T i.H i.F i.R i.U i.O (Y q.s i.rs.length q.cs))] γ (F.j _ (C.m.q.1.1 o (λ_ _=>z)).h3.own.prs) ?_;rintro r y1 ⟨⟨V,b,X,h,rfl,aH,own,g1,g2,K⟩,f⟩;have aT:=f _ _ _ _ z;refine⟨_,z,?_⟩;unfold MT;have lb:=K.size;replace C:=C.I K;clear K f F;refine G.j _ _ (⟨C.r.lt,C.m.q.2⟩) (λaR=>?_)
  try simp only[PS]
  refine RD 8 z (λd G=>?_);obtain⟨o1,ag,I,aU,aG⟩:=zg (o:=o) (N:=w.heap.size) own (λg k=>by have:=g1 g k;omega) (λg k=>by have:=g2 g k;omega) h0 lS;refine LM ρ _ _ γ (M.j v V b X h o1 _ C.r (C.m.q.1.1 o1 ag) I aU aG aT (C.m.map λW k=>k.1.2) hd aH) ?_;rintro r y2 ⟨rfl,q1,o2,W,f,a1,F,K⟩;have aO:=LE K;clear K;refine⟨_,z,?_⟩;have lw:=C.e.size;have K:=OE C.e F;replace C:=C.put F W;clear M own;refine G.j _ _ (⟨C.r.lt,C.m.q.2⟩) (λaS=>?_)
  try simp only[PS]
  refine DN ?_;have M:=LE (AG C.r f);have aN:=LE K;clear C f K W F;go_wp2;refine GN (v:=.tuple #[]) (by simp[results,results94]) z ⟨z,q1,o2,?_,?_,λp K=>(a1 p ω).E (ag p K),aN.j,by rw[J];exact aO.j⟩
  .rw[J];exact M.j.1
  rw[J];exact M.j.2
theorem Hs(t C:TypeId)(m:Nat)(e:TypeId)(i:TypeInfo)(f:Ra)(G:P.underlying t=some (.slice e))(E:P.info? e=some i)(N:i.zero=some f)(o:i.size=1)
  (v:Ra)(n:Nat)(xs:List Ra)(q:w.ownsRow m e 1 v n xs)(x:Ra)(u:Ra)(p:Src P 1 t x 1 [u] w)(L:(n+1)*i.bytes<=140737488355328)(M:n+1<=maxLen)
 {O:Ra}(F:(Builtin.append_ #[t,t] C #[v,x]).run P w=.ok O w'):∀b,v.ownBlock=some b->∀j,j<n->w'.cell? (Ki b j)=w.cell? (Ki b j):=by
 intro b D j A;rcases q.2 with ⟨rfl,Q⟩|⟨g,h,K,rfl,_,y,R,S,T,U⟩
 .cases D
 cases D
 replace p:Src P i.size t x 1 [u] w:=by rw[o];exact p
 by_cases H:n+1<=h
 .have l:=run_append_room_src (P:=P) w t t C e i G E g 0 n h x 1 [u] p H (λj A=>by simp at A;simp[World.cell?,y,o];omega) (λj A=>by simp[World.frozen?,y])
  rw[F]at l;injection l with _ r;rw[r];exact EE g [u] _ w (Ki g j) (λ_ _=>.inl (by show j<0+n*i.size;rw[o];omega))
 have I:(Builtin.firstCells i.size n (Y (Hw g 0) n h)).run P w.drew=.ok xs.toArray w.drew:=GI w.drew i.size n _ n h xs (by rw[o];exact q.1) (λk r l=>q.cells z k r l)
 have l:=run_append_grow_src (P:=P) w t t C e i f G E N (Hw g 0) n h xs I x 1 [u] p d (by unfold maxLen at M;omega) (growslice_fits d L);rw[F]at l;injection l with _ r;rw[r];have J:g<w.heap.size:=(AR.1 y).1;exact ES (w:=w.drew) _ g j J
theorem Nl(w:Q9){H:Array Oper}{o:Oper}{a:Act}{K:Act->Q9->Prop}{Q:Exit->Act->Q9->Prop}{E:Prop}(N:o.guard=none)(s x:Operand)(t:TypeId)
  (U:o.op=.call { callee:=.builtin .append,args:=#[s,x],argTypes:=#[t,t] })
  (l:Nat)(e:TypeId)(i:TypeInfo)(f:Ra)(r:P.underlying t=some (.slice e))(J:P.info? e=some i)(L:i.zero=some f)(A:i.size=1)(O:f.cells.size=1)
  (v:Ra)(n:Nat)(xs:List Ra)(V:a.eval s=v)(C:w.ownsRow l e 1 v n xs)
  (q:Addr)(c:Nat)(u:Ra)(p:a.eval x=Y (some q) 1 c)(W:w.cell? (q.add 0)=some u)(I:u.oneCell'=true)
  (D:n+1<=maxLen)(y:(n+1)*i.bytes<=140737488355328)(M:l<=w.heap.size)
  (h:∀g m w',w'.ownsRow l e 1 (Y (Hw g 0) (n+1) m) (n+1) (xs++[u])->w.grownBy w' v.ownBlock->(v.ownBlock=some g\/g=w.heap.size)->(∀b,v.ownBlock=some b->∀j,j<n->w'.cell? (Ki b j)=w.cell? (Ki b j))->K (a.put o.dst (Y (Hw g 0) (n+1) m)) w'):if Region.wanted o (yielded H a.tmps)=true then Oper.wp P o a w K Q else E:=by
 have X:Region.wanted o (yielded H a.tmps)=true:=by simp[Region.wanted,N]
 rw[AI X]
 have F:∀j m,[u][j]?=some m->w.cell? (q.add j)=some m:=λj m b=>by
  match j,b with
  | 0,b=>cases b;exact W
 obtain⟨g,m,w',b,j,R,S,G⟩:=run_append_lies (P:=P) w t o.type l e i f 1 i.bytes r J L A z O d v n xs C q 1 c [u] z F (λx p=>by simp at p;rw[p];exact I) d D y M _ z;have T:=Hs t o.type l e i f r J L A v n xs C _ u (Src.ofSlice w r q 1 c [u] z F (λx p=>by simp at p;rw[p];exact I)) y D b;unfold Oper.wp execOp;simp only[U,resolve,invoke,builtin,IF,IZ,IE,List.map_toArray,FY,JN,V,p,b];exact h g m w' j R S T
structure HpPost(w w':Q9)(SB:Nat)(l:Int)(o:Nat->Nat)(y:Wo)(q:Wp)(o':Nat->Nat):Prop where
 r:Row w' SB (UE l y q)
 h:RY y w' q o'
 ag:∀b,b<w.heap.size->o' b=o b
 os:w'.os=w.os
 tape:w'.tape=w.tape
 output:w'.output=w.output
 size:w.heap.size<=w'.heap.size
 block:∀b,b<w.heap.size->b≠SB->o b=0->w'.heap[b]?=w.heap[b]?
 cap:y.rs.length<=q.cs
theorem mj{l:Int}{o:Nat->Nat}{y:Wo}(h:fw w w' SB l o y):∃q f,HpPost w w' SB l o y q f:=by
 obtain⟨q,f,i,j,m,d,t⟩:=h;exact⟨q,f,i,j,m,d.os,d.tape,d.output,d.size,λb p r _=>d.block b p (λe=>r (by injection e)),t⟩
theorem Hb{o:Nat->Nat}{p:Q5}{P:List (List Pr)}{y v:Nat}{f:List Ra}{l:List Pr}(h:bk w o p P)(Q:0<P.length)(own:w.ownsRow lo 42 1 (Y p P.length y) P.length f)
  (O:OwL w o (7+P.length) a (LS l))(t:w'.ownsRow lo 42 1 (Y (Hw g 0) (P.length+1) v) (P.length+1) (f++[Y a l.length c]))(G:w.grownBy w' (Y p P.length y).ownBlock)
  (N:o g=5)(I:∀b,(Y p P.length y).ownBlock=some b->∀j,j<P.length->w'.cell? (Ki b j)=w.cell? (Ki b j)):Only o (λk=>k=5) w w'/\bk w' o p P/\bk w' o (Hw g 0) (P++[l]):=by
 obtain⟨b,rfl,M,E,F⟩:=h.resolve_left d;have m:Only o (λk=>k=5) w w':=pu G (λx e=>by cases e;exact E);refine⟨m,.inr ⟨b,z,AC M G.size,E,λi q=>?_⟩,.inr ⟨g,z,(UA t).lt,N,λi q=>?_⟩⟩
 .obtain⟨r,j,A,C⟩:=F i q
  exact⟨r,j,(I b z i q).E A,C.only m d⟩
 have J:f.length=P.length:=by rw[own.1,JX]
 by_cases D:i<P.length
 .obtain⟨r,j,A,C⟩:=F i D
  have x:(P++[l]).getD i []=P.getD i []:=by simp[List.getD,BO D]
  simp only[x];obtain⟨u,H⟩:∃u,f[i]?=some u:=⟨_,AO d⟩;have L:=(UA own).cell i u H;have K:u=Y r (P.getD i []).length j:=BQ (L.symm.E A);exact⟨r,j,(UA t).cell i _ (by rw[BO d,H,K]),C.only m d⟩
 obtain rfl:i=P.length:=by simp at q;omega
 have x:(P++[l]).getD P.length []=l:=by simp[List.getD]
 simp only[x];exact⟨a,c,(UA t).cell P.length _ (by rw[DY d,J];simp),O.only m d⟩
theorem YA(h:OwnS w a cs)(d:n≠0->cs≠[])(k:blk a n=some g):g<w.heap.size:=by
 by_cases b:n=0
 .rw[b]at k;simp[blk]at k
 obtain⟨i,rfl,f⟩:=h.resolve_left (d b)
 rw[kp k];exact f.lt
theorem aj{v:Ra}{F:Nat->Prop}(h:w.ownsRow lo e s v n xs)(hF:∀b,v.ownBlock=some b->F b):DepF w F (λW=>W.ownsRow lo e s v n xs) :=⟨h,λw' p o=>by
  refine⟨h.1,h.2.imp_right λ⟨g,d,f,j,l,i,m⟩=>?_⟩;subst j
  exact⟨g,d,f,z,l,(o g (hF g z) (AR.1 i).1).E i,m⟩⟩
theorem Ox(i:Wo)(q:Wp)(e:Ev)(a:Q5)(c:Nat)(f:Q5)(j SB:Nat)(l:Int)(o:Nat->Nat)(w:Q9)(v:Row w SB (UE l i q))(h:RY i w q o)(F:o SB=0)(K:DepF w (λb=>b≠SB) (λW=>Ints W f e.fs))(L:i.ok)(J:e.le)(H:e.K=5):Calls prog 95 #[Dr SB 0,OQ e a c f j] w λr w'=>r=Q2 (.tuple #[])/\fw w w' SB l o (i.doE e):=by
 have S:=v.lt;have y:i.doE e=i.pow e.fs:=by unfold Wo.doE;rw[G H]
 rw[y];unfold OQ;have p:=(dx v (h.depF F)).add K;have u:=LE (λw' m t A=>wW i q f e.fs j SB l o w' m t F A L.le J.f);obtain⟨m,t⟩:=x (i.pow e.fs);rw[<-t.j]at u⊢;clear v h K y H L J t;go_enter func95,ntmps95;go_upto_region 1 with fail;generalize y:w.alloc _=T;obtain⟨E,Q,t⟩:=LP y;clear y;replace p:=p.I E;have y:=t.q.y 3;have A:=t.q.lt;have R:=E.size;go_wp2_with fail;clear y A t;refine(u.j _ p.r p.m.q.1 p.m.q.2).J ?_;rintro r U ⟨rfl,O,N,C,D,M,y,A⟩;have t:=LE (I C (I D (I (OE p.e y) A)));clear C D y A p u;go_wp2;exact GN (v:=.tuple #[]) (by simp[results,results95]) z ⟨z,O,N,t.j.1,t.j.2.1,λb p=>M b d,t.j.2.2.1,t.j.2.2.2⟩
theorem Hv{x:Wo}{e:Ev}{D:Dd}(j:e.K=2)(f:x.call e=(D,true)):x.doE e=x.runE e D:=by
 by_cases h:D.C≠0\/200<(PQ x e D).length\/2000<(SC x e D).length
 .have i:x.runE e D=x:=by unfold Wo.runE;rw[G h]
  rw[i]
  by_cases b:D.C=0
  .exact nI d f b d
  exact fh d f (.inr b)
 have b:D.C=0:=d
 unfold Wo.runE;rw[A h]
 cases hb:TC e D with
 | true=>exact oV d f b d hb
 | false=>exact Av d f b d hb j
theorem Ga(i:Wo)(q:Wp)(e:Ev)(a:Q5)(c:Nat)(C:Q5)(E SB:Nat)(v:Int)(o:Nat->Nat)(w:Q9)(hR:Row w SB (UE v i q))(y:RY i w q o)(h0:o SB=0)(aV:i.rs.length<=q.cs)(lo:Nat)(j:List Ra)(bI:w.ownsRow lo 42 1 (Y q.p i.P.length q.cp) i.P.length j)(cW:0<i.P.length)(cZ:lo<=w.heap.size)(hf:DepF w (λt=>t≠SB/\o t=0) (λW=>Ints W C e.fs))(bU:Chs w a e.b)(ho:i.ok)(he:e.le)(hK:e.K=2):Calls prog 92 #[Dr SB 0,OQ e a c C E] w λr w'=>r=Q2 (.tuple #[])/\∃m K,HpPost w w' SB v o (i.doE e) m K:=by
 have lS:=hR.lt;have F:=ho.le;have hd:(QV i.W i.S i.L i.T i.H i.F i.R i.U i.O i.rs e.b).ok:=by have:=ho.call e;unfold Wo.call at this;simpa[hK] using this
 have bH:∀t,(Y q.p i.P.length q.cp).ownBlock=some t->o t=5:=λt k=>by obtain⟨b',e',_,h5,_⟩:=y.h4.resolve_left d;rw[e']at k;cases k;exact h5
 have bT:∀t,(Y q.p i.P.length q.cp).ownBlock=some t->t<w.heap.size:=λt k=>(bI.lt t k).2
 have M:DepF w (λt=>t≠SB) (λW=>W.ownsRow lo 42 1 (Y q.p i.P.length q.cp) i.P.length j):=aj bI (λt k e=>by have:=bH t k;rw[e]at this;omega);have L:=((dx hR (y.all h0 lS)).add (hf.J (λt _ k=>k.1))).add M;have G:=LE (λw' D x=>Bm i.W i.S i.L i.T i.H i.F i.R i.U i.O q.s i.rs q.cs a e.b c w' D aV F.l3 F.s3 x he.b.1 he.b.2);unfold NA at G;obtain⟨bP,J⟩:=nHz (i.doE e);rw[<-J.j];obtain⟨m,Q⟩:=nHz (QV i.W i.S i.L i.T i.H i.F i.R i.U i.O i.rs e.b);rw[<-Q.j]at G hd;have T:Hid (i.call e=(m,i.up)):=LE (by rw[Q.j];unfold Wo.call;simp[hK]);have N:PQ i e m=i.P++[m.rs]:=AI hK;have CR:=LE (λR V U I p cp K w' (hR':Row w' SB (UE v i q)) h' h0' hp' hs' hb' hbc hf' hdc'=>zT i q e a c C E m R V U I p cp SB v K w' hR' h' h0' hp' hs' hb' hbc hf' ho hd he aV hdc');have cJ:=LE aV;rw[N,show(i.P++[m.rs]).length=i.P.length+1 by simp]at CR
 unfold OQ MT at CR;unfold OQ;have dF:=(XO hd.1).1;have dB:=ho.p.1;have HK:=LE hK;have HF:=LE hf;have HB:=LE bU;have HH:=LE y;clear hR y hf F hK bU bI M N ho he aV;obtain⟨i1,F,K,M,N⟩:=aq ub;have HJ:=LE (AG F (AG K (AG M N)));clear F K M N;go_enter func92,ntmps92;go_upto_region 1 with fail;generalize F:w.alloc _=v1;obtain⟨N,M,K⟩:=LP F;clear F;replace L:=(L.I N).add (WG K.q d);clear K M;have O:=L.r.y 5;have W:=L.r.lt;have cY:=N.size;obtain⟨F,K⟩:=nHz i.up;rw[<-K.j]at O
 cases F with
 | false =>
  have M:i=bP:=by rw[J.j];exact(fh (by have:=HK.j;omega) T.j (.inl (by rw[<-K.j]))).symm
  clear J;subst M;have S:=LE L;clear L G CR;go_wp2;exact AE (v:=.tuple #[]) (by simp[results,results92]) z ⟨z,mj ⟨q,o,S.j.r,S.j.m.q.1.1.1 o (λ_ _=>z),λ_ _=>z,S.j.e,cJ.j⟩⟩
 | true =>
  have M:bP=i.runE e m:=by rw[J.j];exact Hv HK.j (by rw[T.j,<-K.j])
  rw[<-M]at CR;clear M J T K Q;go_upto_region 2 with fail;clear O W;replace L:=L.I (@AB v1.heap.size v1).drew;replace N:=N.drew;refine WN (9) (S:=λw'=>Row w' SB (UE v i q)/\Row w' w.heap.size [Z e.K,Y a e.b.length c,Z e.cut,Y C e.fs.length E]) κ (⟨L.r,L.m.q.2⟩) (λQ=>?_);refine OK 0 (Dr SB 0) z Q (OK 1 (Dr SB 0) z Q (ME 2 (Dr SB 2) z (b ⟨f,λw O=>by obtain⟨X,H⟩:=O;have v:=X.lt;go_simp⟩) Q (ME 3 (Dr SB 6) z (b ⟨f,λw O=>by obtain⟨X,H⟩:=O;have v:=X.lt;go_simp⟩) Q (ME 4 (.agg (sK i.W i.S i.L i.T i.H i.F i.R i.U i.O (Y q.s i.rs.length q.cs))) z (b ⟨f,λw O=>by obtain⟨X,H⟩:=O;exact SA 44 _ z _ 6 z (sJ i.W i.S i.L i.T i.H i.F i.R i.U i.O (Y q.s i.rs.length q.cs)) _ (Row.rangeMid (pre:=[.int .i32 v,.int .u32 0,Z i.w,Y q.a i.ss.length q.c,Y q.a' i.ws.length q.c',Q1 i.up]) (cs:=(sJ i.W i.S i.L i.T i.H i.F i.R i.U i.O (Y q.s i.rs.length q.cs))) (post:=[Y q.p i.P.length q.cp,Y q.t i.ts.length q.ct]) X) underlying44 z QD⟩) Q (ME 5 (Dr w.heap.size 1) z (b ⟨f,λw O=>by obtain⟨X,H⟩:=O;have v:=H.lt;go_simp⟩) Q (ME 6 (Y a e.b.length c) z (b ⟨f,λw O=>by obtain⟨X,H⟩:=O;have c1:=H.y 1;go_simp⟩) Q ?_))))))
  simp only[PS];refine QZ (rs:=[7,8]) κ σ ?_;refine AllReadyT.cons z (λT M=>?_) (AllReadyT.cons z (λT M=>?_) AllReadyT.nil)
  focus
   generalize J:v1.drew=y0 at L N⊢;clear J;have ly:=L.e.size;refine LM f 131 #[.agg (sK i.W i.S i.L i.T i.H i.F i.R i.U i.O (Y q.s i.rs.length q.cs)),Y a e.b.length c] γ (G.j _ (L.m.q.1.1.1 o (λ_ _=>z)).h3.own.prs (HB.j.I N)) ?_;rintro r y1 ⟨⟨R,V,U,I,rfl,aR,own,J,l,K⟩,hI⟩;have cA:=hI _ _ _ _ z;refine⟨_,z,?_⟩;unfold MT;have lb:=K.size;replace L:=L.I K;replace N:=N.E (K.J N.size);have dO:=vj own J l
   have gA:∀g,blk R m.rs.length=some g->w.heap.size<=g:=λg k=>by have:=J g k;omega
   have gB:∀g,blk U m.ops.length=some g->w.heap.size<=g:=λg k=>by have:=l g k;omega
   have bZ:=own.ne;clear K hI own;refine M.j _ _ (⟨L.r,L.m.q.2⟩) (λbE=>?_)
   try simp only[PS]
   refine OJ 8 z (λT M=>?_);go_simp;obtain⟨y2,aL⟩:=u (y1.alloc (.cells (dK 0 0 0 0 0 0 0 0 0 0 (Y none 0 0) (Y none 0 0)) 115));have K:=LH y1 (.cells (dK 0 0 0 0 0 0 0 0 0 0 (Y none 0 0) (Y none 0 0)) 115);have W:=LZ y1 (dK 0 0 0 0 0 0 0 0 0 0 (Y none 0 0) (Y none 0 0)) 115;rw[<-aL]at K W⊢;obtain⟨S,aH⟩:=u y1.heap.size;rw[<-aH]at W⊢;have cO:SB<S/\w.heap.size<S:=by have:=L.r.lt;have:=L.m.q.2.lt;omega
   have mN:=((L.m.and (gd dO (λt D _=>d))).J (G:=λt=>t≠SB/\t≠S) (λt K k=>⟨k,d⟩)).I K;replace L:=L.I K;replace N:=N.E (K.J N.size);have h:S<y2.heap.size:=W.lt;clear aL aH K J l dO;refine M.j _ _ (⟨L.r,L.m.q.2⟩) (λaN=>?_)
   try simp only[PS]
   have cP:=h;clear h;have aU:=aN
  rotate_left
  focus
   generalize J:v1.drew=y0 at L N⊢;clear J;go_simp;obtain⟨y1,aL⟩:=u (y0.alloc (.cells (dK 0 0 0 0 0 0 0 0 0 0 (Y none 0 0) (Y none 0 0)) 115));have K:=LH y0 (.cells (dK 0 0 0 0 0 0 0 0 0 0 (Y none 0 0) (Y none 0 0)) 115);have W:=LZ y0 (dK 0 0 0 0 0 0 0 0 0 0 (Y none 0 0) (Y none 0 0)) 115;rw[<-aL]at K W⊢;obtain⟨S,aH⟩:=u y0.heap.size;rw[<-aH]at W⊢;have cO:SB<S/\w.heap.size<S:=by have:=L.r.lt;have:=L.m.q.2.lt;omega
   have cX:=(L.m.J (G:=λt=>t≠SB/\t≠S) (λt K k=>⟨k,d⟩)).I K;replace L:=L.I K;replace N:=N.E (K.J N.size);have h:S<y1.heap.size:=W.lt;clear aL aH K;refine M.j _ _ (⟨L.r,L.m.q.2⟩) (λaO=>?_)
   try simp only[PS]
   refine OJ 7 z (λT M=>?_);have ly:=L.e.size;refine LM f 131 #[.agg (sK i.W i.S i.L i.T i.H i.F i.R i.U i.O (Y q.s i.rs.length q.cs)),Y a e.b.length c] γ (G.j _ (L.m.q.1.1.1 o (λ_ _=>z)).h3.own.prs (HB.j.I N)) ?_;rintro r y2 ⟨⟨R,V,U,I,rfl,aR,own,J,l,K⟩,hI⟩;have cA:=hI _ _ _ _ z;refine⟨_,z,?_⟩;unfold MT;have lb:=K.size;replace L:=L.I K;replace N:=N.E (K.J N.size);have dO:=vj own J l
   have gA:∀g,blk R m.rs.length=some g->w.heap.size<=g:=λg k=>by have:=J g k;omega
   have gB:∀g,blk U m.ops.length=some g->w.heap.size<=g:=λg k=>by have:=l g k;omega
   have bZ:=own.ne;replace W:=W.I K;have mN:=(cX.I K).and (gd dO (λt D _=>⟨d,d⟩));have h:S<y2.heap.size:=W.lt;clear K hI own J l dO;refine M.j _ _ (⟨L.r,L.m.q.2⟩) (λaP=>?_)
   try simp only[PS]
   have cP:=h;clear h;have aU:=aP
  all_goals
   refine QZ (rs:=[9]) κ σ ?_;refine AllReadyT.last z (λT M=>?_);refine VC z 115 _ _ z S 0 (dK m.C m.W m.S m.L m.T m.H m.F m.R m.U m.O (Y R m.rs.length V) (Y U m.ops.length I)) z z (W.there z) UH κ ?_;refine M.j _ _ trivial (λ_=>?_)
   try simp only[PS]
   refine VE κ ?_ _;have K:=QF y2 S 0 (dJ m.C m.W m.S m.L m.T m.H m.F m.R m.U m.O (Y R m.rs.length V) (Y U m.ops.length I));have aJ:=W.sets (dJ m.C m.W m.S m.L m.T m.H m.F m.R m.U m.O (Y R m.rs.length V) (Y U m.ops.length I)) z;have J:Sc w (y2.setCells S 0 (dJ m.C m.W m.S m.L m.T m.H m.F m.R m.U m.O (Y R m.rs.length V) (Y U m.ops.length I))) SB (UE v i q) _:=⟨⟨K.os.E L.e.os,K.tape.E L.e.tape,K.output.E L.e.output,AJ L.e.size K.size,λt D x=>(K.block t (by have:=L.e.size;omega) (λe=>by injection e;omega)).E (L.e.block t D x)⟩,L.r.V K (λe=>by injection e;omega),(mN.V K (λg e k=>by cases e;exact k.2 z)).J (λt _ k=>k.1)⟩;replace J:=J.add (WG aJ d);have l3:=K.size;generalize l:World.setCells _ _ _ _=y3 at J l3⊢;clear l L mN W aJ K N G HB;go_upto_region 3 with fail
   replace J:=J.I (@AB y3.heap.size y3).drew;refine AN (S:=λw'=>SB<w'.heap.size/\Row w' w.heap.size [Z e.K,Y a e.b.length c,Z e.cut,Y C e.fs.length E]/\Row w' S (dJ m.C m.W m.S m.L m.T m.H m.F m.R m.U m.O (Y R m.rs.length V) (Y U m.ops.length I))) κ (⟨J.r.lt,J.m.q.1.1.2,J.m.q.2⟩) (λQ=>?_);refine TY 0 (Dr SB 0) z Q (TK 1 (.agg #[Z e.K,Y a e.b.length c,Z e.cut,Y C e.fs.length E]) z (b ⟨f,λw O=>by obtain⟨X,H,z2⟩:=O;exact SA 87 _ z _ 0 z _ _ H.range underlying87 z ZB⟩) Q (TK 2 (.agg (dK m.C m.W m.S m.L m.T m.H m.F m.R m.U m.O (Y R m.rs.length V) (Y U m.ops.length I))) z (b ⟨f,λw O=>by obtain⟨X,H,z2⟩:=O;exact SA 115 _ z _ 0 z _ _ z2.range underlying115 z UH⟩) Q (TY 3 (Dr SB 0) z Q (TY 4 (Dr SB 0) z Q (TY 5 (Dr SB 2) z Q (TY 6 (Dr SB 16) z Q (TK 8 (Dr S 1) z (b ⟨f,λw O=>by obtain⟨X,H,z2⟩:=O;have v:=z2.lt;go_simp⟩) Q (TK 9 (Dr S 10) z (b ⟨f,λw O=>by obtain⟨X,H,z2⟩:=O;have v:=z2.lt;go_simp⟩) Q (TK 10 (.agg #[Y R m.rs.length V]) z (b ⟨f,λw O=>by obtain⟨X,H,z2⟩:=O;have c10:=z2.y 10;go_simp⟩) Q ?_)))))))))
   simp only[PS];refine EU (rs:=[7,11]) κ σ ?_;refine DA z (λT M=>?_) (DA z (λT M=>?_) EQ)
   focus
    generalize K:y3.drew=u0 at J⊢;clear K;have c16:=J.r.y 16;go_simp;clear c16;refine M.j _ _ (⟨J.r.lt,J.m.q.1.1.2,J.m.q.2⟩) (λbE=>?_)
    try simp only[PS]
    refine RD 11 z (λT M=>?_);refine LM f _ _ γ (gu R m.rs V _ J.m.q.1.2.s.prs d) ?_;rintro r u1 ⟨L,O,rfl,cV,N,g5,K⟩;refine⟨_,z,?_⟩;unfold LX;have lu:=J.e.size;have G:=XS N TS g5 (SB:=SB) d
    have g6:=λg k=>YA (g:=g) N jg k
    have gO:=λg k=>YA (g:=g) J.m.q.1.2.s jg k
    have gP:=λg k=>YA (g:=g) J.m.q.1.2.p xY k
    have lb:=K.size;replace J:=J.I K;clear K N;refine M.j _ _ (⟨J.r.lt,J.m.q.1.1.2,J.m.q.2⟩) (λaN=>?_)
    try simp only[PS]
    refine RD 12 z (λT M=>?_);go_simp;obtain⟨u2,W⟩:=u (u1.alloc (.cells #[Y L m.rs.length O] 42));have K:=LH u1 (.cells #[Y L m.rs.length O] 42);have l:=LZ u1 #[Y L m.rs.length O] 42;rw[<-W]at K l⊢;obtain⟨GB,N⟩:=u u1.heap.size;rw[<-N]at l⊢;replace J:=J.I K;replace G:=G.I K;have cI:u1.heap.size<=u2.heap.size:=K.size;clear W N K;refine M.j _ _ (⟨J.r.lt,J.m.q.1.1.2,J.m.q.2⟩) (λaO=>?_)
    try simp only[PS]
    have aU:=aO
   rotate_left
   focus
    generalize K:y3.drew=u0 at J⊢;clear K;refine LM f _ _ γ (gu R m.rs V _ J.m.q.1.2.s.prs d) ?_;rintro r u1 ⟨L,O,rfl,cV,N,g5,K⟩;refine⟨_,z,?_⟩;unfold LX;have lu:=J.e.size;have G:=XS N TS g5 (SB:=SB) d
    have g6:=λg k=>YA (g:=g) N jg k
    have gO:=λg k=>YA (g:=g) J.m.q.1.2.s jg k
    have gP:=λg k=>YA (g:=g) J.m.q.1.2.p xY k
    have lb:=K.size;replace J:=J.I K;clear K N;refine M.j _ _ (⟨J.r.lt,J.m.q.1.1.2,J.m.q.2⟩) (λaP=>?_)
    try simp only[PS]
    refine EU (rs:=[7,12]) κ σ ?_;refine DA z (λT M=>?_) (DA z (λT M=>?_) EQ)
    focus
     have c16:=J.r.y 16;go_simp;clear c16;refine M.j _ _ (⟨J.r.lt,J.m.q.1.1.2,J.m.q.2⟩) (λcQ=>?_)
     try simp only[PS]
     refine RD 12 z (λT M=>?_);go_simp;obtain⟨u2,W⟩:=u (u1.alloc (.cells #[Y L m.rs.length O] 42));have K:=LH u1 (.cells #[Y L m.rs.length O] 42);have l:=LZ u1 #[Y L m.rs.length O] 42;rw[<-W]at K l⊢;obtain⟨GB,N⟩:=u u1.heap.size;rw[<-N]at l⊢;replace J:=J.I K;replace G:=G.I K;have cI:u1.heap.size<=u2.heap.size:=K.size;clear W N K;refine M.j _ _ (⟨J.r.lt,J.m.q.1.1.2,J.m.q.2⟩) (λbF=>?_)
     try simp only[PS]
     have aU:=bF
    rotate_left
    focus
     go_simp;obtain⟨u2,W⟩:=u (u1.alloc (.cells #[Y L m.rs.length O] 42));have K:=LH u1 (.cells #[Y L m.rs.length O] 42);have l:=LZ u1 #[Y L m.rs.length O] 42;rw[<-W]at K l⊢;obtain⟨GB,N⟩:=u u1.heap.size;rw[<-N]at l⊢;replace J:=J.I K;replace G:=G.I K;have cI:u1.heap.size<=u2.heap.size:=K.size;clear W N K;refine M.j _ _ (⟨J.r.lt,J.m.q.1.1.2,J.m.q.2⟩) (λcS=>?_)
     try simp only[PS]
     refine RD 7 z (λT M=>?_);have c16:=J.r.y 16;go_simp;clear c16;refine M.j _ _ (⟨J.r.lt,J.m.q.1.1.2,J.m.q.2⟩) (λbG=>?_)
     try simp only[PS]
     have aU:=bG
   all_goals
    refine RD 13 z (λT M=>?_);refine Nl _ z _ _ 45 z lo 42 i1 (.agg #[Y none 0 0]) underlying45 HJ.j.1 HJ.j.2.1 HJ.j.2.2.1 z (Y q.p i.P.length q.cp) i.P.length j z J.m.q.1.1.1.2 (Ki GB 0) 1 (Y L m.rs.length O) z (by rw[gx];exact l.y 0) z (by unfold maxLen;omega) (by rw[HJ.j.2.2.2];omega) (by have:=J.e.size;omega) ?_;intro g9 aY u3 aT W aQ aS;obtain⟨h,aK⟩:=nHz (λt=>if t<w.heap.size then o t else if blk L m.rs.length=some t then 7+i.P.length else if blk R m.rs.length=some t then 3 else if blk U m.ops.length=some t then 6 else if t=u2.heap.size then 5 else 0)
    have ag:∀t,t<w.heap.size->h t=o t:=λt K=>by rw[aK.j];exact AI K
    have z3:h SB=0:=(ag SB lS).E h0;have dH:=J.e.size;have W2:=J.m.q.1.1.1.1.1 h ag;have cC:OwL u2 h (7+i.P.length) L (LS m.rs):=VQ G.q TS g5 (λg k=>by have:=g5 g k;rw[aK.j];simp only[];rw[A d,AI k]);have A2:OwL u2 h 3 R (LS m.rs):=VQ J.m.q.1.2.s TS gA (λg k=>by have D:=gA g k;have x:=gO g k;rw[aK.j];simp only[];rw[A d,A (λe=>by have:=g5 g e;omega),AI k])
    have B2:OwL u2 h 6 U (LG m.ops):=VQ J.m.q.1.2.p qy gB (λg k=>by have D:=gB g k;have x:=gP g k;rw[aK.j];simp only[];rw[A d,A (λe=>by have:=g5 g e;omega),A (λe=>by rcases bZ with y|y|y;rw[y]at e;cases e;rw[y]at k;cases k;exact y (e.E k.symm)),AI k])
    have bY:h g9=5:=by
     rcases aQ with k|k
     .obtain⟨b',e',_,h5,_⟩:=W2.h4.resolve_left d
      rw[e']at k
      cases k
      exact h5
     rw[k,aK.j]
     simp only[];rw[A d,A (λe=>by have:=g6 _ e;omega),A (λe=>by have:=gO _ e;omega),A (λe=>by have:=gP _ e;omega)];simp
    obtain⟨O3,P3,PN⟩:=Hb W2.h4 cW J.m.q.1.1.1.2 cC aT W bY aS;have W3:RY i u3 q h:=⟨W2.h1.only O3 d,W2.h2.only O3 d,W2.h3.only O3 d,P3,W2.h5.only O3 d⟩;have A3:=A2.only O3 d;have B3:=B2.only O3 d;have R3:=J.r.V W (λe=>by have:=bH SB e.symm;omega);have aW:=J.m.q.1.1.2.V W (λe=>by have:=bT _ e.symm;omega);have aJ:=J.m.q.2.V W (λe=>by have:=bT _ e.symm;omega)
    have bW:∀t,t<w.heap.size->t≠SB->o t=0->u3.heap[t]?=w.heap[t]?:=λt D x h3=>(W.block t d (λe=>by have:=bH t e.symm;omega)).E (J.e.block t D (λe=>x (by injection e)))
    have N:Below 0 w u3:=⟨W.os.E J.e.os,W.tape.E J.e.tape,W.output.E J.e.output,AJ J.e.size W.size,λt K=>d⟩;have I3:=(HF.j.step N (λt k1 k2=>bW t k2 k1.1 k1.2)).J (G:=λt=>t≠SB) (λt _ k=>k.1);clear W2 cC A2 B2 aQ aT W aS J G l bY O3 P3;refine M.j _ _ (⟨R3.lt,aW,aJ⟩) (λcT=>?_)
    try simp only[PS]
    refine RD 14 z (λT M=>?_);refine LM f _ _ γ (CR.j R V U I _ aY h u3 R3 W3 z3 PN A3 B3 cA I3 aR) ?_;rintro r u4 ⟨rfl,q4,o4,W,G,a4,J,l⟩;have cN:=LE l;clear l;refine⟨_,z,?_⟩;replace aW:=aW.V J (λe=>by injection e;omega);replace aJ:=aJ.V J (λe=>by injection e;omega);refine M.j _ _ (⟨W.lt,aW,aJ⟩) (λbR=>?_)
    try simp only[PS]
    refine DN ?_;have l:=LE (AG W G);have cM:=LE J;have cL:=LE N;clear W G J N W3 R3 CR PN A3 B3 I3;go_wp2;have J:=cM.j;have N:=cL.j;exact GN (v:=.tuple #[]) (by simp[results,results92]) z ⟨z,q4,o4,l.j.1,l.j.2,λt K=>(a4 t (by have:=N.size;omega)).E (ag t K),J.os.E N.os,J.tape.E N.tape,J.output.E N.output,AJ N.size J.size,λt D x h3=>(J.block t (by have:=N.size;omega) (λe=>x (by injection e))).E (bW t D x h3),cN.j⟩
end
section
open Tryz
open Go.RowKit Go.MuLone
theorem Km(k:Nat)(x y:Wo)(q:Wp)(e:Ev)(a:Q5)(c:Nat)(f:Q5)(g h:Nat)(o:Nat->Nat)(w:Q9)(n:Row w h (UE 0 x q))(F:o h=0)(K:∀b v,Sem.run prog (callFunc k b) v=.ok (.enter k b) v)
  (p:∀b,Row b h (UE 1 x q)->w.grownBy b (some h)->Calls prog k #[Dr h 0,OQ e a c f g] b (λr m=>r=Q2 (.tuple #[])/\∃l i,HpPost b m h 1 o y l i)):Calls prog 96 #[Dr h 0,.func (.func k) #[] #[],OQ e a c f g] w λr b=>r=Q2 (.tuple #[])/\∃l i,HpPost w b h 0 o y l i:=by
 have I:=n.lt;have i:=dx (M:=λ_=>True) n (XP (λ_=>trivial));have l:=LE p;clear n p;unfold OQ at l⊢;go_enter_defers func96,ntmps96;go_upto_region 1 with fail;generalize b:w.alloc _=M;obtain⟨s,r,m⟩:=LP b;clear b;replace i:=(i.I s).add (WG m.q d);clear m r;have t:=i.r.y 0;have u:=i.r.A 0;have v:=i.r.lt;have L:=s.size;go_wp2_with (go_at_call 139;refine(lock_free yT (Ki h 0) _ t u).J ?_;rintro r J ⟨rfl,m⟩;have b:=i.set 0 j (.int .i32 1);rw[<-m]at b;have A:=b.m.q.2.y 0;have B:=b.m.q.2.y 1;have C:=b.m.q.2.y 2;have D:=b.m.q.2.y 3;have E:=b.m.q.2.lt;clear m i t u v);clear A B C D E;refine(l.j J b.r b.e).J ?_;rintro r C ⟨rfl,B,A,m⟩;have i:=LE m;have t:=LE b.e;clear m b l;go_wp2;refine leaves_cons (f:=140) (args:=#[Dr h 0]) j (by simp[go_sem]) ?_
 refine(unlock_deferred yT (Ki h 0) .returning _ (i.j.r.y 0) (i.j.r.A 0)).J ?_;rintro r D N ⟨rfl,rfl,rfl⟩;refine⟨_,KG z _ _ _,z,B,A,?_⟩;have H:=i.j;have E:=t.j;have G:=NZ (BC C (some h)) 0 (.int .i32 0);exact⟨H.r.set 0 j (.int .i32 0),H.h.V G ((H.ag h (AC I E.size)).E F),λb v=>H.ag b (AC v E.size),G.os.E (H.os.E E.os),G.tape.E (H.tape.E E.tape),G.output.E (H.output.E E.output),AJ E.size (AJ H.size G.size),λb l m u=>(G.block b (AC l (AJ E.size H.size)) (λe=>m (by injection e))).E ((H.block b (AC l E.size) m u).E (E.block b l (λe=>m (by injection e)))),H.cap⟩
end
section
open Tryz
open Go.RowKit
variable {F H L S T W:Int}{news:List Ra}{B:Nat}{w w':Q9}
structure PcI(B:Nat)(w:Q9)(o:Nat->Nat)(v:Ra)(P:List (List Pr))(j:Nat)(news:List Ra):Prop where
 own:w.ownsRow B 42 1 v j news
 lab:∀g,v.ownBlock=some g->o g=5
 low:∀b,o b≠0->B<=b
 ech:∀i,i<j->∃p c,news[i]?=some (Y p (P.getD i []).length c)/\OwL w o (7+i) p (LS (P.getD i []))
theorem PcI.I{o:Nat->Nat}{v:Ra}{P:List (List Pr)}{j:Nat}(h:PcI B w o v P j news)(a:Q3 w w'):PcI B w' o v P j news :=⟨MK h.own a,h.lab,h.low,λi e=>by obtain⟨p,c,b,d⟩:=h.ech i e;exact⟨p,c,b,d.only (K:=λ_=>False) (zh a) id⟩⟩
theorem PcI.push{g cap:Nat}{W:Q9}{o:Nat->Nat}{v:Ra}{P:List (List Pr)}{j:Nat}{a:Q5}{c:Nat}(h:PcI B w o v P j news)(z:B<=w.heap.size)(d:Q3 w W)(n:OwnS W a (LS (P.getD j [])))(m:∀g,blk a (P.getD j []).length=some g->w.heap.size<=g)
  (own:w'.ownsRow B 42 1 (Y (Hw g 0) (j+1) cap) (j+1) (news++[Y a (P.getD j []).length c]))(p:W.grownBy w' v.ownBlock)(q:v.ownBlock=some g\/g=W.heap.size):∃b,PcI B w' b (Y (Hw g 0) (j+1) cap) P (j+1) (news++[Y a (P.getD j []).length c]):=by
 have C:=d.size
 have r:=λb k=>YA (g:=b) n jg k
 have hv:∀b,v.ownBlock=some b->b<w.heap.size:=λb k=>(h.own.lt b k).2
 refine⟨λb=>if b<w.heap.size then o b else if blk a (P.getD j []).length=some b then 7+j else if b=W.heap.size then 5 else 0,own,λx e=>?_,λb=>?_,λi A=>?_⟩
 .cases e
  rcases q with k|k
  .exact(AI (hv g k)).E (h.lab g k)
  show(if g<w.heap.size then o g else if blk a (P.getD j []).length=some g then 7+j else if g=W.heap.size then 5 else 0)=5
  rw[AF ω,AF (λe=>by have:=r g e;omega),AI k]
 .show(if b<w.heap.size then o b else if blk a (P.getD j []).length=some b then 7+j else if b=W.heap.size then 5 else 0)≠0->B<=b
  by_cases f:b<w.heap.size
  .rw[AI f];exact h.low b
  exactλ_=>ω
 have f:∀b,b<w.heap.size->(λb=>if b<w.heap.size then o b else if blk a (P.getD j []).length=some b then 7+j else if b=W.heap.size then 5 else 0) b=o b:=λb d=>AI d
 have l:Only (λb=>if b<w.heap.size then o b else if blk a (P.getD j []).length=some b then 7+j else if b=W.heap.size then 5 else 0) (λk=>k=5) W w':=pu p (λx e=>(f x (hv x e)).E (h.lab x e));have e:news.length=j:=by rw[h.own.1,JX]
 by_cases b:i<j
 .obtain⟨y,s,t,u⟩:=h.ech i b
  exact⟨y,s,by rw[BO ω];exact t,((u.lab f).only (K:=λ_=>False) (zh d) id).only l ω⟩
 obtain rfl:i=j:=ω
 refine⟨a,c,by rw[DY ω,e];simp,(VQ n TS m (λx k=>?_)).only l ω⟩;show(if x<w.heap.size then o x else if blk a (P.getD i []).length=some x then 7+i else if x=W.heap.size then 5 else 0)=7+i;rw[AF (by have:=m x k;omega),AI k]
theorem PcI.pso{o f:Nat->Nat}{p:Q5}{c:Nat}{P:List (List Pr)}(h:PcI B w o (Y p P.length c) P P.length news)(d:∀b,B<=b->b<w.heap.size->f b=o b):bk w f p P:=by
 by_cases q:P.length=0
 .exact .inl q
 obtain⟨g,k,e,b,a⟩:=h.own.form ω
 injection e with l _ m;subst l m;refine .inr ⟨g,rfl,a,(d g b a).E (h.lab g rfl),λi s=>?_⟩;obtain⟨v,j,t,u⟩:=h.ech i s;exact⟨v,j,(UA h.own).cell i _ t,u.imp_right λ⟨x,e,r,n⟩=>⟨x,e,r,(d x (h.low x ω) r.lt).E n⟩⟩
def Fk(w w':Q9)(r:Ending)(x:Wo):Prop:=∃q o news,r=Q2 (MD x q)/\RY x w' q o/\x.rs.length<=q.cs/\w'.ownsRow w.heap.size 42 1 (Y q.p x.P.length q.cp) x.P.length news/\(∀b,b<w.heap.size->o b=0)/\Q3 w w'
def Dm(V w:Q9)(b a:Ra)(P:List (List Pr)):Prop:=∃(j:Nat) (o:Nat->Nat) (news:List Ra),j<=P.length/\a=Z (j:Int)/\PcI V.heap.size w o b P j news/\Q3 V w
theorem Mn(a:Wo)(l:Wp)(w:Q9)(f:a.at w l)(cM:LT a.ss a.ws=true)(N:a.ok):Calls prog 90 #[MD a l] w λr w'=>Fk w w' r a:=by
 obtain⟨⟨t,cI,cJ⟩,p,m⟩:=QH cM;have v:=N.le;have dM:=N.p.1;have dQ:=N.t.1;have dN:=(XO N.s).1;have cP:Hid (∀c,c<a.P.length->(a.P.getD c []).length<=1048576):=LE (λc hj=>by have:=(XO (N.p.2 (a.P.getD c []) (by simp[List.getD,hj]))).1;omega);have o:=LE (λw' C g=>mw l.a a.ss l.c l.a' a.ws l.c' w' C g cI cJ (λs e=>by have:=p s e;omega) (λy b=>by have:=AW (m y b);omega));unfold LR at o;have bH:=LE (rf (ws:=a.ws) λy b=>by have:=AW (m y b);omega);have u:DepF w (λb=>b≠w.heap.size) (λW=>a.at W l):=(yg f (λw' n=>f.I n)).J (λb n _=>d);obtain⟨i0,e,g,i,k⟩:=aq kq;have Q:=LE (I e (I g (I i k)));clear e g i k;obtain⟨i1,e,g,i,k⟩:=aq ub;have HJ:=LE (I e (I g (I i k)));clear e g i k;unfold MD;clear f cM t p m v N;go_enter func90,ntmps90
 go_upto_region 1 with fail;generalize g:w.alloc _=v1;obtain⟨e,p,t⟩:=LP g;clear g;generalize k:v1.alloc _=v2;obtain⟨g,s,i⟩:=LP k;clear k;rw[p]at i s;have n:=e.E (g.J e.size);have m:Sc w v2 w.heap.size (wL a l) _:=⟨⟨n.os,n.tape,n.output,n.size,λb h1 _=>n.block b h1⟩,(t.I g).q,((u.I e).I g).and (WG i.q d)⟩;clear n e g t i p s u;have e:=m.r.y 1;have i:=m.r.y 2;have u:=m.r.lt;go_wp2_with fail;clear e i u;refine(o.j _ m.m.q.1.h1 m.m.q.1.h2).J ?_;rintro r v3 ⟨g,v,rfl,u,own,O,n⟩;replace m:=m.I n;have l3:=n.size;obtain⟨a2,i,rfl⟩:=YC own;have J:=(vI own).1.hld bH.j;clear o n;go_wp2_with fail;have o:=RT (Hw g 0) (a.ss.map LF) a.ss.length a.ss.length a2 (LU a.ws) a.ws.length i j (SO _) v3 u.plt J cI cJ u.len bH.j;rw[sD,uZ]at o;unfold LR at o;refine o.J ?_
 rintro r R ⟨s,C,y,E,rfl,e,K,M,n⟩;have lw:=m.e.size;have l4:w.heap.size+1<R.heap.size:=(m.I n).m.q.2.lt
 have gA:∀g,blk s a.ss.length=some g->w.heap.size+1<g:=λg k=>by have:=K g k;have:=m.m.q.2.lt;omega
 have gB:∀g,blk y a.ws.length=some g->w.heap.size+1<g:=λg k=>by have:=M g k;have:=m.m.q.2.lt;omega
 have uA:=λg k=>YA (g:=g) e.s (λp t=>p (zF t)) k
 have uB:=λg k=>YA (g:=g) e.p (λp t=>p (qI t)) k
 have cZ:=e.ne;replace m:=(m.I n).add ((XS e.s YP (λg k=>KF (gA g k)) (SB:=w.heap.size) d).and (XS e.p iy (λg k=>KF (gB g k)) (SB:=w.heap.size) d));clear o n e own u J O K M;have e:=m.r.y 1;have i:=m.r.y 2;have n:=m.r.A 1;have o:=m.r.A 2;have u:=m.r.lt;go_upto_region 2 with fail;clear e n i o u;replace m:=(m.set 1 j (Y s a.ss.length C)).set 2 j (Y y a.ws.length E);have z5:((R.setCell (Ki w.heap.size 1) (Y s a.ss.length C)).setCell (Ki w.heap.size 2) (Y y a.ws.length E)).heap.size=R.heap.size:=by rw[BI,BI]
 generalize e:World.setCell (World.setCell _ _ _) _ _=v5 at m z5⊢;clear e;have K:=LE (gu l.s a.rs l.cs v5 m.m.q.1.1.h3 d);unfold LX at K;have e:=m.r.y 13;have i:=m.r.A 13;have u:=m.r.lt;go_wp2_with fail;clear e i u;refine K.j.J ?_;rintro r v6 ⟨t,J,rfl,cT,e,i,n⟩;unfold LX;have dU:=n.size
 have x:∀g,blk t a.rs.length=some g->R.heap.size<=g:=λg k=>by have:=i g k;omega
 have uC:=λg k=>YA (g:=g) e jg k
 replace m:=(m.I n).add (XS e TS i (SB:=w.heap.size) (by have:=m.r.lt;omega));clear K n e i;have e:=m.r.y 13;have O:=m.r.y 14;have i:=m.r.A 13;have U:=m.r.A 14;have u:=m.r.lt;go_wp2_with fail;clear e i O U u;have dZ:=m.e.size;replace m:=m.set 13 j (Y t a.rs.length J);have z7:(v6.setCell (Ki w.heap.size 13) (Y t a.rs.length J)).heap.size=v6.heap.size:=BI _ _ _;generalize e:World.setCell _ _ _=V at m z7⊢;clear e;go_loopw [3,20] (λn e wr=>Dm V wr n e a.P) (λ_ e _=>a.P.length-(intOf e).toNat)
 case atStart=>exact⟨0,λ_=>0,[],AL,z,⟨BU _ _ _ _,λg e=>by(cases e),λb e=>absurd z e,λi o=>d⟩,AB⟩
 case round =>
  rename Ra=>n
  obtain⟨c,oj,news,hj,rfl,M,O⟩:=hrel;have o:=m.I O;have D:=O.size
  by_cases cH:c<a.P.length
  .have cW:(c:Int)<(a.P.length:Int):=d
   have dL:(0:Int)<=(c:Int):=d
   have dR:IntKind.i64.wrap ((c:Int)+1)=((c+1:Nat):Int):=by rw[QC _ d d];omega
   obtain⟨b,ob,p,q,n,dH,aD,u⟩:=o.m.q.1.1.1.h4.at cH;rw[n];clear n m o;have bZ:=cP.j c cH;obtain⟨n,bJ⟩:=nHz (a.P.getD c []);have h:=LE M;have cO:=LE O;rw[<-bJ.j]at aD u bZ;clear M O;have K:=LE (gu p n q (wr.alloc (.cells #[Y p n.length q] 42)) (u.j.I (LH _ _)) bZ);unfold LX at K;go_wp2_with fail;refine K.j.J ?_;rintro r U ⟨X,c6,rfl,cV,cL,g6,cA⟩;unfold LX;have P:=LE ((LH wr (.cells #[Y p n.length q] 42)).E (cA.J j));have H6:=LE cL;have bG:Hid (∀g,blk X n.length=some g->wr.heap.size<=g):=LE (λg k=>by have:=g6 g k;simp at this;omega);have dF:=P.j.size;clear K cV cL g6 cA aD u;go_wp2_with (at_builtin;refine SX _ z _ _ 45 z V.heap.size underlying45 HJ.j z d _ c _ z ((MK h.j.own P.j).alloc _) (Ki U.heap.size 0) 1 1 [Y X n.length c6] z z (World.news_of_block (AV U _)) (by intro u hu;simp at hu;subst hu;rfl) τ (U.heap.size+1) j ?_;intro g9 cQ w9 aE aB aJ cX;have bI:=LE aE;have K:=LE aB;have cN:=LE aJ;clear aE aB aJ)
   rw[bJ.j]at bI H6 bG K;have cC:=P.j.E ((LH U (.cells #[Y X (a.P.getD c []).length c6] 42)).J dF);obtain⟨o9,dB⟩:=h.j.push D cC (H6.j.alloc' _) bG.j bI.j K.j (cN.j.imp_right (λe=>by rw[e];simp));exact⟨⟨c+1,o9,_,d,ν,dB,UJ (cO.j.E (cC.J D)) ((MK h.j.own P.j).alloc _) K.j τ⟩,by simp[intOf];omega⟩
  obtain rfl:c=a.P.length:=d
  obtain⟨p,pc,rfl⟩:=YC M.own;have lr:=o.m.q.1.1.2.lt;obtain⟨P,K⟩:=nHz (λb=>if V.heap.size<=b then (if b<wr.heap.size then oj b else 4) else if blk s a.ss.length=some b then 1 else if blk y a.ws.length=some b then 2 else if blk t a.rs.length=some b then 3 else 0);have lV:w.heap.size+1<V.heap.size:=m.m.q.1.1.2.lt
  have hF:∀b,b<=w.heap.size+1->P b=0:=λb n=>by rw[K.j];simp only[];rw[A d,A (λe=>by have:=gA b e;omega),A (λe=>by have:=gB b e;omega),A (λe=>by have:=x b e;omega)]
  have U:bk wr P p a.P:=M.pso (λb h1 u=>by rw[K.j];simp only[];rw[G h1,G u]);have u:DepF wr (λb=>b≠w.heap.size) (λW=>WoG (a.ss.map Value.string) (MZ a.ws) (LS a.rs) a.P.length (λi=>a.P.getD i []) [] W ⟨s,C,y,E,t,J,p,pc,none,0⟩ P):=WoG.depF ⟨VQ o.m.q.1.2.1 YP (lo:=0) (λ_ _=>AL) (λg k=>?_),VQ o.m.q.1.2.2 iy (lo:=0) (λ_ _=>AL) (λg k=>?_),VQ o.m.q.2 TS (lo:=0) (λ_ _=>AL) (λg k=>?_),U,.inl z⟩ (hF _ d)
  rotate_left
  .rw[K.j];simp only[];rw[A (by have:=uA g k;omega),G k]
  .rw[K.j];simp only[];rw[A (by have:=uB g k;omega),A (λe=>by rcases cZ with f|f|f;rw[f]at e;cases e;rw[f]at k;cases k;exact f (e.E k.symm)),G k]
  .rw[K.j];simp only[];rw[A (by have:=uC g k;omega),A (λe=>by have:=uA g e;have:=x g k;omega),A (λe=>by have:=uB g e;have:=x g k;omega),G k]
  replace o:=(o.add u).add (aj M.own (λb k e=>by have:=(M.own.lt b k).1;omega));clear m u U O;have i:=o.set 14 j (Y p a.P.length pc);have dV:=i.m.q.1.1.1.1.2.lt;have q:=LE (PG (P:=prog) i.m.q.1.1.1.1.1.h5 _ _ underlying29 l.ct);have O:=o.r.y 14;have bT:=o.r.y 15;have U:=o.r.A 14;have bW:=o.r.A 15;have u:=o.r.lt;have h:=LE i;have zz:(wr.setCell (Ki w.heap.size 14) (Y p a.P.length pc)).heap.size=wr.heap.size:=BI _ _ _;clear o i;go_upto_region 11 with (at_builtin;refine oW z _ _ 29 z 9 i0 _ 1 16 underlying29 Q.j.1 Q.j.2.1 Q.j.2.2.1 Q.j.2.2.2 none z (.inl z) _ z a.ts.length _ q.j d d ?_;intro k m wx dP o cE;have i:=h.j.I cE;have X:=LE o;have bT:=i.r.y 15;have bW:=i.r.A 15;have u:=i.r.lt;clear o cE)
  clear O U bT bW u q;replace i:=i.set 15 j (Y k a.ts.length m);have U:Hid (a.ts.length=0\/(k=Hw wr.heap.size 0/\Row (wx.setCell (Ki w.heap.size 15) (Y k a.ts.length m)) wr.heap.size (a.ts.map Value.string))):=LE (X.j.imp_right (λ⟨e,r⟩=>⟨by rw[e,zz],by rw[<-zz];exact r.other _ (by show w.heap.size≠_;rw[zz];omega) _⟩));generalize o:World.setCell wx _ _=q at i U⊢;clear o X h;have WZ:RY a q ⟨s,C,y,E,t,J,p,pc,k,m⟩ P:=⟨i.m.q.1.2.h1,i.m.q.1.2.h2,i.m.q.1.2.h3,i.m.q.1.2.h4,?_⟩
  rotate_left
  .rcases U.j with f|⟨rfl,r⟩
   .exact .inl (by rw[AD f];rfl)
   exact .inr ⟨_,z,r,by rw[K.j];simp only[];rw[G D,A d]⟩
  refine AX ?_;refine BE z 47 _ z w.heap.size 0 z _ _ i.r.range underlying47 z NH ?_;simp only[PS];refine BV z 47 _ _ z (w.heap.size+1) 0 #[Z a.w,Y s a.ss.length C,Y y a.ws.length E,Q1 a.up,Z a.W,Z a.S,Z a.L,Z a.T,Z a.H,Z a.F,Z a.R,Z a.U,Z a.O,Y t a.rs.length J,Y p a.P.length pc,Y k a.ts.length m] z z (i.m.q.1.1.1.1.2.there z) NH κ ?_
  try simp only[PS]
  have o:=QF q (w.heap.size+1) 0 [Z a.w,Y s a.ss.length C,Y y a.ws.length E,Q1 a.up,Z a.W,Z a.S,Z a.L,Z a.T,Z a.H,Z a.F,Z a.R,Z a.U,Z a.O,Y t a.rs.length J,Y p a.P.length pc,Y k a.ts.length m];have r8:=i.m.q.1.1.1.1.2.sets [Z a.w,Y s a.ss.length C,Y y a.ws.length E,Q1 a.up,Z a.W,Z a.S,Z a.L,Z a.T,Z a.H,Z a.F,Z a.R,Z a.U,Z a.O,Y t a.rs.length J,Y p a.P.length pc,Y k a.ts.length m] z;have X:=WZ.V o (hF _ d);have h:=i.m.q.2.kept o (.inr (λe=>by have:=(i.m.q.2.lt _ e).1;omega));have u:Q3 w (q.setCells (w.heap.size+1) 0 [Z a.w,Y s a.ss.length C,Y y a.ws.length E,Q1 a.up,Z a.W,Z a.S,Z a.L,Z a.T,Z a.H,Z a.F,Z a.R,Z a.U,Z a.O,Y t a.rs.length J,Y p a.P.length pc,Y k a.ts.length m]):=⟨o.os.E i.e.os,o.tape.E i.e.tape,o.output.E i.e.output,AJ i.e.size o.size,λb n=>(o.block b (by have:=i.e.size;omega) (λe=>by injection e;omega)).E (i.e.block b n (λe=>by injection e;omega))⟩
  generalize World.setCells _ _ _ _=y8 at r8 X h u⊢;have O:=LE (I X (I h u));clear i WZ X h u o U
  try go_wp2
  exact XM 2 47 results90 _ z [Z a.w,Y s a.ss.length C,Y y a.ws.length E,Q1 a.up,Z a.W,Z a.S,Z a.L,Z a.T,Z a.H,Z a.F,Z a.R,Z a.U,Z a.O,Y t a.rs.length J,Y p a.P.length pc,Y k a.ts.length m] _ r8 underlying47 z NH z ⟨⟨s,C,y,E,t,J,p,pc,k,m⟩,P,news,z,O.j.1,cT,O.j.2.1.J d,λb n=>hF b d,O.j.2.2⟩
theorem Fw:(prog.info? 143).map (·.size)=some 6:=h
def pP:Wo:=⟨0,[],[],false,0,0,0,0,0,0,0,0,0,[],[],[]⟩
def Wo.doR(x:Wo)(e:Ev):Wo:=if MF x=true then x.doE e else pP
theorem Nt{v y:Q9}{c:Nat}{l:Int}{o e:Nat->Nat}{x:Wo}{q:Wp}(a:Q3 v y)(H:HpPost y w' c l o x q e):HpPost v w' c l o x q e :=⟨H.r,H.h,λb h=>H.ag b (AC h a.size),H.os.E a.os,H.tape.E a.tape,H.output.E a.output,AJ a.size H.size,λb d f g=>(H.block b (AC d a.size) f g).E (a.block b d),H.cap⟩
theorem mx{x:Wo}(h:MF x=true):x.ok/\LT x.ss x.ws=true/\0<x.P.length:=by
 unfold MF at h;simp only[BF]at h;obtain⟨_,e,a,b,c⟩:=h;unfold RJ at b;unfold ST at c;simp only[BF,BH,DI]at b c;refine⟨⟨.inl e,?_,⟨b.1.2,b.2⟩,c.1,λs f=>by have:=c.2 s f;omega⟩,e,d⟩;unfold QJ at a
 by_cases f:x.up=true
 .rw[G f]at a
  unfold OW at a;simp only[BF]at a;exact a.1.1.2
 rw[A f]at a
 have:=AW (by unfold RQ at a;exact a);rw[AD this.2.2.2.2.2.2];exact YI
def qu(w w':Q9)(r:Ending)(y:Wo):Prop:=∃q o,r=Q2 (MD y q)/\RY y w' q o/\(∀b,o b≠0->w.heap.size<=b/\b<w'.heap.size)/\Q3 w w'
def DoK(w w':Q9)(r:Ending)(y:Wo):Prop:=∃q o,r=Q2 (MD y q)/\RY y w' q o/\(∀b,o b≠0->w.heap.size<=b/\b<w'.heap.size)/\Q3 w w'/\y.rs.length<=q.cs
theorem DoK.i{r:Ending}{y:Wo}(h:DoK w w' r y):qu w w' r y:=by
 obtain⟨q,o,a,b,c,d,_⟩:=h;exact⟨q,o,a,b,c,d⟩
theorem H5(n:Wo)(q:Wp)(e:Ev)(a:Q5)(c:Nat)(o:Q5)(p:Nat)(w:Q9)(s:n.at w q)(hc:n.rs.length<=q.cs)(I:n.le 1048576)(bF:Chs w a e.b)(hi:Ints w o e.fs)(he:e.le)(ty:TypeId)(gv:Ra)(bH:w.cell? (Ki 7 0)=some (.iface ty gv))(bG:w.cell? (Ki 1 0)=some (.iface 318 (.agg #[Dr 10 58])))(bW:7<w.heap.size):Calls prog 59 #[MD n q,OQ e a c o p] w λr w'=>DoK w w' r (n.doR e):=by
 have J:=LE (λw' k=>vo n q w' k hc I);have E:=LE (λw' k (k2:LT n.ss n.ws=true) k3=>Mn n q w' k k2 k3);unfold MD at J E⊢;unfold OQ;have HH:=LE s;have V:=LE bF;have X:=LE hi;have HE:=LE he;have U:=LE (AG bH bG);clear s bF hi he bH bG hc I;obtain⟨O,t⟩:=nHz (n.doR e);rw[<-t.j];go_enter func59,ntmps59;go_upto_region 1 with fail;generalize g:w.alloc _=v1;obtain⟨m,j,b0⟩:=LP g;clear g;generalize i:v1.alloc _=v2;obtain⟨g,C,M⟩:=LP i;clear i;generalize v:v2.alloc _=v3;obtain⟨i,z2,N⟩:=LP v;clear v;rw[j]at M C;rw[C]at N z2;have y:=m.E ((g.E (i.J g.size)).J m.size);have v:=((b0.I g).I i).q;have P:=(M.I i).q;have K:=N.q;clear m g i b0 M N j C;refine AX ?_;refine BE z 47 _ z w.heap.size 0 z _ _ v.range underlying47 z NH ?_;simp only[PS];go_wp2_with fail
 refine(J.j _ (HH.j.I y)).J ?_;rintro r v4 ⟨rfl,m⟩;replace y:=y.E (m.J y.size);replace v:=v.I m;replace P:=P.I m;replace K:=K.I m;clear m J;obtain⟨ok,m⟩:=nHz (MF n);rw[<-m.j]
 cases ok with
 | false =>
  have g:O=pP:=by rw[t.j];unfold Wo.doR;rw[<-m.j,A σ]
  have l:=LE g;clear g E t;go_upto_region 2 with fail;refine AX ?_;refine VD z (.agg #[Z 0,Y none 0 0,Y none 0 0,Q1 false,Z 0,Z 0,Z 0,Z 0,Z 0,Z 0,Z 0,Z 0,Z 0,Y none 0 0,Y none 0 0,Y none 0 0]) γ ?_;simp only[PS];refine BV z 47 _ _ z (w.heap.size+1+1) 0 #[Z 0,Y none 0 0,Y none 0 0,Q1 false,Z 0,Z 0,Z 0,Z 0,Z 0,Z 0,Z 0,Z 0,Z 0,Y none 0 0,Y none 0 0,Y none 0 0] z z (K.there z) NH h ?_
  try simp only[PS]
  have N:=QF v4 (w.heap.size+1+1) 0 [Z 0,Y none 0 0,Y none 0 0,Q1 false,Z 0,Z 0,Z 0,Z 0,Z 0,Z 0,Z 0,Z 0,Z 0,Y none 0 0,Y none 0 0,Y none 0 0];have C:=K.sets [Z 0,Y none 0 0,Y none 0 0,Q1 false,Z 0,Z 0,Z 0,Z 0,Z 0,Z 0,Z 0,Z 0,Z 0,Y none 0 0,Y none 0 0,Y none 0 0] z;have j:=y.E (MU N y.size (λn e=>by have e:=BQ e;omega));generalize World.setCells _ _ _ _=G at C j N⊢;clear N v P K y
  try go_wp2
  exact XM 4 47 results59 _ z [Z 0,Y none 0 0,Y none 0 0,Q1 false,Z 0,Z 0,Z 0,Z 0,Z 0,Z 0,Z 0,Z 0,Z 0,Y none 0 0,Y none 0 0,Y none 0 0] _ C underlying47 z NH z ⟨⟨none,0,none,0,none,0,none,0,none,0⟩,λ_=>0,by rw[l.j];rfl,by rw[l.j];exact⟨.inl z,.inl z,.inl z,.inl z,.inl z⟩,λi k=>absurd z k,j,by rw[l.j];exact AA⟩
 | true =>
  obtain⟨ho,bV,bY⟩:=mx m.j.symm;have g:O=n.doE e:=by rw[t.j];unfold Wo.doR;rw[<-m.j,AI z]
  have l:=LE g;clear g t m;go_upto_region 3 with fail;refine AX ?_;refine BE z 47 _ z w.heap.size 0 z _ _ v.range underlying47 z NH ?_;simp only[PS];go_wp2_with fail;refine(E.j _ (HH.j.I y) bV ho).J ?_;rintro r v5 ⟨x,o5,news,rfl,b,aR,C,z5,m⟩;have l5:=m.size;have lR:=K.lt;replace y:=y.E (m.J y.size);replace v:=v.I m;replace P:=P.I m;replace K:=K.I m;clear m E;unfold MD;go_upto_region 4 with fail;generalize g:v5.alloc _=R;obtain⟨m,D,b6⟩:=LP g;have Z6:=LE D;clear g D
  iterate 6(generalize Value.agg _=A9)
  refine AX ?_;refine VD z (.agg #[.nilFunc,.func (.func 91) #[] #[],.func (.func 92) #[] #[],.func (.func 93) #[] #[],.func (.func 94) #[] #[],.func (.func 95) #[] #[]]) γ ?_;simp only[PS];refine ko z (Dr R.heap.size 0) (R.alloc (.cells #[.nilFunc,.nilFunc,.nilFunc,.nilFunc,.nilFunc,.nilFunc] 143)) γ ?_;simp only[PS];refine BV z 143 _ _ z R.heap.size 0 #[.nilFunc,.func (.func 91) #[] #[],.func (.func 92) #[] #[],.func (.func 93) #[] #[],.func (.func 94) #[] #[],.func (.func 95) #[] #[]] z z ((LZ R #[.nilFunc,.nilFunc,.nilFunc,.nilFunc,.nilFunc,.nilFunc] 143).there z) Fw h ?_
  try simp only[PS]
  have G:=(LZ R #[.nilFunc,.nilFunc,.nilFunc,.nilFunc,.nilFunc,.nilFunc] 143).sets [.nilFunc,.func (.func 91) #[] #[],.func (.func 92) #[] #[],.func (.func 93) #[] #[],.func (.func 94) #[] #[],.func (.func 95) #[] #[]] z;have E:Q3 R ((R.alloc (.cells #[.nilFunc,.nilFunc,.nilFunc,.nilFunc,.nilFunc,.nilFunc] 143)).setCells R.heap.size 0 [.nilFunc,.func (.func 91) #[] #[],.func (.func 92) #[] #[],.func (.func 93) #[] #[],.func (.func 94) #[] #[],.func (.func 95) #[] #[]]):=(LH R _).E (MU (QF _ _ _ _) σ (λg e=>by cases e;exact AA));generalize World.setCells _ _ _ _=Q at G E⊢;obtain⟨t,j⟩:=nMz v5.heap.size;obtain⟨u,N⟩:=nMz R.heap.size;have bZ:=Z6.j;obtain⟨M,J⟩:=nHz (λi=>if i<v5.heap.size then o5 i else 0);have l4:w.heap.size+1+1<v4.heap.size:=lR
  have D:∀i,i<v4.heap.size->M i=0:=λi m=>by rw[J.j];simp only[];rw[AI d];exact z5 i m
  have f:M t=0:=by rw[J.j];simp only[];rw[A d]
  have dW:=((((b.lab (o':=M) (λi m=>by rw[J.j];exact AI m)).depF f).and (aj C (λi k e=>by have:=(C.lt i k).2;omega))).I m).I E;have dI:DepF w (λi=>i<w.heap.size) (λW=>Ints W o e.fs/\Chs W a e.b/\W.cell? (Ki 7 0)=some (.iface ty gv)/\W.cell? (Ki 1 0)=some (.iface 318 (.agg #[Dr 10 58]))):=yg ⟨X.j,V.j,U.j⟩ (λw' m=>⟨X.j.I m,V.j.I m,(m.cell (p:=(Ki 7 0)) bW).E U.j.1,(m.cell (p:=(Ki 1 0)) (by show 1<_;omega)).E U.j.2⟩);replace y:=y.E ((m.E (E.J m.size)).J y.size);replace dI:=(dI.step (y.J AL) (λi k _=>y.block i k)).J (G:=λi=>i≠t/\M i=0) (λi _ k=>⟨d,D i d⟩);have zK:M u=0:=by rw[J.j];simp only[];rw[A d]
  have rS:=(b6.I E).q;rw[<-j]at rS;replace P:=(P.I m).I E;replace K:=(K.I m).I E;rw[<-N]at G;have cE:t<Q.heap.size:=rS.lt;have nS:w.heap.size+1+1<t/\t<u/\v4.heap.size<=t:=d
  rw[<-j,<-N];clear E m b6 b C z5 J X V U v bZ Z6 j N l5 z2
  have CH:Hid (1<=e.K->e.K<=5->∃U,([.nilFunc,.func (.func 91) #[] #[],.func (.func 92) #[] #[],.func (.func 93) #[] #[],.func (.func 94) #[] #[],.func (.func 95) #[] #[]]:List Ra)[e.K.toNat]?=some (.func (.func U) #[] #[])/\(∀m v,Sem.run prog (callFunc U m) v=.ok (.enter U m) v)/\∀w',Row w' t (UE 1 n x)->Q.grownBy w' (some t)->Calls prog U #[Dr t 0,OQ e a c o p] w' (λr X=>r=Q2 (.tuple #[])/\∃j N,HpPost w' X t 1 M O j N)):=LE (λb h2=>by
   rw[l.j];have J:e.K=1\/e.K=2\/e.K=3\/e.K=4\/e.K=5:=d
   have kW:=λw' (E:Q.grownBy w' (some t))=>dW.V E (λg e k=>by cases e;exact k z)
   have kI:=λw' (E:Q.grownBy w' (some t))=>dI.V E (λg e k=>by cases e;exact k.1 z)
   have kJ:=λw' E=>((kI w' E).J (G:=λi=>i≠t) (λi _ k=>k.1)).map (λW k=>k.1)
   rcases J with J|J|J|J|J
   .refine⟨91,by rw[J];rfl,λm v=>h,λw' V E=>?_⟩
    refine(G7 n x e a c o p t 1 M w' V (kW w' E).q.1 f aR (kJ w' E) ho HE.j J ty gv (kI w' E).q.2.2.1 (kI w' E).q.2.2.2 (by have:=E.size;omega)).J (λr X k=>⟨k.1,mj k.2⟩)
   .refine⟨92,by rw[J];rfl,λm v=>h,λw' V E=>?_⟩
    exact Ga n x e a c o p t 1 M w' V (kW w' E).q.1 f aR v4.heap.size news (kW w' E).q.2 bY (by have:=E.size;omega) ((kI w' E).map (λW k=>k.1)) (kI w' E).q.2.1 ho HE.j J
   .refine⟨93,by rw[J];rfl,λm v=>h,λw' V E=>?_⟩
    refine(Ec n x e a c o p t 1 M w' V (kW w' E).q.1 f aR (kJ w' E) ho HE.j J).J (λr X k=>⟨k.1,mj k.2⟩)
   .refine⟨94,by rw[J];rfl,λm v=>h,λw' V E=>?_⟩
    refine(Jg n x e a c o p t 1 M w' V (kW w' E).q.1 f aR (kJ w' E) ho HE.j J).J (λr X k=>⟨k.1,mj k.2⟩)
   .refine⟨95,by rw[J];rfl,λm v=>h,λw' V E=>?_⟩
    refine(Ox n x e a c o p t 1 M w' V (kW w' E).q.1 f (kJ w' E) ho HE.j J).J (λr X k=>⟨k.1,mj k.2⟩))
  have kN:Hid (¬(1<=e.K/\e.K<=5)->O=n):=LE (λg=>by rw[l.j];exact fh (D:=LO 0) (u:=false) d (by unfold Wo.call;rw[A d,A d,A d,A d]) (.inl z));go_upto_region 5 with fail;go_cut [23] from 16 to 22 (λm g=>m=Q1 (decide (1<=e.K/\e.K<=5))/\g=Q)
  case first =>
   have m:=P.y 0;have v:=P.lt;clear CH dW dI
   by_cases b:1<=e.K
   .by_cases h2:e.K<=5
    .go_wp2_with fail
     go_meet;exact⟨by rw[AM ⟨b,h2⟩],z⟩
    go_wp2_with fail
    go_meet;exact⟨by rw[AH (λk=>d)],z⟩
   go_wp2_with fail
   go_meet;exact⟨by rw[AH (λk=>d)],z⟩
  case rest =>
  obtain⟨rfl,m⟩:=hcut;rw[m];clear m;go_upto_if 23 with fail;go_cut [] from 23 to 30 (λg=>∃j N,HpPost Q g t 0 M O j N)
  case first =>
   by_cases hk:1<=e.K/\e.K<=5
   .rw[AM hk]
    obtain⟨b,h2⟩:=hk;obtain⟨U,g,N,v⟩:=CH.j b h2;obtain⟨m,I⟩:∃m:Nat,e.K=(m:Int):=⟨e.K.toNat,d⟩;have cA:m<6:=d
    rw[I,DO]at g;have cK:=G.cell m _ g;have HM:=LE I;have bP:=LE N;have bJ:=LE v;clear g I N v;go_upto_region 6 with fail;refine AN (S:=λw'=>Row w' (w.heap.size+1) [Z e.K,Y a e.b.length c,Z e.cut,Y o e.fs.length p]/\w'.cell? (Ki u m)=some (.func (.func U) #[] #[])) h (⟨P.I (AB).drew,OG (@AB Q.heap.size Q).drew cK (by show u<_;exact G.lt)⟩) (λaK=>?_);refine TY 0 (Dr t 0) z aK (TK 1 (Dr (w.heap.size+1) 0) z (AT ⟨ρ,λw v=>by obtain⟨j,C⟩:=v;have g:=j.lt;go_simp⟩) aK (TK 2 (Z e.K) z (AT ⟨ρ,λw v=>by obtain⟨j,C⟩:=v;have c0:=j.y 0;go_simp⟩) aK (TK 3 (Dr u m) z (AT ⟨ρ,λw v=>by obtain⟨j,C⟩:=v;have I:=HM.j;have g:=DP _ _ C;have hq:¬(6:Int)<=(m:Int):=d;rw[I];go_simp⟩) aK (TY 4 (.func (.func U) #[] #[]) z aK (TK 5 (.agg #[Z e.K,Y a e.b.length c,Z e.cut,Y o e.fs.length p]) z (AT ⟨ρ,λw v=>by obtain⟨j,C⟩:=v;exact SA 87 _ z _ 0 z _ _ j.range underlying87 z ZB⟩) aK ?_)))))
    simp only[PS];refine RD 6 z (λKq bU=>?_);have N:Q3 Q Q.drew:=(AB).drew;have aZ:=rS.I N;have aS:=P.I N;have aV:=OG N cK (by show u<_;exact G.lt);generalize Q.drew=y9 at N aZ aS aV⊢;have lh:=N.size;have CO:=Km U n O x e a c o p t M y9 aZ f bP.j (λX k2 k3=>bJ.j X k2 ⟨k3.os.E N.os,k3.tape.E N.tape,k3.output.E N.output,AJ N.size k3.size,λi b h2=>(k3.block i (AC b N.size) h2).E (N.block i b)⟩);unfold OQ at CO;refine LM ρ 96 #[Dr t 0,.func (.func U) #[] #[],.agg #[Z e.K,Y a e.b.length c,Z e.cut,Y o e.fs.length p]] γ CO ?_;rintro r v8 ⟨rfl,X,o8,v⟩;refine⟨_,z,?_⟩;have bI:=VM aS (v.block _ aS.lt d (D _ d)) (AC aS.lt v.size);have bB:=(DT (a:=(Ki u m)) (v.block u (AC G.lt lh) d zK)).E aV
    refine bU.j _ _ (⟨bI,bB⟩) (λbT=>?_)
    try simp only[PS]
    refine DN ?_;have bR:=LE v;have HD:=LE N;clear v N CO aZ aS aV bI bB;go_wp2_with fail;go_meet;exact⟨X,o8,Nt HD.j bR.j⟩
   rw[AH hk]
   have g:=kN.j hk;have m:=LE (AG rS dW.q.1);clear rS dW dI CH hk;go_wp2_with fail;go_meet;rw[g];exact⟨x,M,m.j.1,m.j.2,λ_ _=>z,z,z,z,AA,λ_ _ _ _=>z,aR⟩
  case rest =>
  obtain⟨X,o8,v⟩:=hcut;have lv:=v.size;have cC:=K.lt;have aY:=VM K (v.block _ K.lt d (D _ l4)) (AC K.lt v.size);have aW:Q3 w wc:=⟨v.os.E y.os,v.tape.E y.tape,v.output.E y.output,AJ y.size v.size,λi m=>(v.block i (by have:=y.size;omega) d (D i d)).E (y.block i m)⟩
  have zR:∀i,i<v4.heap.size->o8 i=0:=λi m=>(v.ag i d).E (D i m)
  clear dW dI rS P K G CH kN y;go_upto_region 7 with fail;refine AX ?_;refine VD z (Dr t 0) γ ?_;simp only[PS];refine VD z (Dr t 0) γ ?_;simp only[PS];refine tj z _ _ _ z (Dr t 2) (by have g:=v.r.lt;go_simp) ?_;simp only[PS];refine BE z 47 _ z t 2 z (wL O X) _ (Row.rangeMid (pre:=[.int .i32 0,.int .u32 0]) (cs:=(wL O X)) (post:=[]) v.r) underlying47 z NH ?_;simp only[PS];refine BV z 47 _ _ z (w.heap.size+1+1) 0 (wA O X) z z (aY.there z) NH h ?_
  try simp only[PS]
  have N:=QF wc (w.heap.size+1+1) 0 (wL O X);have C:=aY.sets (wL O X) z;have y:=v.h.V N (zR _ l4);have j:=aW.E (MU N aW.size (λn e=>by have e:=BQ e;omega));generalize World.setCells _ _ _ _=G at C y j N⊢;have K:=LE y;have P:=LE v.cap;clear y N v aW aY
  try go_wp2
  refine XM 4 47 results59 _ z (wL O X) _ C underlying47 z NH z ⟨X,λi=>if w.heap.size<=i/\i<G.heap.size then o8 i else 0,z,K.j.lab (λi m=>?_),λi k=>?_,j,P.j⟩
  .show(if w.heap.size<=i/\i<G.heap.size then o8 i else 0)=o8 i
   by_cases s:w.heap.size<=i
   .rw[AI ⟨s,m⟩]
   rw[A (λk=>s k.1),zR i d]
  by_cases s:w.heap.size<=i/\i<G.heap.size
  .exact s
  exact absurd (A s) k
theorem sd{R U O:Int}{a:List Pr}(b:1<=W/\W<=8)(c:8<=S/\S<=200)(d:1<=L/\L<=60000)(e:0<=T/\T<=1000000000)(f:0<=R/\R<=60000)(g:0<=H/\H<=1)(h:1<=F/\F<=999999000)(i:0<=U/\U<=hv S)(j:0<=O/\O<=U)(k:MH a=true)(l:MY (NC a) W<=hv S-1):OW W S L T H F R U O a=true:=by
 unfold OW VO;simp only[BF,BH];exact⟨⟨⟨⟨⟨⟨⟨b,c⟩,d⟩,⟨⟨e,f⟩,g⟩,h⟩,i⟩,j⟩,k⟩,l⟩
theorem Ap{R U O:Int}{a:List Pr}(h:OW W S L T H F R U O a=true):(0<=R/\R<=60000)/\MY (NC a) W<=hv S-1:=by
 unfold OW VO at h;simp only[BF,BH]at h;exact⟨h.1.1.1.1.2.1.1.2,h.2⟩
def jw(n N:Int)(D:Dd):Prop:=OW D.W D.S D.L D.T D.H D.F D.R D.U D.O D.rs=true/\D.W=n/\D.S=N/\∀s∈OH D.ops,s.size=64
theorem qR{k l m:Int}{p:Q4}{n:Int}(h:OB k l m p n=true):(NB k l m p n).size=64:=by
 unfold NB;rw[G h];have a:=AW (by unfold OB at h;exact h);exact ka _ _ _ _ _ d
theorem yQ{l m n:Int}(a:1<=l/\l<=60000)(b:1<=m/\m<=1000000000)(c:1<=n/\n<=8):(NB 3 l m empty n).size=64:=qR (by unfold OB;exact AM q)
theorem qV{s:Q4}{l f:Int}{n m:Nat}(d:1<=n/\n<=8)(c:n+m=56):∀p∈PK s l f n m,p.size=64:=by
 intro p a
 by_cases h:1<=l/\l<=60000/\1<=f/\f+(RK s.size m:Int)<=1000000001
 .rw[vk z h]at a
  unfold XD at a;obtain⟨k,b,rfl⟩:=DW.1 a;exact Oi d c h (FR.1 b)
 rw[gk z h]at a;cases a
theorem Qz{n m:Nat}(i:1<=n/\n<=8)(g:n+m=56)(f:1<=L/\L<=60000)(hF:1<=F/\F<=1000000000):∀(k:Nat) (c:List (List Ch)),c.length=k->∀p∈QA L F n m c,p.size=64:=by
 intro k
 induction k with
 | zero =>
  intro c e p a;rw[AD e,oh]at a;rw[DL.1 a];exact yQ f hF d
 | succ k j =>
  intro c e p a
  obtain⟨l,b,rfl⟩:∃l b,c=l++[b]:=by
   rcases GJ c with h|⟨l,b,h⟩
   .rw[h]at e;cases e
   exact⟨l,b,by simpa using h⟩
  rw[xd]at a;rcases BZ.1 a with a|a
  .exact j l (by simpa using e) p a
  exact qV i g p a
theorem tW(a:Int)(l:List Q4):OH (NE a l)=l:=by
 unfold OH NE;rw[List.mapIdx_eq_zipIdx_map,List.filterMap_map]
 have:((λo:OpT=>if o.1=true then none else some o.2.2) ∘ λx:Q4×Nat=>(false,a+(x.2:Int),x.1))=λx:Q4×Nat=>some x.1:=by funext x;simp
 rw[this,List.filterMap_eq_map',List.zipIdx_map_fst]
theorem Lg(a b:List OpT):OH (a++b)=OH a++OH b:=List.filterMap_append
theorem Ay{b:List Pr}(h:bi W S L T H F b)(a:MH b=true)(f:(PU W S L T H F b).C=0):jw W S (PU W S L T H F b):=by
 obtain⟨j,g,i,l,m,o,k⟩:=h;unfold PU at f⊢
 split at f
 .rename_i c
  rw[G c];have c:=AW (by unfold da at c;exact c);have p:=QS g;obtain⟨n,rfl⟩:∃n:Nat,W=(n:Int):=⟨W.toNat,d⟩;have q:=mu L (F+hv S) n (56-n) d d d (NC b);refine⟨sd (S:=S) j g i (T:=T+1) (R:=L) (H:=1-H) (F:=F+hv S) (U:=((QA L (F+hv S) n (56-n) (NC b)).length:Int)) (O:=0) d d d d d d a k,z,z,?_⟩
  intro s a
  simp only[am,DO,Lg,tW]at a;rcases BZ.1 a with a|a
  .exact Qz d d i d _ _ z s a
  have e:OH [(true,0,empty),(false,(T+1) % 2,QE (T+1) (1-H) (F+hv S) L (n:Int)),(true,0,empty)]=[QE (T+1) (1-H) (F+hv S) L (n:Int)]:=by simp[OH]
  rw[e,DL]at a;rw[a];unfold QE;rw[G (by unfold XX;omega)];refine qR ?_;unfold OB;refine AM ?_;have r:(ZY (1-H) (F+hv S)).size=5:=by unfold ZY;simp[CY,QN]
  omega
 exact absurd f (by simp[LO])
theorem Ho:∀s∈OH [((true,0,empty):OpT)],s.size=64:=by intro s h;simp[OH]at h
theorem sO{x:Wo}{e:Ev}(J:MF x=true)(b:(x.call e).2=true)(a:(x.call e).1.C=0):jw x.w x.ss.length (x.call e).1:=by
 unfold MF at J;simp only[BF,BH]at J;obtain⟨p,N,f,hp,ht⟩:=J;unfold QJ at f;unfold Wo.call at b a⊢
 by_cases l:e.K=1
 .rw[G l]at b a⊢
  replace a:(OL x.ss x.ws x.w).C=0:=a;show jw x.w x.ss.length (OL x.ss x.ws x.w);have r:LT x.ss x.ws=true/\1<=x.w/\x.w<=8:=⟨N,p⟩;obtain⟨r1,r2,r3,r4⟩:=ue r;have g:=mb r;obtain⟨⟨j,aE,aF⟩,_⟩:=QH N;have I:(8:Int)<=(x.ss.length:Int)/\(x.ss.length:Int)<=200:=d
  have hh:=QS I;unfold OL at a⊢;rw[G r]at a⊢
  split at a
  .exact absurd a (by simp[LO])
  rename_i X n
  have n:=kr _ _ YI _ n
  by_cases l:60000<(OZ x.ss x.ws x.w).2.2+1
  .rw[G l]at a;exact absurd a (by simp[LO])
  rw[A l]at a⊢
  by_cases m:hv x.ss.length-1<MY (NC X) x.w
  .rw[G m]at a;exact absurd a (by simp[LO])
  rw[A m]at a⊢
  by_cases k3:hv x.ss.length<=(OZ x.ss x.ws x.w).2.1
  .rw[G k3]at a⊢
   exact Ay ⟨p,I,d,g.1,g.2.1,g.2.2.1,d⟩ n a
  rw[A k3]
  refine⟨sd p I (by simp only;omega) g.1 g.2.2.2 g.2.1 g.2.2.1 (by simp only;omega) (by simp only;omega) n (by simp only;omega),z,z,?_⟩;intro s f;have e:OH [(false,2+(NJ x.ss x.ws x.w).2.1*hv x.ss.length+(OZ x.ss x.ws x.w).2.1,NB 3 ((OZ x.ss x.ws x.w).2.2+1) ((NJ x.ss x.ws x.w).2.2.1+(OZ x.ss x.ws x.w).2.1) empty x.w),(true,0,empty)]=[NB 3 ((OZ x.ss x.ws x.w).2.2+1) ((NJ x.ss x.ws x.w).2.2.1+(OZ x.ss x.ws x.w).2.1) empty x.w]:=by simp[OH]
  simp only[e]at f;rw[DL.1 f];have:=g.2.2.1;exact yQ d d p
 rw[A l]at b a⊢
 have t:x.up=true->OW x.W x.S x.L x.T x.H x.F x.R x.U x.O x.rs=true/\x.W=x.w/\x.S=(x.ss.length:Int):=by
  intro V;rw[G V,BF,BH]at f;exact f
 by_cases m:e.K=2
 .rw[G m]at b a⊢
  replace a:(QV x.W x.S x.L x.T x.H x.F x.R x.U x.O x.rs e.b).C=0:=a;show jw x.w x.ss.length (QV x.W x.S x.L x.T x.H x.F x.R x.U x.O x.rs e.b);obtain⟨c,i,h⟩:=t b;obtain⟨k,u,v,y,C,D,M,R,o⟩:=an c;obtain⟨E,_⟩:=Ap c;unfold QV at a⊢
  split at a
  .rename_i P
   rw[G P]
   split at a
   .rename_i q
    rw[G q]
    split at a
    .rename_i K
     rw[G K]
     split at a
     .rename_i Q
      rw[G Q];have hn:=p7 (MN e.b).size x.W k.1 k.2;refine⟨sd k u v y E C D (by simp only;omega) (by simp only;omega) (by unfold QT;rw[G q];exact SD q) K,i,h,?_⟩;intro s f;simp only[tW]at f;exact qV d d s f
     exact absurd a (by simp[LO])
    exact absurd a (by simp[LO])
   exact absurd a (by simp[LO])
  exact absurd a (by simp[LO])
 rw[A m]at b a⊢
 by_cases k3:e.K=3
 .rw[G k3]at b a⊢
  replace a:(RM x.W x.S x.L x.T x.H x.F x.R x.U x.O x.rs).C=0:=a;show jw x.w x.ss.length (RM x.W x.S x.L x.T x.H x.F x.R x.U x.O x.rs);obtain⟨c,i,h⟩:=t b;obtain⟨k,u,v,y,C,D,M,R,o⟩:=an c;obtain⟨E,U⟩:=Ap c;unfold RM;rw[G c];exact⟨sd (O:=0) (U:=x.U) k u v y E C D M d o U,i,h,Ho⟩
 rw[A k3]at b a⊢
 by_cases O:e.K=4
 .rw[G O]at b a⊢
  replace a:(QL x.W x.S x.L x.T x.H x.F x.R x.U x.O x.rs).C=0:=a;show jw x.w x.ss.length (QL x.W x.S x.L x.T x.H x.F x.R x.U x.O x.rs);obtain⟨c,i,h⟩:=t b;have o:=(an c).2.2.2.2.2.2.2.2;unfold QL at a⊢;rw[G c]at a⊢;have:=Ay (un c) o a;rw[<-i,<-h];exact this
 rw[A O]at b
 exact absurd b σ
theorem wT{x:Wo}(e:1<=x.w/\x.w<=8)(b:LT x.ss x.ws=true)(c:RJ x.P=true)(d:ST x.ts=true)(a:List Int):MF (x.pow a)=true:=by
 unfold MF;simp only[BF,BH];refine⟨e,(ni b a).1,?_,c,d⟩;unfold QJ RQ;simp[Wo.pow]
theorem No{x:Wo}{e:Ev}(f:MF x=true)(k:(x.call e).2=true)(l:(x.call e).1.C=0)(q:¬(2000<(SC x e (x.call e).1).length\/200<(PQ x e (x.call e).1).length)):LT (x.ran e (x.call e).1).ss (x.ran e (x.call e).1).ws=true/\(x.ran e (x.call e).1).ss.length=x.ss.length/\RJ (x.ran e (x.call e).1).P=true/\ST (x.ran e (x.call e).1).ts=true:=by
 obtain⟨n,t,u,j⟩:=sO f k l;unfold MF at f;simp only[BF,BH]at f;obtain⟨v,m,b,c,g⟩:=f;obtain⟨h,i⟩:=yM m (x.call e).1.ops (YR e (x.call e).1);refine⟨h,i,?_,?_⟩
 .unfold RJ at c⊢
  simp only[BF,BH,DI]at c⊢;show(1<=(PQ x e (x.call e).1).length/\(PQ x e (x.call e).1).length<=200)/\∀r∈PQ x e (x.call e).1,MH r=true;refine⟨⟨?_,d⟩,?_⟩
  .unfold PQ;split
   .rw[AK];omega
   omega
  intro r a
  unfold PQ at a
  split at a
  .rcases BZ.1 a with a|a
   .exact c.2 r a
   rw[DL.1 a];exact(an n).2.2.2.2.2.2.2.2
  exact c.2 r a
 unfold ST at g⊢
 simp only[BF,BH,DI]at g⊢;show(SC x e (x.call e).1).length<=2000/\∀s∈SC x e (x.call e).1,s.size=64;refine⟨d,λs b=>?_⟩;unfold SC at b;rcases BZ.1 b with b|b
 .exact g.2 s b
 refine j s ?_
 unfold OH at b⊢;obtain⟨o,p,a⟩:=List.mem_filterMap.1 b;exact List.mem_filterMap.2 ⟨o,DR p,a⟩
theorem Fp{x:Wo}(c:MF x=true)(e:Ev):MF (x.doE e)=true:=by
 have a:=c;unfold MF at c;simp only[BF,BH]at c;obtain⟨b,q,y,r,s⟩:=c;unfold Wo.doE
 split
 .exact wT b q r s _
 split
 .exact a
 rename_i m
 have j:(x.call e).2=true:=by cases h:(x.call e).2 with
  | true=>rfl
  | false=>exact absurd (.inl h) m
 have l:(x.call e).1.C=0:=Decidable.not_not.1 (λk=>m (.inr k))
 split
 .exact a
 rename_i t;obtain⟨d,u,n,f⟩:=No a j l t;obtain⟨i,o,p,v⟩:=sO a j l
 split
 .exact wT (x:=x.ran e (x.call e).1) b d n f _
 have g:∀P,QJ { (x.ran e (x.call e).1).upS (x.call e).1 with P:=P }=true:=by
  intro P;show(if true=true then OW (x.call e).1.W (x.call e).1.S (x.call e).1.L (x.call e).1.T (x.call e).1.H (x.call e).1.F (x.call e).1.R (x.call e).1.U (x.call e).1.O (x.call e).1.rs && decide ((x.call e).1.W=x.w/\(x.call e).1.S=((x.ran e (x.call e).1).ss.length:Int)) else _)=true;rw[G z,BF,BH,u];exact⟨i,o,p⟩
 split
 .unfold MF
  simp only[BF,BH];exact⟨b,d,g _,n,f⟩
 unfold MF
 simp only[BF,BH];refine⟨b,d,g _,?_,f⟩;unfold RJ;simp[(an i).2.2.2.2.2.2.2.2]
