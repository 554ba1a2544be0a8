import Derived.Laws.Bits64b
import Derived.Test.YteflhojcomcfaaaGreatDoorPrG38
import Derived.SliceStrings
import Derived.Deep.SlicePairs
import Derived.ProofKit
import Derived.ChangeOld
import Derived.ChangeSlices
import Derived.OpenShut
set_option maxHeartbeats 16000000
set_option maxRecDepth 8000
set_option linter.all false
namespace Go.Proofs.YteflhojcomcfaaaGreatDoor
section
open Tryz
open Go.RowKit
variable {p:Int}{R c n:Nat}{a:Q5}{w w':Q9}
theorem xM(a b:Nat)(g:a<4611686018427387904)(h:b<4611686018427387904):bits .xor .i64 (a:Int) (b:Int)=((a ^^^ b:Nat):Int):=by
 have i:a ^^^ b<2 ^ 62:=Nat.xor_lt_two_pow d d
 have e:(BitVec.ofInt 64 (a:Int)).toNat=a:=by
  rw[BitVec.ofInt_natCast,BitVec.toNat_ofNat];exact Nat.mod_eq_of_lt d
 have f:(BitVec.ofInt 64 (b:Int)).toNat=b:=by
  rw[BitVec.ofInt_natCast,BitVec.toNat_ofNat];exact Nat.mod_eq_of_lt d
 show IntKind.i64.wrap ((BitVec.ofInt 64 (a:Int) ^^^ BitVec.ofInt 64 (b:Int)).toNat:Int)=_;rw[BitVec.toNat_xor,e,f];simp[IntKind.wrap,IntKind.bits,IntKind.signed];omega
structure Rdr(w:Q9)(R:Nat)(a:Q5)(n c:Nat)(p:Int):Prop where
 b:w.cell? (Ki R 0)=some (Y a n c)
 pc:w.cell? (Ki R 1)=some (Z p)
 f:w.frozen? (Ki R 1)=false
 bytes:∃g o,(n=0\/a=Hw g o)/\∀i,i<n->g≠R/\∃x:Int,w.cell? (Ki g (o+i))=some (.int .u8 x)/\0<=x/\x<=255
 p0:0<=p
 p1:p<=100000000
 n1:n<=2000
theorem PT(x:Int)(b:-9223372036854775808<=x)(d:x<=9223372036854775807):IntKind.i64.wrap x=x:=by
 simp[IntKind.wrap,IntKind.bits,IntKind.signed];omega
theorem Nh(R:Nat)(a:Q5)(n c:Nat)(p m:Int)(w:Q9)(h:Rdr w R a n c p):Calls prog 8 #[Dr R 0,Z m] w λe w'=>(∃v,e=Q2 (Z v)/\0<=v/\(v=0\/v<m))/\(w'=w.setCell (Ki R 1) (Z (p+1))\/w'=(w.setCell (Ki R 1) (Z (p+1))).drew):=by
 have hb:=h.b;have hp:=h.pc;have hf:=h.f;have p0:=h.p0;have p1:=h.p1;have n1:=h.n1;obtain⟨g,o,K,f⟩:=h.bytes;have b:=LE f;clear h f;have T:IntKind.i64.wrap (p+1)=p+1:=by simp[IntKind.wrap,IntKind.bits,IntKind.signed];omega
 by_cases hm:m<1
 .go_enter func8,ntmps8
  go_wp2;go_ret;exact⟨⟨0,z,d,.inl z⟩,.inl z⟩
 by_cases B:n=0
 .subst B
  go_enter func8,ntmps8;go_wp2;go_ret;exact⟨⟨0,z,d,.inl z⟩,.inl z⟩
 obtain rfl:a=Hw g o:=K.resolve_left B
 have S:¬((n:Int)=0):=d
 by_cases hk:p<(n:Int)
 .obtain⟨k,rfl⟩:∃k:Nat,p=(k:Int):=⟨p.toNat,d⟩
  obtain⟨s,x,t,D,E⟩:=b.j k d;have A:(w.setCell (Ki R 1) (Z ((k:Int)+1))).cell? (Ki g (o+k))=some (.int .u8 x):=(DF _ _ _ _ (λe=>s e.symm)).E t;go_enter func8,ntmps8;go_wp2;go_ret;exact⟨⟨x % m,z,Int.emod_nonneg _ d,.inr (Int.emod_lt_of_pos _ d)⟩,.inl z⟩
 obtain⟨k,rfl⟩:∃k:Nat,p=(k:Int):=⟨p.toNat,d⟩
 obtain⟨i,u⟩:∃i:Nat,(k:Int) % (n:Int)=(i:Int):=⟨k % n,j⟩;obtain⟨r,v⟩:∃r:Nat,((k:Int)*7+3) % (n:Int)=(r:Int):=⟨(k*7+3) % n,j⟩;have L:i<n:=by have:=Int.emod_lt_of_pos (k:Int) (b:=(n:Int)) d;omega
 have M:r<n:=by have:=Int.emod_lt_of_pos ((k:Int)*7+3) (b:=(n:Int)) d;omega
 obtain⟨s,x,t,D,E⟩:=b.j i L;obtain⟨_,y,G,l,aY⟩:=b.j r M;have A:(w.setCell (Ki R 1) (Z ((k:Int)+1))).cell? (Ki g (o+i))=some (.int .u8 x):=(DF _ _ _ _ (λe=>s e.symm)).E t;have H:(w.setCell (Ki R 1) (Z ((k:Int)+1))).cell? (Ki g (o+r))=some (.int .u8 y):=(DF _ _ _ _ (λe=>s e.symm)).E G;obtain⟨q,f⟩:∃q:Int,(k:Int) / (n:Int)=q:=⟨_,z⟩;have U:0<=q:=by rw[<-f];exact Int.ediv_nonneg d d
 have W:q<=(k:Int):=by rw[<-f];exact Int.ediv_le_self _ d
 have N:(k:Int).tmod (n:Int)=(i:Int):=by rw[DQ d];exact u
 have O:((k:Int)*7+3).tmod (n:Int)=(r:Int):=by rw[DQ d];exact v
 have X:(k:Int).tdiv (n:Int)=q:=by rw[Int.tdiv_eq_ediv_of_nonneg d];exact f
 have aZ:(i:Int)<(n:Int):=d
 have bB:(r:Int)<(n:Int):=d
 have w1:IntKind.i64.wrap ((k:Int)*7)=(k:Int)*7:=by simp[IntKind.wrap,IntKind.bits,IntKind.signed];omega
 have w2:IntKind.i64.wrap ((k:Int)*7+3)=(k:Int)*7+3:=by simp[IntKind.wrap,IntKind.bits,IntKind.signed];omega
 clear b u v f;go_enter func8,ntmps8;go_wp2;have C:(w.setCell (Ki R 1) (Z ((k:Int)+1))).cell? (Ki R 0)=some (Y (Hw g o) n c):=γ
 have v:=LE (I C (I A H))
 go_region_held3 (λw'=>w'.cell? (Ki R 0)=some (Y (Hw g o) n c)/\w'.cell? (Ki g (o+i))=some (.int .u8 x)/\w'.cell? (Ki g (o+r))=some (.int .u8 y))
  (first|assumption|exact v.j)
  (fail)
 obtain⟨V,b⟩:∃V,IntKind.i64.wrap (IntKind.i64.wrap (IntKind.i64.wrap (IntKind.i64.wrap (IntKind.i64.wrap x*131)+IntKind.i64.wrap (IntKind.i64.wrap y*1117))+IntKind.i64.wrap ((k:Int)*29))+IntKind.i64.wrap (IntKind.i64.wrap q*53))=V:=⟨_,z⟩
 have f:V=x*131+y*1117+(k:Int)*29+q*53:=by
  rw[<-b,PT x d d,PT y d d,PT q d d,PT (x*131) d d,PT (y*1117) d d,PT ((k:Int)*29) d d,PT (q*53) d d,PT (x*131+y*1117) d d,PT (x*131+y*1117+(k:Int)*29) d d,PT (x*131+y*1117+(k:Int)*29+q*53) d d]
 rw[b];have P:0<=V:=d
 have Q:V<=1000000000000:=d
 clear b f;obtain⟨f,rfl⟩:∃f:Nat,V=(f:Int):=⟨V.toNat,d⟩
 have F:bits .xor .i64 (f:Int) ((f:Int) / 64)=((f ^^^ (f / 64):Nat):Int):=by
  have e:((f:Int) / 64)=((f / 64:Nat):Int):=d
  rw[e];exact xM f (f / 64) d d
 obtain⟨b,J⟩:∃b:Nat,f ^^^ (f / 64)=b:=⟨_,z⟩;rw[J]at F;have u:((b:Int)).tmod m=(b:Int) % m:=DQ d;go_wp2;go_ret;refine⟨⟨(b:Int) % m,?_,Int.emod_nonneg _ d,.inr (Int.emod_lt_of_pos _ d)⟩,.inr z⟩
 first|rfl|(rw[<-u];rfl)|(simp[u])
theorem Rdr.set(h:Rdr w R a n c p)(q:Int)(r:0<=q)(s:q<=100000000):Rdr (w.setCell (Ki R 1) (Z q)) R a n c q:=by
 obtain⟨g,o,j,m⟩:=h.bytes;refine⟨(DE w (Ki R 1) (Ki R 0) _ (λe=>absurd (BD Addr.off e) (by show ¬(1=0);decide))).E h.b,FJ w _ _ h.pc,by rw[BW];exact h.f,⟨g,o,j,λi l=>?_⟩,r,s,h.n1⟩;obtain⟨b,x,k,d,f⟩:=m i l;exact⟨b,x,(DF _ _ _ _ (λe=>b e.symm)).E k,d,f⟩
theorem Rdr.drew(h:Rdr w R a n c p):Rdr w.drew R a n c p:=⟨h.b,h.pc,h.f,h.bytes,h.p0,h.p1,h.n1⟩
theorem zC(w:Q9)(R:Nat)(v:Ra):w.grownBy (w.setCell (Ki R 1) v) (some R) :=⟨z,z,z,by rw[BI];exact C,λi d b=>BM _ _ _ _ (λe=>b (BD some e))⟩
theorem TT(R:Nat)(a:Q5)(n c:Nat)(p m:Int)(w:Q9)(h:Rdr w R a n c p)(g:p<100000000):Calls prog 8 #[Dr R 0,Z m] w λe w'=>(∃v,e=Q2 (Z v)/\0<=v/\(v=0\/v<m))/\Rdr w' R a n c (p+1)/\w.grownBy w' (some R):=by
 have i:=h.p0
 refine(Nh R a n c p m w h).J λe w' f=>?_
 obtain⟨hv,rfl|rfl⟩:=f
 .exact⟨hv,h.set (p+1) d d,zC w R _⟩
 refine⟨hv,(h.set (p+1) d d).drew,?_⟩
 have b:=zC w R (Z (p+1));exact⟨b.os,b.tape,b.output,b.size,b.block⟩
def Bys(w:Q9)(a:Q5)(n:Nat):Prop:=∃g o,(n=0\/a=Hw g o)/\∀i,i<n->g<w.heap.size/\∃x:Int,w.cell? (Ki g (o+i))=some (.int .u8 x)/\0<=x/\x<=255
theorem Bys.I(h:Bys w a n)(b:Q3 w w'):Bys w' a n:=by
 obtain⟨g,o,j,m⟩:=h;refine⟨g,o,j,λi l=>?_⟩;obtain⟨d,x,k,e,f⟩:=m i l;exact⟨AC d b.size,x,(b.cell (p:=(Ki g (o+i))) d).E k,e,f⟩
theorem Bys.rdr{m:Nat}(h:Bys w a n)(r:m<=n)(f:m<=2000)(c:Nat)(t:TypeId):Rdr (w.alloc (.cells #[Y a m c,Z 0] t)) w.heap.size a m c 0:=by
 obtain⟨g,o,j,l⟩:=h;refine⟨σ,σ,?_,⟨g,o,?_,λi q=>?_⟩,ω,ω,f⟩
 .rw[DU]
  have e:w.heap[w.heap.size]?=none:=σ
  simp[World.frozen?,e]
 .rcases j with h|h
  .exact .inl ω
  exact .inr h
 obtain⟨k,x,e,b,d⟩:=l i ω
 exact⟨ω,x,(ES _ _ _ (by exact k)).E e,b,d⟩
theorem Le(a:Q5)(n c:Nat)(w:Q9)(h:Bys w a n)(l:n<=1048576)(k:n<=c):Calls prog 7 #[Y a n c] w λe w'=>e=Q2 (Dr w.heap.size 0)/\(∃m b,Rdr w' w.heap.size a m b 0)/\Q3 w w':=by
 by_cases f:n<=2000
 .have e:(n:Int)<=2000:=d
  go_enter func7,ntmps7;go_wp2;go_ret;exact⟨z,⟨n,c,h.rdr C f c _⟩,LH _ _⟩
 have e:2000<(n:Int):=d
 have j:(2000:Int)<=(c:Int):=d
 have b:=LE (h.rdr (m:=2000) d C c 69);obtain⟨g,o,i,m⟩:=h;obtain rfl:a=Hw g o:=i.resolve_left d;go_enter func7,ntmps7;go_wp2;go_ret;exact⟨z,⟨2000,c,b.j⟩,LH _ _⟩
theorem jq{g i:Nat}{v:Ra}(h:w.cell? (Ki g i)=some v):g<w.heap.size:=by
 rcases FV g w.heap.size with b|b
 .exact b
 exfalso
 have:w.heap[g]?=none:=EF b;simp[World.cell?,this]at h
theorem Rdr.I(h:Rdr w R a n c p)(b:Q3 w w'):Rdr w' R a n c p:=by
 obtain⟨g,o,l,q⟩:=h.bytes;have d:=jq h.pc;refine⟨(b.cell (p:=(Ki R 0)) d).E h.b,(b.cell (p:=(Ki R 1)) d).E h.pc,(b.frozen (p:=(Ki R 1)) d).E h.f,⟨g,o,l,λi m=>?_⟩,h.p0,h.p1,h.n1⟩;obtain⟨f,x,e,j,k⟩:=q i m;exact⟨f,x,(b.cell (p:=(Ki g (o+i))) (jq e)).E e,j,k⟩
def nj(W:Q9)(R:Nat)(a:Q5)(n c:Nat)(p:Int)(d:Int)(w:Q9):Prop:=(∃q,p<=q/\q<=p+d/\Rdr w R a n c q)/\W.grownBy w (some R)
theorem Qu(t b:Q4){k:Int}(h:(t.size:Int)+k<=4):((t++b.extract 0 1).size:Int)+(k-1)<=4:=by
 rw[AP];have:(b.extract 0 1).size<=1:=by simp only[AQ];omega
 omega
theorem uk(w:Q9)(o:Obj):Q3 w (w.alloc o):=LH _ _
theorem Rdr.keep{N:Nat}(h:Rdr w R a n c p)(d:R<N)(m:∀g o,a=Hw g o->0<n->g<N)(b:Below N w w'):Rdr w' R a n c p:=by
 obtain⟨g,o,e,r⟩:=h.bytes;refine⟨(b.cell (p:=(Ki R 0)) d).E h.b,(b.cell (p:=(Ki R 1)) d).E h.pc,(b.frozen (p:=(Ki R 1)) d).E h.f,⟨g,o,e,λi q=>?_⟩,h.p0,h.p1,h.n1⟩;obtain⟨f,x,l,j,k⟩:=r i q;exact⟨f,x,(b.cell (p:=(Ki g (o+i))) (m g o (e.resolve_left ω) ω)).E l,j,k⟩
theorem p9(s:Q4)(n:Int)(w:Q9)(K:Nat)(o:s.size*n.toNat=K)(I:K<=64000)(B:s.size<=64000)(v:n<=64000):Calls prog 11 #[Ow s,Z n] w λe w'=>(∃t:Q4,e=Q2 (Ow t)/\t.size=K)/\Q3 w w':=by
 go_enter func11,ntmps11;go_wp2;go_loop [0,1,5] (λf b e=>∃(t u:Q4) (m:Int),f=Ow t/\b=Z m/\e=Ow u/\m<=64000/\Hid (t.size*m.toNat+u.size=K)/\t.size<=128000) (λ_ b _=>(intOf b).toNat)
 case atStart=>exact⟨s,ByteArray.empty,n,z,z,z,v,by show _=_;rw[o];rfl,d⟩
 case round =>
  obtain⟨t,u,m,rfl,rfl,rfl,G,e,J⟩:=hrel
  by_cases E:0<m
  .obtain⟨q,r,j,H⟩:∃q r:Nat,m.toNat=2*q+r/\r<2:=⟨m.toNat / 2,m.toNat % 2,d,d⟩
   have y:m=2*(q:Int)+(r:Int):=d
   have b:=e.j;rw[j,Nat.mul_add]at b;have l:t.size*(2*q)=2*(t.size*q):=by rw[Nat.mul_left_comm]
   rw[l]at b;obtain⟨P,i⟩:∃P,t.size*q=P:=⟨_,z⟩;rw[i]at b
   have C:t.size<=64000:=by
    rcases GK r with h|h
    .subst h
     have f:1<=q:=d
     have:t.size<=t.size*q:=Nat.le_mul_of_pos_right _ f;omega
    have:t.size*1<=t.size*r:=Nat.mul_le_mul_left _ h
    omega
   have L:¬(9223372036854775807<t.size+t.size):=d
   have F:m.tdiv 2=(q:Int):=by rw[Int.tdiv_eq_ediv_of_nonneg d];omega
   have x:m / 2=(q:Int):=d
   rcases GK r with h|h
   .subst h
    have A:m % 2=0:=d
    have g:¬(m % 2=1):=d
    have k:¬(m.tmod 2=1):=by rw[DQ d];omega
    have f:Hid ((t++t).size*((q:Int)).toNat+u.size=K):=by
     show _=_;rw[DO,AP,ID,i];omega
    clear e b j;go_wp2;exact⟨⟨_,_,_,z,z,z,d,f.j,by rw[AP];omega⟩,by simp[intOf];omega⟩
   have g:r=1:=d
   subst g;have g:m % 2=1:=d
   have k:m.tmod 2=1:=by rw[DQ d];omega
   have A:¬(9223372036854775807<u.size+t.size):=d
   have f:Hid ((t++t).size*((q:Int)).toNat+(u++t).size=K):=by
    show _=_;rw[DO,AP,AP,ID,i];omega
   clear e b j;go_wp2;exact⟨⟨_,_,_,z,z,z,d,(by rw[show((2*(q:Int)+1) / 2)=(q:Int) by omega];exact f.j),by rw[AP];omega⟩,by simp[intOf];omega⟩
  go_wp2
  go_ret;exact⟨⟨u,z,by have:=e.j;rw[show m.toNat=0 by omega,Nat.mul_zero,BK]at this;exact this⟩,D⟩
theorem Ko(R:Nat)(a:Q5)(n c:Nat)(p:Int)(w:Q9)(h:Rdr w R a n c p)(K:p<99999000):Calls prog 23 #[Dr R 0] w λe w'=>(∃t:Q4,e=Q2 (Ow t)/\t.size<=100)/\nj w R a n c p 10 w':=by
 have I:=jq h.pc;have N:=h.p0;go_enter func23,ntmps23;go_wp2_with fail;refine(TT R a n c p 8 _ h d).J ?_;rintro e T ⟨⟨v,rfl,Q,S⟩,f,b⟩
 by_cases s:v=0
 .subst s
  go_wp2;go_ret;exact⟨⟨_,z,δ⟩,⟨p+1,d,d,f⟩,b⟩
 by_cases y:v=1
 .subst y
  go_wp2;go_ret;exact⟨⟨_,z,δ⟩,⟨p+1,d,d,f⟩,b⟩
 by_cases A:v=2
 .subst A
  go_wp2_with fail;refine(TT R a n c (p+1) 21 _ f d).J ?_;rintro e D ⟨⟨u,rfl,u0,u1⟩,i,g⟩;have C:IntKind.i64.wrap (5+u)=5+u:=PT _ d d;go_wp2_with fail;refine(p9 _ (5+u) _ _ z (by show 4*_<=_;omega) (by show 4<=_;omega) d).J ?_;rintro e E ⟨⟨t,rfl,j⟩,k⟩;replace j:t.size<=100:=by rw[j];show 4*_<=_;omega
  go_wp2;go_ret;exact⟨⟨t,z,j⟩,⟨p+1+1,d,d,i.I k⟩,OE (OE b g) (VS _ k)⟩
 by_cases B:v=3
 .subst B
  go_wp2;go_ret;exact⟨⟨_,z,δ⟩,⟨p+1,d,d,f⟩,b⟩
 go_wp2_with fail;refine(TT R a n c (p+1) 4 _ f d).J ?_;rintro e D ⟨⟨u,rfl,u0,u1⟩,i,g⟩;have C:IntKind.i64.wrap (1+u)=1+u:=PT _ d d;have o:=LE i;have l:=LE (OE b g);clear f b i g h;go_wp2;go_loopw [3,4] (λf b wr=>∃(t:Q4) (k q:Int),f=Ow t/\b=Z k/\0<=k/\k<=4/\(t.size:Int)+k<=4/\p<=q/\q+k<=p+6/\Rdr wr R a n c q/\w.grownBy wr (some R)) (λ_ b _=>(intOf b).toNat)
 case atStart=>exact⟨⟨#[]⟩,1+u,p+1+1,z,z,d,d,by show(0:Int)+(1+u)<=4;omega,d,d,o.j,l.j⟩
 case round =>
  obtain⟨t,k,q,rfl,rfl,L,M,H,O,P,f,b⟩:=hrel
  by_cases J:0<k
  .have g:=LE b
   clear b;go_wp2_with fail;refine(TT R a n c q 4 _ f d).J ?_;rintro e E ⟨⟨x,rfl,F,G⟩,j,i⟩;have r:=LE j;have m:=LE (OE g.j i);clear j i f g;have i:IntKind.i64.wrap (k-1)=k-1:=PT _ d d;have j:t.size<=4:=d
   have U:¬(9223372036854775807<t.size+1):=d
   have g:x=0\/x=1\/x=2\/x=3:=d
   clear F G;rcases g with rfl|rfl|rfl|rfl
   all_goals go_wp2
   all_goals go_roundw
   all_goals first
    | exact⟨_,k-1,q+1,rfl,rfl,d,d,Qu _ _ d,d,d,r.j,m.j⟩
    | (simp[intOf];omega)
  go_wp2
  go_ret;exact⟨⟨t,z,d⟩,⟨q,d,d,f⟩,b⟩
theorem Ej(w:Q9)(b:Nat)(n:Int)(h:w.cell? (Ki b 0)=some (.int .u8 n)):(convert 22 9 (Y (Hw b 0) 1 1)).run prog w=.ok (Ow (strOfNums [n])) w :=EO (P:=prog) _ 22 5 underlying22 underlying5 b 0 1 1 [n] z (λi e=>by
  have:i=0:=d
  subst this;simpa using h) 9 underlying9
theorem L4(b:Q4)(i:Nat)(h:i<b.size):(b[i]'h).toNat=(b.data.toList.getD i 0).toNat:=by
 have d:i<b.data.toList.length:=h;rw[AY,AO d];rfl
theorem N4(x:Nat)(h:x<8):∃b:Nat,IntKind.i64.wrap ((2:Int) ^ x)=(b:Int)/\b<=128/\2 ^ x=b:=by
 refine⟨2 ^ x,?_,?_,z⟩<;>(have e:x=0\/x=1\/x=2\/x=3\/x=4\/x=5\/x=6\/x=7:=d;rcases e with rfl|rfl|rfl|rfl|rfl|rfl|rfl|rfl<;>decide)
theorem Gn(v:Int)(n:Nat)(e:0<=v)(f:v<=255)(h:n<=100000000):∃P:Int,∃i:Nat,v*((n:Int)+1)=P/\0<=P/\P<=100000000000/\P.tdiv 256=(i:Int)/\P / 256=(i:Int)/\i<=n:=by
 obtain⟨x,rfl⟩:∃x:Nat,v=(x:Int):=⟨v.toNat,d⟩;have b:x<=255:=d
 have g:x*(n+1)<=255*(n+1):=Nat.mul_le_mul_right _ b;refine⟨((x*(n+1):Nat):Int),x*(n+1) / 256,j,d,d,?_,d,d⟩;rw[Int.tdiv_eq_ediv_of_nonneg d];omega
theorem Jp(R:Nat)(a:Q5)(n c:Nat)(p:Int)(s:Q4)(w:Q9)(m:Rdr w R a n c p)(hp:p<99999000)(hs:s.size<=100000000):Calls prog 10 #[Dr R 0,Ow s] w λe w'=>(∃t:Q4,e=Q2 (Ow t)/\t.size<=2*s.size+1)/\nj w R a n c p 10 w':=by
 have hR:=jq m.pc;have p0:=m.p0;go_enter func10,ntmps10;go_wp2_with fail;refine(TT R a n c p 256 _ m d).J ?_;rintro e w1 ⟨⟨v,rfl,b,g⟩,q,k⟩;obtain⟨U,i,B,P0,P1,t,r,hi⟩:=Gn v s.size b d hs;have bU:IntKind.i64.wrap ((s.size:Int)+1)=(s.size:Int)+1:=PT _ d d;have A:IntKind.i64.wrap U=U:=PT _ d d;have bV:IntKind.i64.wrap (i:Int)=(i:Int):=PT _ d d;have bW:IntKind.i64.wrap ((i:Int)+1)=(i:Int)+1:=PT _ d d
 have z1:∀x y:Nat,x+y<=1000000000->¬(9223372036854775807<x+y):=λx y o=>d
 have bR:(i:Int)<=(s.size:Int):=d
 clear m b g;go_wp2_with fail;refine(TT R a n c (p+1) 5 _ q d).J ?_;rintro e K ⟨⟨g,rfl,u0,u1⟩,b,o⟩;have F:=LE b;have E:=LE (OE k o);have cC:=jq b.pc;clear q k o b B t r A;have e0:(s.extract 0 i).size=i:=by simp only[AQ];omega
 have e1:(s.extract i s.size).size=s.size-i:=by simp only[AQ];omega
 have hu:g=0\/g=1\/g=2\/g=3\/g=4:=d
 clear u0 u1;rcases hu with rfl|rfl|rfl|rfl|rfl
 .go_wp2
  go_ret;exact⟨⟨_,z,d⟩,⟨p+1+1,d,d,F.j⟩,E.j⟩
 .go_wp2_with fail
  refine AN (S:=λw'=>True/\True) h (⟨trivial,trivial⟩) (λo=>?_);refine TY 0 (Ow s) z o (TY 1 (Z (i:Int)) z o (TY 2 (Ow (s.extract 0 i)) z o (TY 4 (Dr R 0) z o (TY 9 (Ow s) z o (TY 10 (Z (i:Int)) z o (TY 11 (Ow (s.extract i s.size)) z o ?_))))));simp only[PS];refine EU (rs:=[3,5]) h σ ?_;refine DA z (λA q=>?_) (DA z (λA q=>?_) EQ)
  focus
   go_simp;obtain⟨G,t⟩:=u ((K.alloc (.cells #[Ow ⟨#[32]⟩,Ow ⟨#[10]⟩,Ow ⟨#[0]⟩,Ow ⟨#[1]⟩,Ow ⟨#[48]⟩,Ow ⟨#[120]⟩] 9)).drew);have C:Q3 K G:=by rw[t];exact(uk _ _).drew
   have r:Row G K.heap.size [Ow ⟨#[32]⟩,Ow ⟨#[10]⟩,Ow ⟨#[0]⟩,Ow ⟨#[1]⟩,Ow ⟨#[48]⟩,Ow ⟨#[120]⟩]:=by rw[t];exact(LZ _ _ _).drew
   rw[<-t];clear t;obtain⟨B4,b⟩:=u K.heap.size;rw[<-b]at r⊢;have T:B4≠R:=by rw[b];show K.heap.size≠R;omega
   have O:=F.j.I C;have N:w.grownBy G (some R):=OE E.j (VS (some R) C);clear b;refine q.j _ _ o (λ_=>?_)
   try simp only[PS]
   refine RD 5 z (λA q=>?_);refine LM f _ _ l (TT R a n c (p+1+1) 6 _ (O) d) ?_;rintro e y ⟨⟨H,rfl,S,t⟩,J,b⟩;refine⟨_,z,?_⟩;have I:=OE N b;obtain⟨x,rfl⟩:∃k:Nat,H=(k:Int):=⟨H.toNat,d⟩;have W:x<6:=d
   have V:(x:Int)<6:=d
   clear t;have r:=r.V b (λe=>by injection e with e;exact T e);have P:=J;have M:=I;clear b;refine q.j _ _ o (λ_=>?_)
   try simp only[PS]
   refine TY 6 (Dr B4 x) z o ?_;simp only[PS];obtain⟨Q,b⟩:=u y;rw[<-b]at r P M⊢;clear b;have B:=o
  rotate_left
  focus
   refine LM f _ _ l (TT R a n c (p+1+1) 6 _ (F.j.drew) d) ?_;rintro e y ⟨⟨H,rfl,S,t⟩,J,b⟩;refine⟨_,z,?_⟩;have I:=OE (OE E.j (VS (some R) (D).drew)) b;obtain⟨x,rfl⟩:∃k:Nat,H=(k:Int):=⟨H.toNat,d⟩;have W:x<6:=d
   have V:(x:Int)<6:=d
   clear t;clear b;refine q.j _ _ o (λ_=>?_)
   try simp only[PS]
   refine RD 3 z (λA q=>?_);go_simp;obtain⟨G,t⟩:=u (y.alloc (.cells #[Ow ⟨#[32]⟩,Ow ⟨#[10]⟩,Ow ⟨#[0]⟩,Ow ⟨#[1]⟩,Ow ⟨#[48]⟩,Ow ⟨#[120]⟩] 9));have C:Q3 y G:=by rw[t];exact(uk _ _)
   have r:Row G y.heap.size [Ow ⟨#[32]⟩,Ow ⟨#[10]⟩,Ow ⟨#[0]⟩,Ow ⟨#[1]⟩,Ow ⟨#[48]⟩,Ow ⟨#[120]⟩]:=by rw[t];exact(LZ _ _ _)
   rw[<-t];clear t;obtain⟨B4,b⟩:=u y.heap.size;rw[<-b]at r⊢;have P:=J.I C;have M:=OE I (VS (some R) C);clear b;refine q.j _ _ o (λ_=>?_)
   try simp only[PS]
   refine TY 6 (Dr B4 x) z o ?_;simp only[PS];obtain⟨Q,b⟩:=u G;rw[<-b]at r P M⊢;clear b;have B:=o
  all_goals
   refine RD 7 z (λA q=>?_)
   obtain⟨b,X,j⟩:∃b:Q4,Q.cell? (Ki B4 x)=some (Ow b)/\b.size=1:=by
    have t:x=0\/x=1\/x=2\/x=3\/x=4\/x=5:=d
    rcases t with rfl|rfl|rfl|rfl|rfl|rfl
    .exact⟨_,r.y 0,f⟩
    .exact⟨_,r.y 1,f⟩
    .exact⟨_,r.y 2,f⟩
    .exact⟨_,r.y 3,f⟩
    .exact⟨_,r.y 4,f⟩
    exact⟨_,r.y 5,f⟩
   have t:¬(9223372036854775807<i+1):=d
   have L:¬(9223372036854775807<(s.extract 0 i).size+b.size):=d
   have z4:¬(9223372036854775807<(s.extract 0 i).size+b.size+(s.extract i s.size).size):=d
   have z5:¬(9223372036854775807<(s.extract 0 i++b).size+(s.extract i s.size).size):=by rw[AP];omega
   have z6:¬(9223372036854775807<i+1+(s.size-i)):=d
   go_simp;refine q.j _ _ B (λ_=>?_)
   try simp only[PS]
   refine TY 8 (Ow (s.extract 0 i++b)) z B (TY 12 (Ow (s.extract 0 i++b++s.extract i s.size)) z B ?_);simp only[PS];refine RD 13 z (λA q=>?_);go_simp;refine q.j _ _ B (λ_=>?_)
   try simp only[PS]
   refine DN ?_;go_wp2;go_ret;exact⟨⟨_,z,by simp only[AP];omega⟩,⟨p+1+1+1,d,d,P⟩,M⟩
 .by_cases V:i<s.size
  .have Q:(i:Int)<(s.size:Int):=d
   have X:(i:Int)+1<=(s.size:Int):=d
   have W:¬((i:Int)+1<0):=d
   have e2:(s.extract (i+1) s.size).size=s.size-(i+1):=by simp only[AQ];omega
   have t:¬(9223372036854775807<i+(s.size-(i+1))):=d
   have L:¬(9223372036854775807<(s.extract 0 i).size+(s.extract (i+1) s.size).size):=d
   go_wp2_with fail;refine AN (S:=λw'=>True) h (trivial) (λo=>?_);refine TY 0 (Ow s) z o (TY 1 (Z (i:Int)) z o (TY 2 (Ow (s.extract 0 i)) z o (TY 3 (Ow s) z o (TY 4 (Z (i:Int)) z o (TY 5 (Z ((i:Int)+1)) z o (TY 6 (Ow (s.extract (i+1) s.size)) z o (TY 7 (Ow (s.extract 0 i++s.extract (i+1) s.size)) z o ?_)))))));simp only[PS];refine RD 8 z (λA q=>?_);go_simp;refine q.j _ _ o (λ_=>?_)
   try simp only[PS]
   refine DN ?_;go_wp2;go_ret;exact⟨⟨_,z,by simp only[AP];omega⟩,⟨p+1+1,d,d,F.j.drew⟩,OE E.j (VS (some R) (D).drew)⟩
  have Q:¬(i:Int)<(s.size:Int):=d
  have t:¬(9223372036854775807<s.size+(s.size-i)):=d
  have L:¬(9223372036854775807<s.size+(s.extract i s.size).size):=d
  go_wp2;go_ret;exact⟨⟨_,z,by rw[AP];omega⟩,⟨p+1+1,d,d,F.j⟩,E.j⟩
 .by_cases V:i<s.size
  .have Q:(i:Int)<(s.size:Int):=d
   have X:(i:Int)+1<=(s.size:Int):=d
   have W:¬((i:Int)+1<0):=d
   have e2:(s.extract (i+1) s.size).size=s.size-(i+1):=by simp only[AQ];omega
   have gb:=L4 s i V;obtain⟨B,b⟩:=u ((s.data.toList.getD i 0).toNat:Nat);rw[<-b]at gb;have bG:B<=255:=by rw[b];have:=GU (s.data.toList.getD i 0);omega
   clear b;have bH:IntKind.i64.wrap (B:Int)=(B:Int):=PT _ d d;go_wp2_with fail;refine AN (S:=λw'=>True) h (trivial) (λo=>?_);refine TY 0 (Ow s) z o (TY 1 (Z (i:Int)) z o (TY 2 (Ow (s.extract 0 i)) z o (TY 3 (Ow s) z o (TY 4 (Z (i:Int)) z o (TY 5 (.int .u8 (B:Int)) z o (TY 6 (Z (B:Int)) z o (TY 7 (Dr R 0) z o (TY 16 (Ow s) z o (TY 17 (Z (i:Int)) z o (TY 18 (Z ((i:Int)+1)) z o (TY 19 (Ow (s.extract (i+1) s.size)) z o ?_)))))))))));simp only[PS];refine RD 8 z (λA q=>?_);refine LM f _ _ l (TT R a n c (p+1+1) 8 _ F.j.drew d) ?_;rintro e y ⟨⟨H,rfl,S,t⟩,J,b⟩;refine⟨_,z,?_⟩;have I:=OE (OE E.j (VS (some R) (D).drew)) b;obtain⟨x,rfl⟩:∃k:Nat,H=(k:Int):=⟨H.toNat,d⟩
   have j:x<8:=d
   clear t S b;have bZ:IntKind.u64.wrap (x:Int)=(x:Int):=by simp[IntKind.wrap,IntKind.bits,IntKind.signed];omega
   obtain⟨M,bI,bJ,bP⟩:=N4 x j;have bY:=xM B M d d;obtain⟨b,hY⟩:∃b:Int,IntKind.u8.wrap ((B ^^^ M:Nat):Int)=b:=⟨_,z⟩;refine q.j _ _ o (λ_=>?_)
   try simp only[PS]
   refine TY 9 (.int .u64 (x:Int)) z o (TY 10 (Z (M:Int)) z o (TY 11 (Z ((B ^^^ M:Nat):Int)) z o (TY 12 (.int .u8 b) z o ?_)));simp only[PS];refine RD 13 z (λA q=>?_);go_simp;have C:Q3 y (y.alloc (.cells #[.int .u8 b] 5)):=uk _ _;have r:Row (y.alloc (.cells #[.int .u8 b] 5)) y.heap.size [.int .u8 b]:=LZ _ _ _;have O:=J.I C;have N:=OE I (VS (some R) C);have P:=Ej _ _ _ (r.y 0);have S:(strOfNums [b]).size=1:=by rw[CY];rfl
   obtain⟨T,t⟩:=u (strOfNums [b]);rw[<-t]at P S;clear t;obtain⟨G,t⟩:=u (y.alloc (.cells #[.int .u8 b] 5));rw[<-t]at C r O N P⊢;clear t;have L:¬(9223372036854775807<(s.extract 0 i).size+T.size):=d
   have z5:¬(9223372036854775807<(s.extract 0 i++T).size+(s.extract (i+1) s.size).size):=by rw[AP];omega
   have t:¬(9223372036854775807<i+1):=d
   have z6:¬(9223372036854775807<i+1+(s.size-(i+1))):=d
   refine q.j _ _ o (λ_=>?_)
   try simp only[PS]
   refine RD 14 z (λA q=>?_);have _c:=P;go_simp;refine q.j _ _ o (λ_=>?_)
   try simp only[PS]
   refine TY 15 (Ow (s.extract 0 i++T)) z o (TY 20 (Ow (s.extract 0 i++T++s.extract (i+1) s.size)) z o ?_);simp only[PS];refine RD 21 z (λA q=>?_);go_simp;refine q.j _ _ o (λ_=>?_)
   try simp only[PS]
   refine DN ?_;go_wp2;go_ret;exact⟨⟨_,z,by simp only[AP];omega⟩,⟨p+1+1+1,d,d,O⟩,N⟩
  have Q:¬(i:Int)<(s.size:Int):=d
  have t:¬(9223372036854775807<s.size+(s.size-i)):=d
  have L:¬(9223372036854775807<s.size+(s.extract i s.size).size):=d
  go_wp2;go_ret;exact⟨⟨_,z,by rw[AP];omega⟩,⟨p+1+1,d,d,F.j⟩,E.j⟩
 have t:¬(9223372036854775807<s.size+(s.size-i)):=d
 have L:¬(9223372036854775807<s.size+(s.extract i s.size).size):=d
 go_wp2;go_ret;exact⟨⟨_,z,by rw[AP];omega⟩,⟨p+1+1,d,d,F.j⟩,E.j⟩
end
section
open Tryz
open Go.RowKit Go.ChangeShapes Go.WideShapes Go.Deep
section
variable {H:Type} {enc:TypeId×Ra->H} {P:Program} {w:Q9} {base:Nat} {spare:Nat->Bool} {held:Bool}
theorem Qb{a:Addr}{i:Nat}{v:Ra}(h:w.cell? (a.add i)=some v)(c:∃u,w.cell? (a.add 0)=some u):∃b o,a=(Ki b o):=by
 obtain⟨b,o,s⟩:=a;obtain⟨u,e⟩:=c;have d:s=none:=by simpa[Addr.add] using World.cell?_spot e
 exact⟨b,o,by rw[d]⟩
theorem Ac(b o i:Nat):((Ki b o):Addr).add i=(Ki b (o+i)):=by unfold Addr.add;split<;>simp_all
end
end
section
open Tryz
open Go.RowKit Go.ChangeShapes Go.WideShapes Go.Deep
section
variable {H:Type} {enc:TypeId×Ra->H} {P:Program} {w:Q9} {base:Nat} {spare:Nat->Bool} {held:Bool}
theorem Hp{t e:TypeId}{p:Nat}{v:Ra}{x:DataW H×List MemPlace}(y:P.underlying t=some (.slice e))(s:P.underlying e=some (.int .u8))(r:P.cellsOf e=1)
  (h:DataW.trod enc P w base spare held p t [v]=some x):∃a n c,v=Y a n c/\Bys w a n/\n<=c/\n<=maxLen:=by
 rcases open_ints y s r h with ⟨c,_⟩|⟨a,j,k,m,c,_,u,D,A,_,f,n⟩
 .simp at c
  exact⟨none,0,0,by simpa using c,⟨0,0,.inl z,λi g=>absurd g d⟩,C,AL⟩
 simp at c
 have B:j<=m.length:=by rw[A];split<;>omega
 refine⟨some a,j,k,c,?_,u,d⟩
 by_cases q:j=0
 .subst q
  exact⟨0,0,.inl z,λi g=>absurd g d⟩
 obtain⟨b,o,rfl⟩:=Qb (f 0 d) ⟨_,f 0 d⟩
 have l:=DP w _ (f 0 d);rw[Ac]at l;refine⟨b,o,.inr z,λi g=>⟨l,m.getD i 0,?_,?_⟩⟩
 .have:=f i d
  rwa [Ac]at this
 rw[AY]
 exact range_u8 n i
end
