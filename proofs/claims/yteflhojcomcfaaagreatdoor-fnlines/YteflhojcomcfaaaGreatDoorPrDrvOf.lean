import Derived.Test.YteflhojcomcfaaaGreatDoorPrG35
set_option maxHeartbeats 16000000
namespace Go.Proofs.YteflhojcomcfaaaGreatDoor
open _root_.ByteArray(empty)
open Tryz
open Go.RowKit
set_option linter.all false
theorem yH:(prog.info? 123).map (λi=>(i.zero,i.size,i.bytes))=some (some (.agg QX),65,72):=h
def YT(a:List Q4)(k:Nat):List (List Int):=(a.take k).map LF++List.replicate (a.length-k) (List.replicate 64 0)
theorem Hk(a:List Q4)(k:Nat)(h:k<=a.length):(YT a k).length=a.length:=by simp[YT];omega
theorem K3(a:List Q4)(k:Nat)(h:a.length<=k):YT a k=a.map LF:=by unfold YT;rw[AS h,show a.length-k=0 by omega];simp
theorem Gk(a:List Q4)(k:Nat)(h:k<a.length):(YT a k).set k (LF (a.getD k empty))=YT a (k+1):=by
 unfold YT;rw[IS _ _ q];have b:k-((a.take k).map LF).length=0:=q
 rw[b,show a.length-k=(a.length-(k+1))+1 by omega,LB,DM,BJ h,DC,BY];simp[List.getD,h]
def LU(a:List (Int×Q4)):List (Int×List Int):=a.map λx=>(x.1,LF x.2)
theorem SO(a:List (Int×Q4)):(LU a).length=a.length:=by simp[LU]
theorem Ez(a:List (Int×Q4))(k:Nat)(h:k<a.length):LU (a.take (k+1))=LU (a.take k)++[((a.getD k (0,empty)).1,LF (a.getD k (0,empty)).2)]:=by
 unfold LU;rw[BJ h,DC];simp[List.getD,h]
set_option maxRecDepth 100000 in
theorem mw(a:Q5)(r:List Q4)(c:Nat)(G:Q5)(y:List (Int×Q4))(R:Nat)(w:Q9)(p:Strs w a r)(h':Wrs w G y)(hl:r.length<=200)(cM:y.length<=300)(bU:∀s∈r,s.size=64)(q:∀x∈y,x.2.size=64):Calls prog 134 #[LR a r.length c G y.length R] w λe m=>∃g v,e=Q2 (.agg #[Y (Hw g 0) r.length r.length,v])/\PR m g (r.map LF)/\m.ownsRow (g+1) 123 65 v y.length (LI (LU y))/\w.heap.size<=g/\Q3 w m:=by
 obtain⟨i0,b,i,k,n⟩:=LY yH;have F:=LE (I b (I i (I k n)));clear b i k n;go_enter func134,ntmps134;go_wp2_with (at_make;refine vm z _ _ 92 z 121 _ 64 64 underlying92 XA r.length z z d d ?_;intro N b i k;rw[TI]at b;have o:=Drs.start w N r.length _ _ _ _ 95 123 i (by simpa using k) (by simpa using b);have b0:N.cell? (Ki w.heap.size 0)=some (Y a r.length c):=(OG i γ τ);have x:N.heap.size=w.heap.size+1+1+1:=(by simpa using k);have t:w.heap.size<N.heap.size:=d;have n:=LE o;clear o i k b);have K:Hid (List.replicate r.length (List.replicate 64 0)=YT r 0):=by show _=_;simp[YT]
 rw[K.j]at n;go_loopw [4,5,16] (λ_ _ i wr=>∃k:Nat,k<=r.length/\i=Z k/\Drs w wr r.length (Y G y.length R) 123 (Y none 0 0) (YT r k) []) (λ_ _ i _=>r.length-(intOf i).toNat)
 case atStart=>exact⟨0,AL,z,n.j⟩
 case round =>
  clear n x t b0 K;obtain⟨k,hk,rfl,t⟩:=hrel
  by_cases B:k<r.length
  .obtain⟨b,o,s,rfl,E,C⟩:=(p.I t.bel).at B
   have n:s.size=64:=by rw[C.j];exact bU _ (by simp[List.getD,B])
   have L:((LF s).map (Value.int .u8)).length=64:=by rw[BP,NK,n]
   have A:=LE (Hk r k hk);have M:(prog.info? 121).map (·.size)=some ((LF s).map (Value.int .u8)).length:=by rw[L];kernel_rfl
   have O:=YV (LF s);have S:=underlying121;have P:(0:Int)<=(k:Int):=d
   have Q:(k:Int)<(r.length:Int):=d
   have K:=LE (t.pr.there (k:=k) (by rw[A.j];exact B));have x:=LE t;have J:=LE n;clear t n;go_wp2_with fail;clear E
   go_region_held3 (λm=>m.cell? (Ki (w.heap.size+1+1+1) 0)=some (Y (Hw (w.heap.size+1+1) 0) r.length r.length)/\m.there (w.heap.size+1+1) (k*64) 64)
    (first|assumption|exact⟨x.j.d0,K.j⟩|exact⟨(x.j.drew.I n).d0,(x.j.drew.I n).pr.there (by rw[A.j];exact B)⟩|exact⟨(EE _ _ _ _ _ (λe=>by simp at e)).E (x.j.drew.I n).d0,World.there_setCells ((x.j.drew.I n).pr.there (by rw[A.j];exact B)) _ _ _⟩)
    (first|(go_at_call 196;refine(om s _ J.j).J ?_;rintro e E ⟨rfl,n⟩))
   have m:=(x.j.drew.I n).fill z k (by rw[A.j];exact B) (LF s) (by rw[NK,J.j]);rw[show(YT r k).set k (LF s)=YT r (k+1) by rw[C.j];exact Gk r k B]at m;have D:=LE m;clear m n;go_wp2;go_roundw
   case rel=>exact⟨k+1,d,ν,D.j⟩
   case measure=>simp[intOf];omega
  have b:=K3 r k d
  rw[b]at t;have D:=t.b1;have m:=LE t;clear t b;go_wp2;go_loopw [7,31] (λ_ i wr=>∃(k:Nat) (v:Ra),k<=y.length/\i=Z k/\Drs w wr r.length (Y G y.length R) 123 v (r.map LF) (LU (y.take k))) (λ_ i _=>y.length-(intOf i).toNat)
  case atStart=>exact⟨0,_,AL,z,m.j⟩
  case round =>
   clear m D;obtain⟨i,v,cL,rfl,t⟩:=hrel
   by_cases P:i<y.length
   .obtain⟨b,o,m,s,rfl,E,O,C⟩:=(h'.I t.bel).at P
    have n:s.size=64:=q (m,s) (by rw[C.j];simp[List.getD,P]);have L:(LF s).length=64:=by rw[NK,n]
    have K:(LU (y.take i)).length=i:=by rw[SO];simp;omega
    have A:=LE K;have J:=LE n;have cH:=PJ;have u:=NR;have H:=VB;have h:=TF (Z m) ((LF s).map (Value.int .u8)) QX (by rw[NR,BP,L]);have X:=TE (Z m) ((LF s).map (Value.int .u8)) 65 (by rw[BP,L]);have x:=LE (t.alloc (.cells #[Z m,Ow s] 125));have cC:=t.sz;have cN:w.heap.size+1+1+1<wr.heap.size:=d
    have D:=t.d1;have M:=t.fd1;clear t n K;go_wp2_with fail;clear E O;have U:(wr.alloc (.cells #[Z m,Ow s] 125)).cell? (Ki wr.heap.size 0)=some (Z m):=by rw[EI _ _ _ _ z];rfl
    have cE:(wr.alloc (.cells #[Z m,Ow s] 125)).cell? (Ki wr.heap.size 1)=some (Ow s):=by rw[EI _ _ _ _ z];rfl
    have T:wr.heap.size<(wr.alloc (.cells #[Z m,Ow s] 125)).heap.size:=σ
    obtain⟨wy,n⟩:=nMz (wr.alloc (.cells #[Z m,Ow s] 125));rw[<-n]at x U cE T⊢;clear n D M;have D:=x.j.d1;have M:=x.j.fd1;have K:=LE U;have W:=LE T
    go_region_law (first|(refine step_append_lies _ f _ _ _ f (w.heap.size+1+1+1+1) 123 i0 (.agg QX) 65 72 underlying93 F.j.1 F.j.2.1 F.j.2.2.1 F.j.2.2.2 κ d v (LU (y.take i)).length (LI (LU (y.take i))) f V.j (Ki E.heap.size 0) 1 1 (Z m::(LF s).map (Value.int .u8)) f (by simp[L]) (World.news_of_block (AV E _)) (PC m (LF s)) d (by rw[A.j];unfold maxLen;omega) (by rw[A.j];omega) ξ (E.heap.size+1) σ ?_;intro g cap w3 S O bV bZ;obtain⟨q4,q5⟩:=Q.j.V O;have l:=LE S;have j:=LE O;clear S O bV)|(refine LM f 196 #[Ow s] γ (om s _ J.j) ?_;rintro e E ⟨rfl,n⟩;refine⟨_,z,?_⟩;have y0:=(n.cell (p:=(Ki wr.heap.size 0)) W.j).E K.j;have y1:=(x.j.drew.I n).d1;have y2:=(x.j.drew.I n).sz;have y3:w.heap.size+1+1+1<E.heap.size:=d;have Q:=LE ((x.j.drew.I n).alloc (.cells (Z m::(LF s).map (Value.int .u8)).toArray 123));have V:=LE Q.j.own))
    all_goals
     have O:=Q.j.push (x:=(m,LF s)) L l.j j.j;rw[show(m,LF s)=((y.getD i (0,empty)).1,LF (y.getD i (0,empty)).2) by rw[<-C.j],<-Ez y i P]at O;have S:=LE O;clear O h X u H cH;go_wp2;go_roundw
     case rel=>exact⟨i+1,_,d,ν,S.j⟩
     case measure=>simp[intOf];omega
   have C:Hid (y.take i=y):=AS d
   rw[C.j]at t;have x:=LE t;have J:=t.d0;have D:=t.d1;have M:=t.r0;have E:=t.r1;have q4:=t.fr0;have q5:=t.fr1;obtain⟨m,A,o,rfl⟩:∃a n c,v=Y a n c:=by rcases MS t.own with ⟨e,_⟩|⟨g,c,e,_⟩<;>exact⟨_,_,_,e⟩
   clear t;go_wp2;have b:=ED (ED x.j.own (a:=(Ki (w.heap.size+1) 0)) (by show w.heap.size+1<_;omega) (Y (Hw (w.heap.size+1+1) 0) r.length r.length)) (a:=(Ki (w.heap.size+1) 1)) (by show w.heap.size+1<_;omega) (Y m A o);rw[SO]at b;refine AE (v:=.agg #[Y (Hw (w.heap.size+1+1) 0) r.length r.length,Y m A o]) (by simp[results,results134,go_sem,M,E]) z ⟨w.heap.size+1+1,_,z,?_,b.J d,d,?_⟩
   .exact(x.j.pr.other _ (by show w.heap.size+1≠w.heap.size+1+1;omega) _).other _ (by show w.heap.size+1≠w.heap.size+1+1;omega) _
   exact(x.j.bel.setCell (by show w.heap.size<=w.heap.size+1;omega) _).setCell (by show w.heap.size<=w.heap.size+1;omega) _
