import Derived.Test.YtmlejnbjclkdjaaGreatDoorPrG36
set_option maxHeartbeats 16000000
namespace Go.Proofs.YtmlejnbjclkdjaaGreatDoor
open _root_.ByteArray(empty)
open Tryz
open Go.RowKit
set_option linter.all false
theorem tB:(prog.info? 175).map (λi=>(i.zero,i.size,i.bytes))=some (some (.agg YY),65,72):=κ
def VZ(a:List Y)(k:Nat):List (List Int):=(a.take k).map LI++List.replicate (a.length-k) (List.replicate 64 0)
theorem B6(a:List Y)(k:Nat)(h:k<=a.length):(VZ a k).length=a.length:=by simp[VZ];omega
theorem Gf(a:List Y)(k:Nat)(h:a.length<=k):VZ a k=a.map LI:=by unfold VZ;rw[AQ h,show a.length-k=0 by omega];simp
theorem Ao(a:List Y)(k:Nat)(h:k<a.length):(VZ a k).set k (LI (a.getD k empty))=VZ a (k+1):=by
 unfold VZ;rw[JM _ _ τ];have b:k-((a.take k).map LI).length=0:=τ
 rw[b,show a.length-k=(a.length-(k+1))+1 by omega,List.replicate_succ,DL,AY h,DK,BT];simp[List.getD,h]
def ME(a:List (Int×Y)):List (Int×List Int):=a.map λx=>(x.1,LI x.2)
theorem RL(a:List (Int×Y)):(ME a).length=a.length:=by simp[ME]
theorem zN(a:List (Int×Y))(k:Nat)(h:k<a.length):ME (a.take (k+1))=ME (a.take k)++[((a.getD k (0,empty)).1,LI (a.getD k (0,empty)).2)]:=by
 unfold ME;rw[AY h,DK];simp[List.getD,h]
set_option maxRecDepth 100000 in
theorem fy(a:M6)(d:List Y)(c:Nat)(y:M6)(j:List (Int×Y))(H:Nat)(w:Nb)(h:Strs w a d)(h':Wrs w y j)(hl:d.length<=200)(cN:j.length<=300)(V:∀s∈d,s.size=64)(Q:∀x∈j,x.2.size=64):Calls prog 61 #[LF a d.length c y j.length H] w λe m=>∃g v,e=M3 (.agg #[.slice (Mw g 0) d.length d.length,v])/\PR m g (d.map LI)/\m.ownsRow (g+1) 175 65 v j.length (OY (ME j))/\w.heap.size<=g/\Below w.heap.size w m:=by
 obtain⟨i0,b,f,i,k⟩:=MK tB;have x:=Z (AH b (AH f (AH i k)));clear b f i k;go_enter func61,ntmps61;go_wp2_with (at_make;refine xm rfl _ _ 113 rfl 142 _ 64 64 underlying113 vS d.length rfl rfl ω ω ?_;intro D b i k;rw[pH]at b;have l:=Drs.start w D d.length _ _ _ _ 116 175 i (by simpa using k) (by simpa using b);have b0:D.cell? ⟨w.heap.size,0,none⟩=some (.slice a d.length c):=(OK i γ τ);have o:D.heap.size=w.heap.size+1+1+1:=(by simpa using k);have n:w.heap.size<D.heap.size:=ω;have f:=Z l;clear l i k b);have A:Hid (List.replicate d.length (List.replicate 64 0)=VZ d 0):=by show _=_;simp[VZ]
 rw[A.l]at f;go_loopw [4,5,16] (λ_ _ i wr=>∃k:Nat,k<=d.length/\i=.int .i64 k/\Drs w wr d.length (.slice y j.length H) 175 (.slice none 0 0) (VZ d k) []) (λ_ _ i _=>d.length-(intOf i).toNat)
 case atStart=>exact⟨0,AM _,rfl,f.l⟩
 case round =>
  clear f o n b0 A;obtain⟨k,hk,rfl,f⟩:=hrel
  by_cases q:k<d.length
  ·obtain⟨b,o,s,rfl,u,r⟩:=(h.I f.bel).at q
   have n:s.size=64:=by rw[r.l];exact V _ (by simp[List.getD,q])
   have B:((LI s).map (Value.int .u8)).length=64:=by rw[BU,NH,n]
   have p:=Z (B6 d k hk);have C:(prog.info? 142).map (·.size)=some ((LI s).map (Value.int .u8)).length:=by rw[B];kernel_rfl
   have E:=WB (LI s);have I:=underlying142;have F:(0:Int)<=(k:Int):=ω
   have G:(k:Int)<(d.length:Int):=ω
   have A:=Z (f.pr.there (k:=k) (by rw[p.l];exact q));have l:=Z f;have z:=Z n;clear f n;go_wp2_with fail;clear u
   go_region_held3 (λm=>m.cell? ⟨w.heap.size+1+1+1,0,none⟩=some (.slice (Mw (w.heap.size+1+1) 0) d.length d.length)/\m.there (w.heap.size+1+1) (k*64) 64)
    (first|assumption|exact⟨l.l.d0,A.l⟩|exact⟨(l.l.drew.I n).d0,(l.l.drew.I n).pr.there (by rw[p.l];exact q)⟩|exact⟨(EC _ _ _ _ _ (λe=>by simp at e)).j (l.l.drew.I n).d0,World.there_setCells ((l.l.drew.I n).pr.there (by rw[p.l];exact q)) _ _ _⟩)
    (first|(go_at_call 86;refine(TR s _ z.l).z ?_;rintro e u ⟨rfl,n⟩))
   have m:=(l.l.drew.I n).fill rfl k (by rw[p.l];exact q) (LI s) (by rw[NH,z.l]);rw[show(VZ d k).set k (LI s)=VZ d (k+1) by rw[r.l];exact Ao d k q]at m;have t:=Z m;clear m n;go_wp2;go_roundw
   case rel=>exact⟨k+1,ω,ν,t.l⟩
   case measure=>simp[intOf];omega
  have b:=Gf d k ω
  rw[b]at f;have t:=f.b1;have l:=Z f;clear f b;go_wp2;go_loopw [7,31] (λ_ i wr=>∃(k:Nat) (v:Nc),k<=j.length/\i=.int .i64 k/\Drs w wr d.length (.slice y j.length H) 175 v (d.map LI) (ME (j.take k))) (λ_ i _=>j.length-(intOf i).toNat)
  case atStart=>exact⟨0,_,AM _,rfl,l.l⟩
  case round =>
   clear l t;obtain⟨i,v,cM,rfl,f⟩:=hrel
   by_cases F:i<j.length
   ·obtain⟨b,o,m,s,rfl,u,E,r⟩:=(h'.I f.bel).at F
    have n:s.size=64:=Q (m,s) (by rw[r.l];simp[List.getD,F]);have B:(LI s).length=64:=by rw[NH,n]
    have A:(ME (j.take i)).length=i:=by rw[RL];simp;omega
    have p:=Z A;have z:=Z n;have cI:=il;have R:=ib;have S:=nC;have P:=uT (.int .i64 m) ((LI s).map (Value.int .u8)) YY (by rw[ib,BU,B]);have O:=qL (.int .i64 m) ((LI s).map (Value.int .u8)) 65 (by rw[BU,B]);have l:=Z (f.alloc (.cells #[.int .i64 m,Mz s] 133));have cE:=f.sz;have cO:w.heap.size+1+1+1<wr.heap.size:=ω
    have t:=f.d1;have C:=f.fd1;clear f n A;go_wp2_with fail;clear u E;have K:(wr.alloc (.cells #[.int .i64 m,Mz s] 133)).cell? ⟨wr.heap.size,0,none⟩=some (.int .i64 m):=by rw[EL _ _ _ _ rfl];rfl
    have X:(wr.alloc (.cells #[.int .i64 m,Mz s] 133)).cell? ⟨wr.heap.size,1,none⟩=some (Mz s):=by rw[EL _ _ _ _ rfl];rfl
    have J:wr.heap.size<(wr.alloc (.cells #[.int .i64 m,Mz s] 133)).heap.size:=σ
    obtain⟨L,n⟩:∃L,L=wr.alloc (.cells #[.int .i64 m,Mz s] 133):=⟨_,rfl⟩;rw[<-n]at l K X J⊢;clear n t C;have t:=l.l.d1;have C:=l.l.fd1;have A:=Z K;have N:=Z J
    go_region_law (first|(refine step_append_lies _ ρ _ _ _ ρ (w.heap.size+1+1+1+1) 175 i0 (.agg YY) 65 72 underlying114 x.l.1 x.l.2.1 x.l.2.2.1 x.l.2.2.2 κ ω v (ME (j.take i)).length (OY (ME (j.take i))) ρ M.l ⟨u.heap.size,0,none⟩ 1 1 (Value.int .i64 m::(LI s).map (Value.int .u8)) ρ (by simp[B]) (World.news_of_block (AU u _)) (ic m (LI s)) ω (by rw[p.l];unfold maxLen;omega) (by rw[p.l];omega) ξ (u.heap.size+1) σ ?_;intro g cap w3 I E W cB;obtain⟨q4,q5⟩:=G.l.J E;have U:=Z I;have T:=Z E;clear I E W)|(refine LW ρ 86 #[Mz s] γ (TR s _ z.l) ?_;rintro e u ⟨rfl,n⟩;refine⟨_,rfl,?_⟩;have y0:=(n.cell (p:=⟨wr.heap.size,0,none⟩) N.l).j A.l;have y1:=(l.l.drew.I n).d1;have y2:=(l.l.drew.I n).sz;have y3:w.heap.size+1+1+1<u.heap.size:=ω;have G:=Z ((l.l.drew.I n).alloc (.cells (Value.int .i64 m::(LI s).map (Value.int .u8)).toArray 175));have M:=Z G.l.own))
    all_goals
     have E:=G.l.push (x:=(m,LI s)) B U.l T.l;rw[show(m,LI s)=((j.getD i (0,empty)).1,LI (j.getD i (0,empty)).2) by rw[<-r.l],<-zN j i F]at E;have I:=Z E;clear E P O R S cI;go_wp2;go_roundw
     case rel=>exact⟨i+1,_,ω,ν,I.l⟩
     case measure=>simp[intOf];omega
   have r:Hid (j.take i=j):=AQ ω
   rw[r.l]at f;have l:=Z f;have z:=f.d0;have t:=f.d1;have C:=f.r0;have u:=f.r1;have q4:=f.fr0;have q5:=f.fr1;obtain⟨m,p,o,rfl⟩:∃a n c,v=.slice a n c:=by rcases NU f.own with ⟨e,_⟩|⟨g,c,e,_⟩<;>exact⟨_,_,_,e⟩
   clear f;go_wp2;have b:=EA (EA l.l.own (a:=⟨w.heap.size+1,0,none⟩) (by show w.heap.size+1<_;omega) (.slice (Mw (w.heap.size+1+1) 0) d.length d.length)) (a:=⟨w.heap.size+1,1,none⟩) (by show w.heap.size+1<_;omega) (.slice m p o);rw[RL]at b;refine AJ (v:=.agg #[.slice (Mw (w.heap.size+1+1) 0) d.length d.length,.slice m p o]) (by simp[results,results61,go_sem,C,u]) rfl ⟨w.heap.size+1+1,_,rfl,?_,b.z ω,ω,?_⟩
   ·exact(l.l.pr.other _ (by show w.heap.size+1≠w.heap.size+1+1;omega) _).other _ (by show w.heap.size+1≠w.heap.size+1+1;omega) _
   exact(l.l.bel.setCell (by show w.heap.size<=w.heap.size+1;omega) _).setCell (by show w.heap.size<=w.heap.size+1;omega) _
