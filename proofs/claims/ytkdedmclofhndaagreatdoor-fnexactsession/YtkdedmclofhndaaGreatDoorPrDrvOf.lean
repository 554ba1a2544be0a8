import Derived.Test.YtkdedmclofhndaaGreatDoorPrG35
set_option maxHeartbeats 16000000
namespace Go.Proofs.YtkdedmclofhndaaGreatDoor
open _root_.ByteArray(empty)
open Tryz
open Go.RowKit
set_option linter.all false
theorem vH:(prog.info? 145).map (λi=>(i.zero,i.size,i.bytes))=some (some (.agg Ra),65,72):=κ
def VO(a:List yZ)(k:Nat):List (List Int):=(a.take k).map LF++List.replicate (a.length-k) (List.replicate 64 0)
theorem Fe(a:List yZ)(k:Nat)(h:k<=a.length):(VO a k).length=a.length:=by simp[VO];omega
theorem I9(a:List yZ)(k:Nat)(h:a.length<=k):VO a k=a.map LF:=by unfold VO;rw[AR h,show a.length-k=0 by omega];simp
theorem Ee(a:List yZ)(k:Nat)(h:k<a.length):(VO a k).set k (LF (a.getD k empty))=VO a (k+1):=by
 unfold VO;rw[IR _ _ τ];have b:k-((a.take k).map LF).length=0:=τ
 rw[b,show a.length-k=(a.length-(k+1))+1 by omega,LB,DL,BH h,DA,BV];simp[List.getD,h]
def LP(a:List (Int×yZ)):List (Int×List Int):=a.map λx=>(x.1,LF x.2)
theorem QL(a:List (Int×yZ)):(LP a).length=a.length:=by simp[LP]
theorem Cm(a:List (Int×yZ))(k:Nat)(h:k<a.length):LP (a.take (k+1))=LP (a.take k)++[((a.getD k (0,empty)).1,LF (a.getD k (0,empty)).2)]:=by
 unfold LP;rw[BH h,DA];simp[List.getD,h]
set_option maxRecDepth 100000 in
theorem gw(a:xA)(d:List yZ)(c:Nat)(y:xA)(j:List (Int×yZ))(H:Nat)(w:xV)(h:Strs w a d)(h':Wrs w y j)(hl:d.length<=200)(cM:j.length<=300)(V:∀s∈d,s.size=64)(Q:∀x∈j,x.2.size=64):Calls prog 153 #[LM a d.length c y j.length H] w λe m=>∃g v,e=yT (.agg #[yI (zY g 0) d.length d.length,v])/\PR m g (d.map LF)/\m.ownsRow (g+1) 145 65 v j.length (Ot (LP j))/\w.heap.size<=g/\yX w m:=by
 obtain⟨i0,b,f,i,k⟩:=O5 vH;have x:=Y (AG b (AG f (AG i k)));clear b f i k;go_enter func153,ntmps153;go_wp2_with (at_make;refine py rfl _ _ 107 rfl 143 _ 64 64 underlying107 Ty d.length rfl rfl ω ω ?_;intro D b i k;rw[Sj]at b;have l:=Drs.start w D d.length _ _ _ _ 110 145 i (by simpa using k) (by simpa using b);have b0:D.cell? (yA w.heap.size 0)=some (yI a d.length c):=(NF i γ τ);have o:D.heap.size=w.heap.size+1+1+1:=(by simpa using k);have n:w.heap.size<D.heap.size:=ω;have f:=Y l;clear l i k b);have A:Hid (List.replicate d.length (List.replicate 64 0)=VO d 0):=by show _=_;simp[VO]
 rw[A.j]at f;go_loopw [4,5,16] (λ_ _ i wr=>∃k:Nat,k<=d.length/\i=Z k/\Drs w wr d.length (yI y j.length H) 145 (yI none 0 0) (VO d k) []) (λ_ _ i _=>d.length-(intOf i).toNat)
 case atStart=>exact⟨0,AL _,rfl,f.j⟩
 case round =>
  clear f o n b0 A;obtain⟨k,hk,rfl,f⟩:=hrel
  by_cases q:k<d.length
  ·obtain⟨b,o,s,rfl,u,r⟩:=(h.I f.bel).at q
   have n:s.size=64:=by rw[r.j];exact V _ (by simp[List.getD,q])
   have B:((LF s).map (Value.int .u8)).length=64:=by rw[BO,MR,n]
   have p:=Y (Fe d k hk);have C:(prog.info? 143).map (·.size)=some ((LF s).map (Value.int .u8)).length:=by rw[B];kernel_rfl
   have E:=VQ (LF s);have I:=underlying143;have F:(0:Int)<=(k:Int):=ω
   have G:(k:Int)<(d.length:Int):=ω
   have A:=Y (f.pr.there (k:=k) (by rw[p.j];exact q));have l:=Y f;have z:=Y n;clear f n;go_wp2_with fail;clear u
   go_region_held3 (λm=>m.cell? (yA (w.heap.size+1+1+1) 0)=some (yI (zY (w.heap.size+1+1) 0) d.length d.length)/\m.there (w.heap.size+1+1) (k*64) 64)
    (first|assumption|exact⟨l.j.d0,A.j⟩|exact⟨(l.j.drew.I n).d0,(l.j.drew.I n).pr.there (by rw[p.j];exact q)⟩|exact⟨(ED _ _ _ _ _ (λe=>by simp at e)).E (l.j.drew.I n).d0,World.there_setCells ((l.j.drew.I n).pr.there (by rw[p.j];exact q)) _ _ _⟩)
    (first|(go_at_call 208;refine(im s _ z.j).J ?_;rintro e u ⟨rfl,n⟩))
   have m:=(l.j.drew.I n).fill rfl k (by rw[p.j];exact q) (LF s) (by rw[MR,z.j]);rw[show(VO d k).set k (LF s)=VO d (k+1) by rw[r.j];exact Ee d k q]at m;have t:=Y m;clear m n;go_wp2;go_roundw
   case rel=>exact⟨k+1,ω,ν,t.j⟩
   case measure=>simp[intOf];omega
  have b:=I9 d k ω
  rw[b]at f;have t:=f.b1;have l:=Y f;clear f b;go_wp2;go_loopw [7,31] (λ_ i wr=>∃(k:Nat) (v:qD),k<=j.length/\i=Z k/\Drs w wr d.length (yI y j.length H) 145 v (d.map LF) (LP (j.take k))) (λ_ i _=>j.length-(intOf i).toNat)
  case atStart=>exact⟨0,_,AL _,rfl,l.j⟩
  case round =>
   clear l t;obtain⟨i,v,cL,rfl,f⟩:=hrel
   by_cases F:i<j.length
   ·obtain⟨b,o,m,s,rfl,u,E,r⟩:=(h'.I f.bel).at F
    have n:s.size=64:=Q (m,s) (by rw[r.j];simp[List.getD,F]);have B:(LF s).length=64:=by rw[MR,n]
    have A:(LP (j.take i)).length=i:=by rw[QL];simp;omega
    have p:=Y A;have z:=Y n;have cH:=Qo;have R:=Py;have S:=Sz;have P:=Sf (Z m) ((LF s).map (Value.int .u8)) Ra (by rw[Py,BO,B]);have O:=Se (Z m) ((LF s).map (Value.int .u8)) 65 (by rw[BO,B]);have l:=Y (f.alloc (.cells #[Z m,yQ s] 147));have cC:=f.sz;have cN:w.heap.size+1+1+1<wr.heap.size:=ω
    have t:=f.d1;have C:=f.fd1;clear f n A;go_wp2_with fail;clear u E;have K:(wr.alloc (.cells #[Z m,yQ s] 147)).cell? (yA wr.heap.size 0)=some (Z m):=by rw[EH _ _ _ _ rfl];rfl
    have X:(wr.alloc (.cells #[Z m,yQ s] 147)).cell? (yA wr.heap.size 1)=some (yQ s):=by rw[EH _ _ _ _ rfl];rfl
    have J:wr.heap.size<(wr.alloc (.cells #[Z m,yQ s] 147)).heap.size:=σ
    obtain⟨L,n⟩:∃L,L=wr.alloc (.cells #[Z m,yQ s] 147):=⟨_,rfl⟩;rw[<-n]at l K X J⊢;clear n t C;have t:=l.j.d1;have C:=l.j.fd1;have A:=Y K;have N:=Y J
    go_region_law (first|(refine step_append_lies _ ρ _ _ _ ρ (w.heap.size+1+1+1+1) 145 i0 (.agg Ra) 65 72 underlying108 x.j.1 x.j.2.1 x.j.2.2.1 x.j.2.2.2 κ ω v (LP (j.take i)).length (Ot (LP (j.take i))) ρ M.j (yA u.heap.size 0) 1 1 (Z m::(LF s).map (Value.int .u8)) ρ (by simp[B]) (World.news_of_block (AU u _)) (Qg m (LF s)) ω (by rw[p.j];unfold maxLen;omega) (by rw[p.j];omega) ξ (u.heap.size+1) σ ?_;intro g cap w3 I E W bZ;obtain⟨q4,q5⟩:=G.j.V E;have U:=Y I;have T:=Y E;clear I E W)|(refine LI ρ 208 #[yQ s] γ (im s _ z.j) ?_;rintro e u ⟨rfl,n⟩;refine⟨_,rfl,?_⟩;have y0:=(n.cell (p:=(yA wr.heap.size 0)) N.j).E A.j;have y1:=(l.j.drew.I n).d1;have y2:=(l.j.drew.I n).sz;have y3:w.heap.size+1+1+1<u.heap.size:=ω;have G:=Y ((l.j.drew.I n).alloc (.cells (Z m::(LF s).map (Value.int .u8)).toArray 145));have M:=Y G.j.own))
    all_goals
     have E:=G.j.push (x:=(m,LF s)) B U.j T.j;rw[show(m,LF s)=((j.getD i (0,empty)).1,LF (j.getD i (0,empty)).2) by rw[<-r.j],<-Cm j i F]at E;have I:=Y E;clear E P O R S cH;go_wp2;go_roundw
     case rel=>exact⟨i+1,_,ω,ν,I.j⟩
     case measure=>simp[intOf];omega
   have r:Hid (j.take i=j):=AR ω
   rw[r.j]at f;have l:=Y f;have z:=f.d0;have t:=f.d1;have C:=f.r0;have u:=f.r1;have q4:=f.fr0;have q5:=f.fr1;obtain⟨m,p,o,rfl⟩:∃a n c,v=yI a n c:=by rcases MC f.own with ⟨e,_⟩|⟨g,c,e,_⟩<;>exact⟨_,_,_,e⟩
   clear f;go_wp2;have b:=EC (EC l.j.own (a:=(yA (w.heap.size+1) 0)) (by show w.heap.size+1<_;omega) (yI (zY (w.heap.size+1+1) 0) d.length d.length)) (a:=(yA (w.heap.size+1) 1)) (by show w.heap.size+1<_;omega) (yI m p o);rw[QL]at b;refine AE (v:=.agg #[yI (zY (w.heap.size+1+1) 0) d.length d.length,yI m p o]) (by simp[results,results153,go_sem,C,u]) rfl ⟨w.heap.size+1+1,_,rfl,?_,b.J ω,ω,?_⟩
   ·exact(l.j.pr.other _ (by show w.heap.size+1≠w.heap.size+1+1;omega) _).other _ (by show w.heap.size+1≠w.heap.size+1+1;omega) _
   exact(l.j.bel.setCell (by show w.heap.size<=w.heap.size+1;omega) _).setCell (by show w.heap.size<=w.heap.size+1;omega) _
