import Derived.Test.YtjdmogljfdffeaaGreatDoorPrG41
set_option maxHeartbeats 16000000
namespace Go.Proofs.YtjdmogljfdffeaaGreatDoor
open _root_.ByteArray(empty)
open Tryz
open Go.RowKit
set_option linter.all false
theorem sV:(prog.info? 145).map (λi=>(i.zero,i.size,i.bytes))=some (some (.agg ZJ),65,72):=κ
def VM(a:List ByteArray)(k:Nat):List (List Int):=(a.take k).map KU++List.replicate (a.length-k) (List.replicate 64 0)
theorem As(a:List ByteArray)(k:Nat)(h:k<=a.length):(VM a k).length=a.length:=by simp[VM];omega
theorem Ee(a:List ByteArray)(k:Nat)(h:a.length<=k):VM a k=a.map KU:=by unfold VM;rw[AV h,show a.length-k=0 by omega];simp
theorem zH(a:List ByteArray)(k:Nat)(h:k<a.length):(VM a k).set k (KU (a.getD k empty))=VM a (k+1):=by
 unfold VM;rw[JF _ _ τ];have b:k-((a.take k).map KU).length=0:=τ
 rw[b,show a.length-k=(a.length-(k+1))+1 by omega,List.replicate_succ,DC,AX h,CY,BN];simp[List.getD,h]
def LJ(a:List (Int×ByteArray)):List (Int×List Int):=a.map λx=>(x.1,KU x.2)
theorem QH(a:List (Int×ByteArray)):(LJ a).length=a.length:=by simp[LJ]
theorem yH(a:List (Int×ByteArray))(k:Nat)(h:k<a.length):LJ (a.take (k+1))=LJ (a.take k)++[((a.getD k (0,empty)).1,KU (a.getD k (0,empty)).2)]:=by
 unfold LJ;rw[AX h,CY];simp[List.getD,h]
set_option maxRecDepth 100000 in
theorem gq(a:Option Addr)(d:List ByteArray)(c:Nat)(y:Option Addr)(j:List (Int×ByteArray))(H:Nat)(w:World)(h:Strs w a d)(h':Wrs w y j)(hl:d.length<=200)(cU:j.length<=300)(X:∀s∈d,s.size=64)(R:∀x∈j,x.2.size=64):Calls prog 51 #[LE a d.length c y j.length H] w λe m=>∃g v,e=.returned (.agg #[.slice (some ⟨g,0,none⟩) d.length d.length,v])/\PR m g (d.map KU)/\m.ownsRow (g+1) 145 65 v j.length (NQ (LJ j))/\w.heap.size<=g/\Below w.heap.size w m:=by
 obtain⟨i0,b,f,i,k⟩:=XI sV;have x:=Z (AH b (AH f (AH i k)));clear b f i k;go_enter func51,ntmps51;go_wp2_with (at_make;refine yi rfl _ _ 100 rfl 142 _ 64 64 underlying100 uU d.length rfl rfl ω ω ?_;intro D b i k;rw[pL]at b;have l:=Drs.start w D d.length _ _ _ _ 103 145 i (by simpa using k) (by simpa using b);have b0:D.cell? ⟨w.heap.size,0,none⟩=some (.slice a d.length c):=(NX i γ τ);have o:D.heap.size=w.heap.size+1+1+1:=(by simpa using k);have n:w.heap.size<D.heap.size:=ω;have f:=Z l;clear l i k b);have A:Hid (List.replicate d.length (List.replicate 64 0)=VM d 0):=by show _=_;simp[VM]
 rw[A.l]at f;go_loopw [4,5,16] (λ_ _ i wr=>∃k:Nat,k<=d.length/\i=.int .i64 k/\Drs w wr d.length (.slice y j.length H) 145 (.slice none 0 0) (VM d k) []) (λ_ _ i _=>d.length-(intOf i).toNat)
 case atStart=>exact⟨0,AO _,rfl,f.l⟩
 case round =>
  clear f o n b0 A;obtain⟨k,hk,rfl,f⟩:=hrel
  by_cases q:k<d.length
  ·obtain⟨b,o,s,rfl,u,r⟩:=(h.z f.bel).at q
   have n:s.size=64:=by rw[r.l];exact X _ (by simp[List.getD,q])
   have B:((KU s).map (Value.int .u8)).length=64:=by rw[BP,ME,n]
   have p:=Z (As d k hk);have C:(prog.info? 142).map (·.size)=some ((KU s).map (Value.int .u8)).length:=by rw[B];kernel_rfl
   have E:=VR (KU s);have I:=underlying142;have F:(0:Int)<=(k:Int):=ω
   have G:(k:Int)<(d.length:Int):=ω
   have A:=Z (f.pr.there (k:=k) (by rw[p.l];exact q));have l:=Z f;have z:=Z n;clear f n;go_wp2_with fail;clear u
   go_region_held3 (λm=>m.cell? ⟨w.heap.size+1+1+1,0,none⟩=some (.slice (some ⟨w.heap.size+1+1,0,none⟩) d.length d.length)/\m.there (w.heap.size+1+1) (k*64) 64)
    (first|assumption|exact⟨l.l.d0,A.l⟩|exact⟨(l.l.drew.z n).d0,(l.l.drew.z n).pr.there (by rw[p.l];exact q)⟩|exact⟨(DU _ _ _ _ _ (λe=>by simp at e)).j (l.l.drew.z n).d0,World.there_setCells ((l.l.drew.z n).pr.there (by rw[p.l];exact q)) _ _ _⟩)
    (first|(go_at_call 92;refine(ig s _ z.l).A ?_;rintro e u ⟨rfl,n⟩))
   have m:=(l.l.drew.z n).fill rfl k (by rw[p.l];exact q) (KU s) (by rw[ME,z.l]);rw[show(VM d k).set k (KU s)=VM d (k+1) by rw[r.l];exact zH d k q]at m;have t:=Z m;clear m n;go_wp2;go_roundw
   case rel=>exact⟨k+1,ω,ν,t.l⟩
   case measure=>simp[intOf];omega
  have b:=Ee d k ω
  rw[b]at f;have t:=f.b1;have l:=Z f;clear f b;go_wp2;go_loopw [7,31] (λ_ i wr=>∃(k:Nat) (v:Value),k<=j.length/\i=.int .i64 k/\Drs w wr d.length (.slice y j.length H) 145 v (d.map KU) (LJ (j.take k))) (λ_ i _=>j.length-(intOf i).toNat)
  case atStart=>exact⟨0,_,AO _,rfl,l.l⟩
  case round =>
   clear l t;obtain⟨i,v,cT,rfl,f⟩:=hrel
   by_cases F:i<j.length
   ·obtain⟨b,o,m,s,rfl,u,E,r⟩:=(h'.z f.bel).at F
    have n:s.size=64:=R (m,s) (by rw[r.l];simp[List.getD,F]);have B:(KU s).length=64:=by rw[ME,n]
    have A:(LJ (j.take i)).length=i:=by rw[QH];simp;omega
    have p:=Z A;have z:=Z n;have cP:=ix;have S:=io;have T:=nE;have Q:=tZ (.int .i64 m) ((KU s).map (Value.int .u8)) ZJ (by rw[io,BP,B]);have P:=qK (.int .i64 m) ((KU s).map (Value.int .u8)) 65 (by rw[BP,B]);have l:=Z (f.alloc (.cells #[.int .i64 m,.string s] 134));have cJ:=f.sz;have cV:w.heap.size+1+1+1<wr.heap.size:=ω
    have t:=f.d1;have C:=f.fd1;clear f n A;go_wp2_with fail;clear u E;have L:(wr.alloc (.cells #[.int .i64 m,.string s] 134)).cell? ⟨wr.heap.size,0,none⟩=some (.int .i64 m):=by rw[EC _ _ _ _ rfl];rfl
    have cL:(wr.alloc (.cells #[.int .i64 m,.string s] 134)).cell? ⟨wr.heap.size,1,none⟩=some (.string s):=by rw[EC _ _ _ _ rfl];rfl
    have K:wr.heap.size<(wr.alloc (.cells #[.int .i64 m,.string s] 134)).heap.size:=σ
    obtain⟨M,n⟩:∃M,M=wr.alloc (.cells #[.int .i64 m,.string s] 134):=⟨_,rfl⟩;rw[<-n]at l L cL K⊢;clear n t C;have t:=l.l.d1;have C:=l.l.fd1;have A:=Z L;have O:=Z K
    go_region_law (first|(refine step_append_lies _ ρ _ _ _ ρ (w.heap.size+1+1+1+1) 145 i0 (.agg ZJ) 65 72 underlying101 x.l.1 x.l.2.1 x.l.2.2.1 x.l.2.2.2 κ ω v (LJ (j.take i)).length (NQ (LJ (j.take i))) ρ N.l ⟨u.heap.size,0,none⟩ 1 1 (Value.int .i64 m::(KU s).map (Value.int .u8)) ρ (by simp[B]) (World.news_of_block (AW u _)) (iq m (KU s)) ω (by rw[p.l];unfold maxLen;omega) (by rw[p.l];omega) ξ (u.heap.size+1) σ ?_;intro g cap w3 I E cC cH;obtain⟨q4,q5⟩:=G.l.I E;have W:=Z I;have U:=Z E;clear I E cC)|(refine LC ρ 92 #[.string s] γ (ig s _ z.l) ?_;rintro e u ⟨rfl,n⟩;refine⟨_,rfl,?_⟩;have y0:=(n.cell (p:=⟨wr.heap.size,0,none⟩) O.l).j A.l;have y1:=(l.l.drew.z n).d1;have y2:=(l.l.drew.z n).sz;have y3:w.heap.size+1+1+1<u.heap.size:=ω;have G:=Z ((l.l.drew.z n).alloc (.cells (Value.int .i64 m::(KU s).map (Value.int .u8)).toArray 145));have N:=Z G.l.own))
    all_goals
     have E:=G.l.push (x:=(m,KU s)) B W.l U.l;rw[show(m,KU s)=((j.getD i (0,empty)).1,KU (j.getD i (0,empty)).2) by rw[<-r.l],<-yH j i F]at E;have I:=Z E;clear E Q P S T cP;go_wp2;go_roundw
     case rel=>exact⟨i+1,_,ω,ν,I.l⟩
     case measure=>simp[intOf];omega
   have r:Hid (j.take i=j):=AV ω
   rw[r.l]at f;have l:=Z f;have z:=f.d0;have t:=f.d1;have C:=f.r0;have u:=f.r1;have q4:=f.fr0;have q5:=f.fr1;obtain⟨m,p,o,rfl⟩:∃a n c,v=.slice a n c:=by rcases MO f.own with ⟨e,_⟩|⟨g,c,e,_⟩<;>exact⟨_,_,_,e⟩
   clear f;go_wp2;have b:=DT (DT l.l.own (a:=⟨w.heap.size+1,0,none⟩) (by show w.heap.size+1<_;omega) (.slice (some ⟨w.heap.size+1+1,0,none⟩) d.length d.length)) (a:=⟨w.heap.size+1,1,none⟩) (by show w.heap.size+1<_;omega) (.slice m p o);rw[QH]at b;refine AI (v:=.agg #[.slice (some ⟨w.heap.size+1+1,0,none⟩) d.length d.length,.slice m p o]) (by simp[results,results51,go_sem,C,u]) rfl ⟨w.heap.size+1+1,_,rfl,?_,b.A ω,ω,?_⟩
   ·exact(l.l.pr.other _ (by show w.heap.size+1≠w.heap.size+1+1;omega) _).other _ (by show w.heap.size+1≠w.heap.size+1+1;omega) _
   exact(l.l.bel.setCell (by show w.heap.size<=w.heap.size+1;omega) _).setCell (by show w.heap.size<=w.heap.size+1;omega) _
