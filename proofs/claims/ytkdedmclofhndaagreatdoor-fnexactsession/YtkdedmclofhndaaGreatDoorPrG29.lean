import Derived.Test.YtkdedmclofhndaaGreatDoorPrRiA
import Derived.Test.YtkdedmclofhndaaGreatDoorPrOpI
set_option maxHeartbeats 16000000
set_option maxRecDepth 8000
set_option linter.all false
namespace Go.Proofs.YtkdedmclofhndaaGreatDoor
open Tryz
open Go.RowKit
def NP(x:Wo):List Pr×Int:=if LW x=true then ((NM x.ss [] x.w).rs,(NM x.ss [] x.w).C) else ([],1)
theorem jm(x:Wo):(NP x).1.length<=1048576:=by
 unfold NP
 split
 ·exact(qn x.ss [] x.w).1
 exact AL _
def xq(w b:xV)(e:Ending)(r:List Pr×Int):Prop:=∃a c,e=yT (.tuple #[LR a r.1.length c,Z r.2])/\r.1.length<=c/\OwnS b a (LN r.1)/\(∀g,blk a r.1.length=some g->w.heap.size<=g)/\yX w b
theorem pH(x:Wo)(q:Wp)(w:xV)(h:x.at w q)(B:x.le 1048576):Calls prog 56 #[LT x q] w λe j=>xq w j e (NP x):=by
 have l:=Y (λj k=>mC x q j k B);obtain⟨D,m⟩:∃D,Hid (D=NM x.ss [] x.w):=⟨_,Y rfl⟩;have v:=Y (λj k=>tU q.a x.ss q.c none [] 0 x.w j k (.inl rfl) B.l1 σ B.s1 σ);have G:=(qn x.ss [] x.w).1;rw[<-m.j]at v G;simp only[AT]at v;unfold LT at l⊢;have d:yX w ((w.alloc (.cells (wA x q) 42)).alloc (.cells #[yI none 0 0] 37)):=((AB _ _).alloc (AA _) _).alloc σ _;have c:=(LS w (wA x q) 42).alloc (.cells #[yI none 0 0] 37);have a:=NZ (w.alloc (.cells (wA x q) 42)) #[yI none 0 0] 37 (w.heap.size+1) σ
 cases hok:LW x with
 | false =>
  have e:NP x=([],1):=by unfold NP;rw[AF (by rw[hok];simp)]
  rw[e];rw[hok]at l;clear e;go_enter func56,ntmps56;go_wp2_with fail;obtain⟨R,i⟩:∃y,y=w.heap.size+1:=⟨_,rfl⟩;obtain⟨L,b⟩:∃y,y=w.heap.size:=⟨_,rfl⟩;obtain⟨E,f⟩:∃y,y=((w.alloc (.cells (wA x q) 42)).alloc (.cells #[yI none 0 0] 37)):=⟨_,rfl⟩;rw[<-f]at d c a;rw[<-i]at a;rw[<-b]at c;rw[<-f,<-i,<-b];have A:w.heap.size<=R:=ω
  clear f i;clear b;refine(l.j E (h.I d)).J ?_;rintro e K ⟨rfl,f⟩;have c:=c.I f;have a:=a.I f;have b:=d.E (f.J d.size);have h:=h.I b;clear d f;have C:=a.y 0;have U:=a.A 0;have W:=a.lt;go_wp2;refine AE (v:=.tuple #[.agg #[yI none 0 0],Z 1]) (by simp[results,results56,go_sem,C]) rfl ?_;exact⟨none,0,rfl,AA _,.inl rfl,λg n=>(by cases n),b.setCell (p:=(yA R 0)) A _⟩
 | true =>
  have e:NP x=(D.rs,D.C):=by unfold NP;rw[AI hok,m.j]
  rw[e];rw[hok]at l;clear e m;go_enter func56,ntmps56;go_wp2_with fail;obtain⟨R,i⟩:∃y,y=w.heap.size+1:=⟨_,rfl⟩;obtain⟨L,b⟩:∃y,y=w.heap.size:=⟨_,rfl⟩;obtain⟨E,f⟩:∃y,y=((w.alloc (.cells (wA x q) 42)).alloc (.cells #[yI none 0 0] 37)):=⟨_,rfl⟩;rw[<-f]at d c a;rw[<-i]at a;rw[<-b]at c;rw[<-f,<-i,<-b];have A:w.heap.size<=R:=ω
  clear f i;clear b;refine(l.j E (h.I d)).J ?_;rintro e K ⟨rfl,f⟩;have c:=c.I f;have a:=a.I f;have b:=d.E (f.J d.size);have h:=h.I b;clear d f;have d:=c.y 0;have f:=c.y 1;have i:=c.lt;go_wp2_with fail;clear d f i;refine(v.j K h.h1).J ?_;rintro e o ⟨f,i,s,t,rfl,aT,own,g1,g2,z⟩;unfold MD;have aX:=a.lt;have aW:=b.size;have a:=a.I z;have b:=b.E (z.J b.size);have aY:=z.size;have k:=LS o (dK D.C D.W D.S D.L D.T D.H D.F D.R D.U D.O (yI f D.rs.length i) (yI s D.ops.length t)) 102;have p:yX o (o.alloc (.cells (dK D.C D.W D.S D.L D.T D.H D.F D.R D.U D.O (yI f D.rs.length i) (yI s D.ops.length t)) 102)):=(AB _ _).alloc (AA _) _;go_upto_region 4 with fail;obtain⟨d,m⟩:∃y,y=o.heap.size:=⟨_,rfl⟩;have P:R<d:=by rw[m];exact a.lt
  obtain⟨u,r⟩:∃y,y=o.alloc (.cells (dK D.C D.W D.S D.L D.T D.H D.F D.R D.U D.O (yI f D.rs.length i) (yI s D.ops.length t)) 102):=⟨_,rfl⟩;rw[<-r]at k p;rw[<-m]at k;rw[<-r,<-m];clear r;clear m;have a:=a.I p;have b:=b.E (p.J b.size);have X:=own.s.I p
  have y:Hid (∀W,Row W d (dJ D.C D.W D.S D.L D.T D.H D.F D.R D.U D.O (yI f D.rs.length i) (yI s D.ops.length t))->W.cell? (yA d 10)=some (yI f D.rs.length i)/\W.cell? (yA d 0)=some (Z D.C)):=λW r=>⟨r.y 10,r.y 0⟩
  have N:Hid (R≠d):=Y (λe=>by have:=P;omega);have Q:=a.lt;have O:=b.size;refine AN (S:=λj=>j.cell? (yA d 10)=some (yI f D.rs.length i)/\j.cell? (yA d 0)=some (Z D.C)) κ (y.j _ k.drew) (λm=>?_);refine TY 0 (zW d 1) rfl m (TY 1 (zW d 10) rfl m (TY 2 (.agg #[yI f D.rs.length i]) rfl m (TY 4 (zW d 0) rfl m (TY 5 (Z D.C) rfl m ?_))));simp only[PS];refine RD 3 rfl (λF j=>?_);refine LI ρ _ _ γ (dp f D.rs i _ (X.I (AB _ _).drew).prs G) ?_;rintro e u1 ⟨H,I,rfl,S,T,J,r⟩;refine⟨_,rfl,?_⟩;have k:=(k.I (AB _ _).drew).I r;have a:=(a.I (AB _ _).drew).I r;have b:=(b.E ((AB u.heap.size u).drew.J b.size)).E (r.J b.size);refine j.j _ _ (y.j _ k) (λaQ=>?_)
  try simp only[PS]
  refine RD 6 rfl (λF j=>?_);have C:=a.y 0;have U:=a.A 0;have W:=a.lt;go_simp;refine j.j _ _ (y.j _ (k.other _ (λe=>N.j e) _)) (λM=>?_)
  try simp only[PS]
  refine RD 7 rfl (λF j=>?_);go_simp;refine j.j _ _ M (λ_=>?_)
  try simp only[PS]
  refine DN ?_;go_wp2;refine AE (v:=.tuple #[.agg #[yI H D.rs.length I],Z D.C]) (by simp[results,results56,go_sem,C]) rfl ?_;exact⟨H,I,rfl,S,T.set' _ (λg n V=>by have:=J g (by subst n;exact ML _ _ _ (zd V));have:u.heap.size<=g:=this;have:=Q;show R≠g;omega) _,λg n=>by have:u.heap.size<=g:=J g n;have:=O;omega,b.setCell (p:=(yA R 0)) A _⟩
theorem nZ(x:Wo)(q:Wp)(w:xV)(h:x.at w q)(V:x.rs.length<=q.cs)(C:x.le 1048576)(H:TypeId)(v:qD)(hv:w.cell? (yA 7 0)=some (.iface H v))(G:w.cell? (yA 1 0)=some (.iface 320 (.agg #[zW 10 57])))(l:7<w.heap.size):Calls prog 74 #[LT x q] w λe j=>xq w j e (NP x):=by
 have m:=Y (λj k=>qf x q j k V C);obtain⟨D,n⟩:∃D,Hid (D=NM x.ss [] x.w):=⟨_,Y rfl⟩;have u:=Y (λj (B:yX w j) k=>ug q.a x.ss q.c none [] 0 x.w j k (.inl rfl) C.l1 σ C.s1 σ H v ((B.cell (p:=(yA 7 0)) l).E hv) ((B.cell (p:=(yA 1 0)) (by show 1<_;omega)).E G) (by have:=B.size;omega));clear hv G l;have O:=(qn x.ss [] x.w).1;rw[<-n.j]at u O;simp only[AT]at u;unfold LT at m⊢;have d:yX w ((w.alloc (.cells (wA x q) 42)).alloc (.cells #[yI none 0 0] 37)):=((AB _ _).alloc (AA _) _).alloc σ _;have c:=(LS w (wA x q) 42).alloc (.cells #[yI none 0 0] 37);have a:=NZ (w.alloc (.cells (wA x q) 42)) #[yI none 0 0] 37 (w.heap.size+1) σ
 cases hok:LW x with
 | false =>
  have e:NP x=([],1):=by unfold NP;rw[AF (by rw[hok];simp)]
  rw[e];rw[hok]at m;clear e;go_enter func74,ntmps74;go_wp2_with fail;obtain⟨R,i⟩:∃y,y=w.heap.size+1:=⟨_,rfl⟩;obtain⟨J,b⟩:∃y,y=w.heap.size:=⟨_,rfl⟩;obtain⟨E,f⟩:∃y,y=((w.alloc (.cells (wA x q) 42)).alloc (.cells #[yI none 0 0] 37)):=⟨_,rfl⟩;rw[<-f]at d c a;rw[<-i]at a;rw[<-b]at c;rw[<-f,<-i,<-b];have A:w.heap.size<=R:=ω
  clear f i;clear b;refine(m.j E (h.I d)).J ?_;rintro e I ⟨rfl,f⟩;have c:=c.I f;have a:=a.I f;have b:=d.E (f.J d.size);have h:=h.I b;clear d f;have r:=a.y 0;have U:=a.A 0;have rl:=a.lt;go_wp2;refine AE (v:=.tuple #[.agg #[yI none 0 0],Z 1]) (by simp[results,results74,go_sem,r]) rfl ?_;exact⟨none,0,rfl,AA _,.inl rfl,λg l=>(by cases l),b.setCell (p:=(yA R 0)) A _⟩
 | true =>
  have e:NP x=(D.rs,D.C):=by unfold NP;rw[AI hok,n.j]
  rw[e];rw[hok]at m;clear e n;go_enter func74,ntmps74;go_wp2_with fail;obtain⟨R,i⟩:∃y,y=w.heap.size+1:=⟨_,rfl⟩;obtain⟨J,b⟩:∃y,y=w.heap.size:=⟨_,rfl⟩;obtain⟨E,f⟩:∃y,y=((w.alloc (.cells (wA x q) 42)).alloc (.cells #[yI none 0 0] 37)):=⟨_,rfl⟩;rw[<-f]at d c a;rw[<-i]at a;rw[<-b]at c;rw[<-f,<-i,<-b];have A:w.heap.size<=R:=ω
  clear f i;clear b;refine(m.j E (h.I d)).J ?_;rintro e I ⟨rfl,f⟩;have c:=c.I f;have a:=a.I f;have b:=d.E (f.J d.size);have h:=h.I b;clear d f;have d:=c.y 0;have f:=c.y 1;have i:=c.lt;go_wp2_with fail;clear d f i;refine(u.j I b h.h1).J ?_;rintro e n ⟨⟨f,i,p,s,rfl,M,own,F,g2,z⟩,_⟩;unfold MD;have Q:=a.lt;have P:=b.size;have a:=a.I z;have b:=b.E (z.J b.size);have aV:=z.size;have t:=LS n (dK D.C D.W D.S D.L D.T D.H D.F D.R D.U D.O (yI f D.rs.length i) (yI p D.ops.length s)) 102;have o:yX n (n.alloc (.cells (dK D.C D.W D.S D.L D.T D.H D.F D.R D.U D.O (yI f D.rs.length i) (yI p D.ops.length s)) 102)):=(AB _ _).alloc (AA _) _;go_upto_region 4 with fail;obtain⟨d,k⟩:∃y,y=n.heap.size:=⟨_,rfl⟩;have S:R<d:=by rw[k];exact a.lt
  obtain⟨v4,r⟩:∃y,y=n.alloc (.cells (dK D.C D.W D.S D.L D.T D.H D.F D.R D.U D.O (yI f D.rs.length i) (yI p D.ops.length s)) 102):=⟨_,rfl⟩;rw[<-r]at t o;rw[<-k]at t;rw[<-r,<-k];clear r;clear k;have a:=a.I o;have b:=b.E (o.J b.size);have X:=own.s.I o
  have y:Hid (∀W,Row W d (dJ D.C D.W D.S D.L D.T D.H D.F D.R D.U D.O (yI f D.rs.length i) (yI p D.ops.length s))->W.cell? (yA d 10)=some (yI f D.rs.length i)/\W.cell? (yA d 0)=some (Z D.C)):=λW r=>⟨r.y 10,r.y 0⟩
  have N:Hid (R≠d):=Y (λe=>by have:=S;omega);have aU:=a.lt;have aT:=b.size;refine AN (S:=λj=>j.cell? (yA d 10)=some (yI f D.rs.length i)/\j.cell? (yA d 0)=some (Z D.C)) κ (y.j _ t.drew) (λk=>?_);refine TY 0 (zW d 1) rfl k (TY 1 (zW d 10) rfl k (TY 2 (.agg #[yI f D.rs.length i]) rfl k (TY 3 (zW d 0) rfl k (TY 4 (Z D.C) rfl k ?_))));simp only[PS];refine RD 5 rfl (λK j=>?_);have T:=a.y 0;have a:=a.drew;have r:=a.y 0;have U:=a.A 0;have rl:=a.lt;go_simp;refine j.j _ _ (y.j _ (t.drew.other _ (λe=>N.j e) _)) (λL=>?_)
  try simp only[PS]
  refine RD 6 rfl (λK j=>?_);go_simp;refine j.j _ _ L (λ_=>?_)
  try simp only[PS]
  refine DN ?_;go_wp2;refine AE (v:=.tuple #[.agg #[yI f D.rs.length i],Z D.C]) (by simp[results,results74,go_sem,r,T]) rfl ?_;exact⟨f,i,rfl,M,(X.I (AB _ _).drew).set' _ (λg l W=>by have:=F g (by subst l;exact ML _ _ _ (zd W));have:=Q;show R≠g;omega) _,λg l=>by have:=F g l;have:=P;omega,b.drew.setCell (p:=(yA R 0)) A _⟩
def RZ(x:Wo):Bool:=decide ((NP x).2=0) && x.P.any λp=>decide (p=(NP x).1)
theorem qL{P:List (List Pr)}{s:List Pr}(h:∀j,j<P.length->¬P.getD j []=s):(P.any λp=>decide (p=s))=false:=by
 rw[List.any_eq_false];intro p b;obtain⟨i,a,rfl⟩:=EL b;have:=h i a;simpa[List.getD,a] using this
theorem sQ{P:List (List Pr)}{s:List Pr}(j:Nat)(a:j<P.length)(h:P.getD j []=s):(P.any λp=>decide (p=s))=true :=List.any_eq_true.2 ⟨P.getD j [],by simp[List.getD,a],by simpa using h⟩
theorem M2(a b:xA)(d f:List Pr)(c i:Nat)(w:xV)(h:Prs w a d)(m:Prs w b f)(n:d.length<=1048576)(l:f.length<=1048576):Calls prog 120 #[LR a d.length c,LR b f.length i] w λe g=>e=yT (yR (decide (d=f)))/\yX w g:=by
 have g:yX w ((w.alloc (.cells #[yI a d.length c] 37)).alloc (.cells #[yI b f.length i] 37)):=((AB _ _).alloc (AA _) _).alloc σ _;have j:=Y (Ef a b d f c i _ (h.I g) (m.I g) n l);obtain⟨D,k⟩:∃D,D=decide (d=f):=⟨_,rfl⟩;rw[<-k]at j⊢;clear k;go_enter func120,ntmps120;go_wp2_with fail;refine j.j.J ?_;rintro e o ⟨rfl,k⟩;go_wp2;go_ret;exact⟨rfl,g.E (k.J g.size)⟩
theorem Lh(a:xA)(P:List (List Pr))(c:Nat)(b:xA)(d:List Pr)(x:Nat)(w:xV)(h:Pst w a P)(D:Prs w b d)(I:P.length<=1048576)(A:d.length<=1048576)(E:∀f∈P,f.length<=1048576):Calls prog 174 #[yI a P.length c,.func (.func 120) #[LR b d.length x] #[]] w λe g=>(∃r:Int,e=yT (Z r)/\(P.any λp=>decide (p=d))=decide (0<=r))/\yX w g:=by
 go_enter func174,ntmps174;go_wp2;go_loopw [5,8] (λ_ i wr=>∃k:Nat,k<=P.length/\i=Z (k:Int)/\Hid (∀j,j<k->¬P.getD j []=d)/\yX w wr) (λ_ i _=>P.length-(intOf i).toNat)
 case atStart=>exact⟨0,AL _,rfl,λj s=>absurd s ω,AB _ _⟩
 case round =>
  obtain⟨k,H,rfl,t,i⟩:=hrel
  by_cases q:k<P.length
  ·have z:(k:Int)<(P.length:Int):=ω
   obtain⟨G,J,p,C,rfl,F,B,u⟩:=(h.I i).at q;have v:(P.getD k []).length<=1048576:=E _ (by simp[List.getD,q])
   have m:Hid (¬P.getD k []=d->∀j,j<k+1->¬P.getD j []=d):=Y (λf j s=>by
    by_cases e:j=k
    ·subst e;exact f
    ·exact t.j j ω)
   have n:Hid (P.getD k []=d->(P.any λp=>decide (p=d))=true):=Y (λf=>sQ k q f);obtain⟨o,f⟩:∃r,r=P.getD k []:=⟨_,rfl⟩;rw[<-f]at B u v m n;clear f;go_wp2_with fail;refine(M2 b p d o x C _ (D.I i) u.j A v).J ?_;rintro e K ⟨rfl,y⟩;have r:=i.E (y.J i.size)
   by_cases f:d=o
   ·have l:decide (d=o)=true:=AM f
    rw[l];have g:=n.j f.symm;clear l f n m;go_wp2;go_ret
    exact⟨⟨(k:Int),rfl,by first|(rw[g,AM ω])|omega|(simp[g];done)⟩,r⟩
   have l:decide (d=o)=false:=AH f
   rw[l];have g:=Y (m.j (λe=>f e.symm));clear l f n m;go_wp2;go_roundw
   case rel=>exact⟨k+1,ω,ν,g.j,r⟩
   case measure=>simp[intOf];omega
  have z:¬(k:Int)<(P.length:Int):=ω
  have g:=qL (P:=P) (s:=d) (λj s=>t.j j ω);go_wp2;go_ret
  exact⟨⟨-1,rfl,by first|(rw[g,AH ω])|omega|(simp[g];done)⟩,i⟩
theorem Hp(a:xA)(P:List (List Pr))(c:Nat)(b:xA)(d:List Pr)(g:Nat)(w:xV)(h:Pst w a P)(k:Prs w b d)(m:P.length<=1048576)(j:d.length<=1048576)(o:∀f∈P,f.length<=1048576):Calls prog 119 #[yI a P.length c,.func (.func 120) #[LR b d.length g] #[]] w λe i=>e=yT (yR (P.any λp=>decide (p=d)))/\yX w i:=by
 obtain⟨B,i⟩:∃B,Hid (B=(P.any λp=>decide (p=d))):=⟨_,Y rfl⟩;have f:=Y (Lh a P c b d g w h k m j o);rw[<-i.j]at f⊢;go_enter func119,ntmps119;go_wp2_with fail;refine f.j.J ?_;rintro e p ⟨⟨r,rfl,n⟩,l⟩;go_wp2;go_ret;exact⟨by rw[n];rfl,l⟩
theorem qO{x:Wo}(h:(NP x).2≠0):RZ x=false:=by unfold RZ;rw[AH h];rfl
theorem qB{x:Wo}(h:(NP x).2=0):RZ x=x.P.any λp=>decide (p=(NP x).1):=by unfold RZ;rw[AM h];simp
theorem Dh(x:Wo)(q:Wp)(w:xV)(h:x.at w q)(E:x.le 1048576):Calls prog 57 #[LT x q] w λe n=>e=yT (yR (RZ x))/\yX w n:=by
 have f:=Y (λn k=>pH x q n k E);have T:=jm x;have u:Hid ((NP x).2≠0->RZ x=false):=Y qO;have v:Hid ((NP x).2=0->RZ x=x.P.any λp=>decide (p=(NP x).1)):=Y qB;obtain⟨R,c⟩:∃r,r=RZ x:=⟨_,rfl⟩;obtain⟨fr,b⟩:∃r,r=NP x:=⟨_,rfl⟩;obtain⟨a,C⟩:=fr;rw[<-c]at u v⊢;rw[<-b]at f T u v;clear c b;have bH:=E.l4;have bE:Hid (∀a∈x.P,a.length<=1048576):=Y (λa b=>(E.s4 a b).1);unfold LT at f⊢;have g:yX w (w.alloc (.cells (wA x q) 42)):=(AB _ _).alloc (AA _) _;have b:=LS w (wA x q) 42;go_enter func57,ntmps57;go_wp2_with fail;obtain⟨L,c⟩:∃y,y=w.heap.size:=⟨_,rfl⟩;obtain⟨v1,d⟩:∃y,y=w.alloc (.cells (wA x q) 42):=⟨_,rfl⟩;rw[<-d]at g b;rw[<-c]at b;rw[<-d,<-c];clear d;clear c;refine(f.j v1 (h.I g)).J ?_;rintro e o ⟨l,m,rfl,bG,ow,-,c⟩;have b:=b.I c;have d:=g.E (c.J g.size);have I:=h.h4.I d
 clear g c h f E
 by_cases J:C=0
 ·subst J
  have c:=v.j rfl;clear u v;have s:=LS o #[yI l a.length m] 37;have f:yX o (o.alloc (.cells #[yI l a.length m] 37)):=(AB _ _).alloc (AA _) _;go_upto_region 2 with fail;obtain⟨V,g⟩:∃y,y=o.heap.size:=⟨_,rfl⟩;obtain⟨v3,i⟩:∃y,y=o.alloc (.cells #[yI l a.length m] 37):=⟨_,rfl⟩;rw[<-i]at s f;rw[<-g]at s;rw[<-i,<-g];clear i;clear g;have b:=b.I f;have d:=d.E (f.J d.size);have pr:=ow.prs.I f;have I:=I.I f;clear f;have O:Hid (∀k,k<x.P.length->x.P.getD k []=a->R=true):=Y (λk U t=>by rw[c];exact sQ k U t);have N:Hid ((∀j,j<x.P.length->¬x.P.getD j []=a)->R=false):=Y (λt=>by rw[c];exact qL t);clear c;go_wp2;go_loopw [5] (λi wr=>∃k:Nat,k<=x.P.length/\i=Z (k:Int)/\Hid (∀j,j<k->¬x.P.getD j []=a)/\yX v3 wr) (λi _=>x.P.length-(intOf i).toNat)
  case atStart=>exact⟨0,AL _,rfl,λj K=>absurd K ω,AB _ _⟩
  case round =>
   obtain⟨k,U,rfl,M,f⟩:=hrel;have b:=b.I f;have s:=s.I f;have ra:=b.y 14;have bI:=b.lt
   by_cases F:k<x.P.length
   ·have X:(k:Int)<(x.P.length:Int):=ω
    obtain⟨y,z,p,H,c,g,G,Q⟩:=(I.I f).at F;rw[c]at ra b;have P:(x.P.getD k []).length<=1048576:=bE.j _ (by simp[List.getD,F])
    have A:Hid (¬x.P.getD k []=a->∀j,j<k+1->¬x.P.getD j []=a):=Y (λt j K=>by
     by_cases e:j=k
     ·subst e;exact t
     ·exact M.j j ω)
    have B:=Y (O.j k F);obtain⟨t,i⟩:∃r,r=x.P.getD k []:=⟨_,rfl⟩;rw[<-i]at G Q P A B;clear i;rw[c];clear c;go_upto_region 7 with fail;refine AN (S:=λn=>n.cell? (yA L 14)=some (yI (zY y z) x.P.length q.cp)/\n.cell? (yA y (z+k))=some (yI p t.length H)/\n.cell? (yA V 0)=some (yI l a.length m)) κ (⟨b.drew.y 14,G,s.drew.y 0⟩) (λi=>?_);refine TY 0 (zW L 14) rfl i (TY 1 (yI (zY y z) x.P.length q.cp) rfl i (TY 2 (Z (k:Int)) rfl i (TY 3 (zW y (z+k)) rfl i (TY 4 (.agg #[yI p t.length H]) rfl i (TY 5 (.agg #[yI l a.length m]) rfl i ?_)))));simp only[PS];refine RD 6 rfl (λKq W=>?_);refine LI ρ _ _ γ (I4 p l t a H m _ (Q.j.I (AB _ _).drew) ((pr.I f).I (AB _ _).drew) P T) ?_
    rintro e u1 ⟨rfl,D⟩;refine⟨_,rfl,?_⟩;have S:=(f.E ((AB wr.heap.size wr).drew.J f.size)).E (D.J f.size);refine W.j _ _ (⟨(b.drew.I D).y 14,(D.cell (p:=(yA y (z+k))) g).E G,(s.drew.I D).y 0⟩) (λaY=>?_)
    try simp only[PS]
    refine DN ?_
    by_cases n:t=a
    ·have r:decide (t=a)=true:=AM n
     rw[r];have c:=B.j n;clear r n B A N O;subst c;go_wp2;go_ret;exact⟨rfl,d.E (S.J d.size)⟩
    have r:decide (t=a)=false:=AH n
    rw[r];have c:=Y (A.j n);clear r n B A;go_wp2;go_roundw
    case rel=>exact⟨k+1,ω,ν,c.j,S⟩
    case measure=>simp[intOf];omega
   have X:¬(k:Int)<(x.P.length:Int):=ω
   have c:=N.j (λj K=>M.j j ω);subst c;go_wp2;go_ret;exact⟨rfl,d.E (f.J d.size)⟩
 have c:=u.j J
 clear u v;subst c;have g:(C == 0)=false:=by simpa using J
 have f:yX o (o.alloc (.cells #[yI l a.length m] 37)):=(AB _ _).alloc (AA _) _;go_wp2;go_ret;exact⟨rfl,d.E (f.J d.size)⟩
theorem M7(x:Wo)(q:Wp)(w:xV)(h:x.at w q)(H:x.rs.length<=q.cs)(o:x.le 1048576)(D:TypeId)(v:qD)(hv:w.cell? (yA 7 0)=some (.iface D v))(A:w.cell? (yA 1 0)=some (.iface 320 (.agg #[zW 10 57])))(B:7<w.heap.size):Calls prog 76 #[LT x q] w λe a=>e=yT (yR (RZ x))/\yX w a:=by
 have n:=Y (λa (u:yX w a) k=>nZ x q a k H o D v ((u.cell (p:=(yA 7 0)) B).E hv) ((u.cell (p:=(yA 1 0)) (by show 1<_;omega)).E A) (by have:=u.size;omega));clear hv A B;have z:=jm x;have i:Hid ((NP x).2≠0->RZ x=false):=Y qO;have j:Hid ((NP x).2=0->RZ x=x.P.any λp=>decide (p=(NP x).1)):=Y qB;obtain⟨R,f⟩:∃r,r=RZ x:=⟨_,rfl⟩;obtain⟨G,b⟩:∃r,r=NP x:=⟨_,rfl⟩;obtain⟨a,C⟩:=G;rw[<-f]at i j⊢;rw[<-b]at n z i j;clear f b;have E:=o.l4;have F:Hid (∀a∈x.P,a.length<=1048576):=Y (λa b=>(o.s4 a b).1);unfold LT at n⊢;have b:yX w (w.alloc (.cells (wA x q) 42)):=(AB _ _).alloc (AA _) _;have d:=LS w (wA x q) 42;go_enter func76,ntmps76;go_wp2_with fail;obtain⟨L,c⟩:∃y,y=w.heap.size:=⟨_,rfl⟩;obtain⟨J,f⟩:∃y,y=w.alloc (.cells (wA x q) 42):=⟨_,rfl⟩;rw[<-f]at b d;rw[<-c]at d
 rw[<-f,<-c];clear f;clear c;refine(n.j J b (h.I b)).J ?_;rintro e g ⟨l,m,rfl,N,I,-,f⟩;have d:=d.I f;have c:=b.E (f.J b.size);have s:=h.h4.I c;clear b f h n o
 by_cases t:C=0
 ·subst t
  have f:=j.j rfl;clear i j;have n:=LS g #[yI l a.length m] 37;have b:yX g (g.alloc (.cells #[yI l a.length m] 37)):=(AB _ _).alloc (AA _) _;go_upto_region 2 with fail;obtain⟨M,p⟩:∃y,y=g.heap.size:=⟨_,rfl⟩;obtain⟨K,r⟩:∃y,y=g.alloc (.cells #[yI l a.length m] 37):=⟨_,rfl⟩;rw[<-r]at n b;rw[<-p]at n;rw[<-r,<-p];clear r;clear p;have d:=d.I b;have c:=c.E (b.J c.size);have p:=I.prs.I b;have s:=s.I b;clear b;have b:=Y (Hp q.p x.P q.cp l a m K s p E z F.j);rw[<-f]at b;clear f;have O:=d.y 14;have r:=d.lt;have P:=n.y 0;have y:=n.lt;go_wp2_with fail;refine b.j.J ?_;rintro e Q ⟨rfl,f⟩;go_wp2;go_ret;exact⟨rfl,c.E (f.J c.size)⟩
 have f:=i.j t
 clear i j;subst f;have i:(C == 0)=false:=by simpa using t
 have b:yX g (g.alloc (.cells #[yI l a.length m] 37)):=(AB _ _).alloc (AA _) _;go_wp2;go_ret;exact⟨rfl,c.E (b.J c.size)⟩
