import Derived.Test.YtjdmogljfdffeaaGreatDoorPrG24
set_option maxHeartbeats 16000000
namespace Go.Proofs.YtjdmogljfdffeaaGreatDoor
open Tryz
open Go.RowKit nw
set_option maxRecDepth 8000
set_option linter.all false
theorem BdX.fin{b w:World}{e:TypeId}{k:Nat}{R:Nat}{a:Option Addr}{n c:Nat}{q:Int}{l:List Value}(h:BdX b w e k R a n c q (.slice none 0 0) 0 [] b.heap.size l)(d:List Value)(m:d.length=l.length):Row (w.setCells b.heap.size 0 d) b.heap.size d/\Rdr (w.setCells b.heap.size 0 d) R a n c q/\b.grownBy (w.setCells b.heap.size 0 d) (some R)/\w.grownBy (w.setCells b.heap.size 0 d) (some b.heap.size):=by
 have G:=OQ w b.heap.size 0 d;have f:Below b.heap.size w (w.setCells b.heap.size 0 d):=MR G h.s.lt (λg e=>by cases e;exact Y _);have g:=h.s.gr;exact⟨h.row.sets d m,h.s.rd.keep (N:=b.heap.size) h.s.lR h.s.ga f,⟨f.os.j g.os,f.tape.j g.tape,f.output.j g.output,AL g.size f.size,λi j o=>(f.block i j).j (g.block i j o)⟩,G⟩
def Bk(w e:World)(R:Nat)(a:Option Addr)(n c:Nat)(p:Int):Prop:=∃m d q,(8<=m/\m<=40)/\(1<=d/\d<=8)/\Row e w.heap.size [.int .i64 (KV m d).w,.slice q.a (KV m d).ss.length q.c,.slice q.a' (KV m d).ws.length q.c',.bool (KV m d).up,.int .i64 (KV m d).W,.int .i64 (KV m d).S,.int .i64 (KV m d).L,.int .i64 (KV m d).T,.int .i64 (KV m d).H,.int .i64 (KV m d).F,.int .i64 (KV m d).R,.int .i64 (KV m d).U,.int .i64 (KV m d).O,.slice q.s (KV m d).rs.length q.cs,.slice q.p (KV m d).P.length q.cp,.slice q.t (KV m d).ts.length q.ct]/\WoF (KV m d) e (λb=>w.heap.size<=b) q/\Rdr e R a n c p/\w.grownBy e (some R)
def Gt(w c:World)(r:Ending):Prop:=∃m a q,(8<=m/\m<=40)/\(1<=a/\a<=8)/\r=.returned (LO (KV m a) q)/\WoF (KV m a) c (λb=>w.heap.size<=b) q
theorem zV(R:Nat)(a:Option Addr)(n c:Nat)(p:Int)(w:World)(h:Rdr w R a n c p)(hp:p<99980000):Calls prog 87 #[.pointer (some ⟨R,0,none⟩)] w λr b=>Gt w b r/\TU w R a n c p 2 b:=by
 have p0:=h.p0;have U:BdX w (w.alloc (.cells #[.int .i64 0,.slice none 0 0,.slice none 0 0,.bool false,.int .i64 0,.int .i64 0,.int .i64 0,.int .i64 0,.int .i64 0,.int .i64 0,.int .i64 0,.int .i64 0,.int .i64 0,.slice none 0 0,.slice none 0 0,.slice none 0 0] 36)) 3 1 R a n c p (.slice none 0 0) 0 [] w.heap.size [.int .i64 0,.slice none 0 0,.slice none 0 0,.bool false,.int .i64 0,.int .i64 0,.int .i64 0,.int .i64 0,.int .i64 0,.int .i64 0,.int .i64 0,.int .i64 0,.int .i64 0,.slice none 0 0,.slice none 0 0,.slice none 0 0]:=⟨⟨h.z (LB _ _),CE _ _ _ _,RW _ (LB _ _),h.lts.1,h.lts.2⟩,LU _ _ _,λe=>(by cases e),Y _⟩;go_enter func87,ntmps87;go_upto_region 1 with fail;go_cut [] from 3 to 10 (λd=>Bk w d R a n c (p+1+1))
 case rest =>
  obtain⟨z,i,j,F,d,s,o,r,q⟩:=hcut;go_wp2;obtain⟨u,v,x,y,A,B,C,D,E,G,f,g,k,l,m,t,H⟩:=c16 s;exact AI (v:=.agg (wA (KV z i) j)) (by simp[results,results87,go_sem,u,v,x,y,A,B,C,D,E,G,f,g,k,l,m,t]) rfl ⟨⟨z,i,j,F,d,rfl,o⟩,⟨p+1+1,ω,ω,r⟩,q⟩
 case first =>
 obtain⟨v0,d⟩:∃y,y=w.alloc (.cells #[.int .i64 0,.slice none 0 0,.slice none 0 0,.bool false,.int .i64 0,.int .i64 0,.int .i64 0,.int .i64 0,.int .i64 0,.int .i64 0,.int .i64 0,.int .i64 0,.int .i64 0,.slice none 0 0,.slice none 0 0,.slice none 0 0] 36):=⟨_,rfl⟩;rw[<-d]at U⊢;clear d;refine AN (S:=λb=>True) κ (trivial) (λf=>?_);refine V 1 (.pointer (some ⟨R,0,none⟩)) rfl f (V 5 (.pointer (some ⟨R,0,none⟩)) rfl f ?_);simp only[J];refine DH (rs:=[0,2]) κ σ ?_;refine AY rfl (λl d=>?_) (AY rfl (λl d=>?_) DE)
 ·obtain⟨M,i⟩:∃y,y=v0.drew:=⟨_,rfl⟩
  rw[<-i];have N:BdX w M 3 1 R a n c p (.slice none 0 0) 0 [] w.heap.size [.int .i64 0,.slice none 0 0,.slice none 0 0,.bool false,.int .i64 0,.int .i64 0,.int .i64 0,.int .i64 0,.int .i64 0,.int .i64 0,.int .i64 0,.int .i64 0,.int .i64 0,.slice none 0 0,.slice none 0 0,.slice none 0 0]:=by rw[i];exact U.drew
  clear i;go_simp;have A:=N.z (LB M (.cells #[.int .i64 8,.int .i64 9,.int .i64 10,.int .i64 12,.int .i64 16,.int .i64 24,.int .i64 40] 3));have m:=LU M #[.int .i64 8,.int .i64 9,.int .i64 10,.int .i64 12,.int .i64 16,.int .i64 24,.int .i64 40] 3;have xl:=N.s.lR;have x0:=N.s.lt;obtain⟨X,j⟩:∃z,z=M.heap.size:=⟨_,rfl⟩;obtain⟨y0,o⟩:∃z,z=M.alloc (.cells #[.int .i64 8,.int .i64 9,.int .i64 10,.int .i64 12,.int .i64 16,.int .i64 24,.int .i64 40] 3):=⟨_,rfl⟩;have W:R<X:=by rw[j];omega
  rw[<-j,<-o]at m;rw[<-o]at A;rw[<-o,<-j];clear o j;refine d.l _ _ f (λ_=>?_)
  try simp only[J]
  refine RD 2 rfl (λl d=>?_);refine LC ρ _ _ γ (KX R a n c (p) 7 _ A.s.rd ω) ?_;rintro e Q ⟨⟨P,rfl,t0,t1⟩,o,j⟩;refine⟨_,rfl,?_⟩;have B:=A.pick o j;have m:=m.I j (λe=>by injection e with e;omega);obtain⟨t,rfl⟩:∃k:Nat,P=(k:Int):=⟨P.toNat,ω⟩;have t6:t<7:=ω
  have aR:(t:Int)<7:=ω
  clear o j
  obtain⟨z,I,F⟩:∃z:Int,([.int .i64 8,.int .i64 9,.int .i64 10,.int .i64 12,.int .i64 16,.int .i64 24,.int .i64 40]:List Value)[t]?=some (.int .i64 z)/\(8<=z/\z<=40):=by rcases t with _|_|_|_|_|_|_|t<;>first|exact⟨_,rfl,ω⟩|omega
  have O:=m.cell t _ I;refine d.l _ _ f (λ_=>?_)
  try simp only[J]
  refine V 3 (.pointer (some ⟨X,t,none⟩)) rfl f ?_;simp only[J];refine DH (rs:=[4,6]) κ σ ?_;refine AY rfl (λl d=>?_) (AY rfl (λl d=>?_) DE)
  ·go_simp
   refine d.l _ _ f (λ_=>?_)
   try simp only[J]
   refine RD 6 rfl (λl d=>?_);refine LC ρ _ _ γ (OX R a n c (p+1) _ B.s.rd ω) ?_;rintro e L ⟨⟨i,rfl,G,H⟩,o,j⟩;refine⟨_,rfl,?_⟩;have u:=B.pick o j;have m:=m.I j (λe=>by injection e with e;omega);clear o j;have O:=m.cell t _ I;refine d.l _ _ f (λ_=>?_)
   try simp only[J]
   refine RD 7 rfl (λl d=>?_);refine LC ρ _ _ γ (dx z i _ ω ω) ?_;have S:=u.row.lt;rintro e K ⟨j,rfl,C,E⟩;refine⟨_,rfl,?_⟩;have v:=u.z E;unfold LO;refine d.l _ _ f (λ_=>?_)
   try simp only[J]
   refine RD 8 rfl (λl d=>?_);refine SU ρ 36 _ _ ρ w.heap.size 0 (wA (KV z i) j) ρ ρ (v.row.there rfl) LX κ ?_;refine d.l _ _ f (λ_=>?_)
   try simp only[J]
   refine DN ?_;obtain⟨s,r,q,x⟩:=v.fin (wL (KV z i) j) rfl;have o:=C.I x (λg e k=>by cases e;rcases k with k|k;exact k;omega);generalize D:K.setCells _ _ _=T at s r q x o⊢;clear D;go_wp2_with fail;go_meet;exact⟨z,i,j,F,⟨G,H⟩,s,o.A (λb _ k=>by rcases k with k|k;exact k.elim;omega),r,q⟩
  refine LC ρ _ _ γ (OX R a n c (p+1) _ B.s.rd ω) ?_
  rintro e L ⟨⟨i,rfl,G,H⟩,o,j⟩;refine⟨_,rfl,?_⟩;have u:=B.pick o j;have m:=m.I j (λe=>by injection e with e;omega);clear o j;have O:=m.cell t _ I;refine d.l _ _ f (λ_=>?_)
  try simp only[J]
  refine RD 4 rfl (λl d=>?_);go_simp;refine d.l _ _ f (λ_=>?_)
  try simp only[J]
  refine RD 7 rfl (λl d=>?_);refine LC ρ _ _ γ (dx z i _ ω ω) ?_;have S:=u.row.lt;rintro e K ⟨j,rfl,C,E⟩;refine⟨_,rfl,?_⟩;have v:=u.z E;unfold LO;refine d.l _ _ f (λ_=>?_)
  try simp only[J]
  refine RD 8 rfl (λl d=>?_);refine SU ρ 36 _ _ ρ w.heap.size 0 (wA (KV z i) j) ρ ρ (v.row.there rfl) LX κ ?_;refine d.l _ _ f (λ_=>?_)
  try simp only[J]
  refine DN ?_;obtain⟨s,r,q,x⟩:=v.fin (wL (KV z i) j) rfl;have o:=C.I x (λg e k=>by cases e;rcases k with k|k;exact k;omega);generalize D:K.setCells _ _ _=T at s r q x o⊢;clear D;go_wp2_with fail;go_meet;exact⟨z,i,j,F,⟨G,H⟩,s,o.A (λb _ k=>by rcases k with k|k;exact k.elim;omega),r,q⟩
 obtain⟨M,i⟩:∃y,y=v0.drew:=⟨_,rfl⟩
 rw[<-i];have N:BdX w M 3 1 R a n c p (.slice none 0 0) 0 [] w.heap.size [.int .i64 0,.slice none 0 0,.slice none 0 0,.bool false,.int .i64 0,.int .i64 0,.int .i64 0,.int .i64 0,.int .i64 0,.int .i64 0,.int .i64 0,.int .i64 0,.int .i64 0,.slice none 0 0,.slice none 0 0,.slice none 0 0]:=by rw[i];exact U.drew
 clear i;refine LC ρ _ _ γ (KX R a n c (p) 7 _ N.s.rd ω) ?_;rintro e Q ⟨⟨P,rfl,t0,t1⟩,o,j⟩;refine⟨_,rfl,?_⟩;have B:=N.pick o j;obtain⟨t,rfl⟩:∃k:Nat,P=(k:Int):=⟨P.toNat,ω⟩;have t6:t<7:=ω
 have aR:(t:Int)<7:=ω
 clear o j;refine d.l _ _ f (λ_=>?_)
 try simp only[J]
 refine DH (rs:=[0,6]) κ σ ?_;refine AY rfl (λl d=>?_) (AY rfl (λl d=>?_) DE)
 ·go_simp
  have A:=B.z (LB Q (.cells #[.int .i64 8,.int .i64 9,.int .i64 10,.int .i64 12,.int .i64 16,.int .i64 24,.int .i64 40] 3));have m:=LU Q #[.int .i64 8,.int .i64 9,.int .i64 10,.int .i64 12,.int .i64 16,.int .i64 24,.int .i64 40] 3;have xl:=B.s.lR;have x0:=B.s.lt;obtain⟨X,j⟩:∃z,z=Q.heap.size:=⟨_,rfl⟩;obtain⟨y0,o⟩:∃z,z=Q.alloc (.cells #[.int .i64 8,.int .i64 9,.int .i64 10,.int .i64 12,.int .i64 16,.int .i64 24,.int .i64 40] 3):=⟨_,rfl⟩;have W:R<X:=by rw[j];omega
  rw[<-j,<-o]at m;rw[<-o]at A;rw[<-o,<-j];clear o j
  obtain⟨z,I,F⟩:∃z:Int,([.int .i64 8,.int .i64 9,.int .i64 10,.int .i64 12,.int .i64 16,.int .i64 24,.int .i64 40]:List Value)[t]?=some (.int .i64 z)/\(8<=z/\z<=40):=by rcases t with _|_|_|_|_|_|_|t<;>first|exact⟨_,rfl,ω⟩|omega
  have O:=m.cell t _ I;refine d.l _ _ f (λ_=>?_)
  try simp only[J]
  refine V 3 (.pointer (some ⟨X,t,none⟩)) rfl f ?_;simp only[J];refine DH (rs:=[4,6]) κ σ ?_;refine AY rfl (λl d=>?_) (AY rfl (λl d=>?_) DE)
  ·go_simp
   refine d.l _ _ f (λ_=>?_)
   try simp only[J]
   refine RD 6 rfl (λl d=>?_);refine LC ρ _ _ γ (OX R a n c (p+1) _ A.s.rd ω) ?_;rintro e L ⟨⟨i,rfl,G,H⟩,o,j⟩;refine⟨_,rfl,?_⟩;have u:=A.pick o j;have m:=m.I j (λe=>by injection e with e;omega);clear o j;have O:=m.cell t _ I;refine d.l _ _ f (λ_=>?_)
   try simp only[J]
   refine RD 7 rfl (λl d=>?_);refine LC ρ _ _ γ (dx z i _ ω ω) ?_;have S:=u.row.lt;rintro e K ⟨j,rfl,C,E⟩;refine⟨_,rfl,?_⟩;have v:=u.z E;unfold LO;refine d.l _ _ f (λ_=>?_)
   try simp only[J]
   refine RD 8 rfl (λl d=>?_);refine SU ρ 36 _ _ ρ w.heap.size 0 (wA (KV z i) j) ρ ρ (v.row.there rfl) LX κ ?_;refine d.l _ _ f (λ_=>?_)
   try simp only[J]
   refine DN ?_;obtain⟨s,r,q,x⟩:=v.fin (wL (KV z i) j) rfl;have o:=C.I x (λg e k=>by cases e;rcases k with k|k;exact k;omega);generalize D:K.setCells _ _ _=T at s r q x o⊢;clear D;go_wp2_with fail;go_meet;exact⟨z,i,j,F,⟨G,H⟩,s,o.A (λb _ k=>by rcases k with k|k;exact k.elim;omega),r,q⟩
  refine LC ρ _ _ γ (OX R a n c (p+1) _ A.s.rd ω) ?_
  rintro e L ⟨⟨i,rfl,G,H⟩,o,j⟩;refine⟨_,rfl,?_⟩;have u:=A.pick o j;have m:=m.I j (λe=>by injection e with e;omega);clear o j;have O:=m.cell t _ I;refine d.l _ _ f (λ_=>?_)
  try simp only[J]
  refine RD 4 rfl (λl d=>?_);go_simp;refine d.l _ _ f (λ_=>?_)
  try simp only[J]
  refine RD 7 rfl (λl d=>?_);refine LC ρ _ _ γ (dx z i _ ω ω) ?_;have S:=u.row.lt;rintro e K ⟨j,rfl,C,E⟩;refine⟨_,rfl,?_⟩;have v:=u.z E;unfold LO;refine d.l _ _ f (λ_=>?_)
  try simp only[J]
  refine RD 8 rfl (λl d=>?_);refine SU ρ 36 _ _ ρ w.heap.size 0 (wA (KV z i) j) ρ ρ (v.row.there rfl) LX κ ?_;refine d.l _ _ f (λ_=>?_)
  try simp only[J]
  refine DN ?_;obtain⟨s,r,q,x⟩:=v.fin (wL (KV z i) j) rfl;have o:=C.I x (λg e k=>by cases e;rcases k with k|k;exact k;omega);generalize D:K.setCells _ _ _=T at s r q x o⊢;clear D;go_wp2_with fail;go_meet;exact⟨z,i,j,F,⟨G,H⟩,s,o.A (λb _ k=>by rcases k with k|k;exact k.elim;omega),r,q⟩
 refine LC ρ _ _ γ (OX R a n c (p+1) _ B.s.rd ω) ?_
 rintro e L ⟨⟨i,rfl,G,H⟩,o,j⟩;refine⟨_,rfl,?_⟩;have u:=B.pick o j;clear o j;refine d.l _ _ f (λ_=>?_)
 try simp only[J]
 refine RD 0 rfl (λl d=>?_);go_simp;have A:=u.z (LB L (.cells #[.int .i64 8,.int .i64 9,.int .i64 10,.int .i64 12,.int .i64 16,.int .i64 24,.int .i64 40] 3));have m:=LU L #[.int .i64 8,.int .i64 9,.int .i64 10,.int .i64 12,.int .i64 16,.int .i64 24,.int .i64 40] 3;have xl:=u.s.lR;have x0:=u.s.lt;obtain⟨X,j⟩:∃z,z=L.heap.size:=⟨_,rfl⟩;obtain⟨y0,o⟩:∃z,z=L.alloc (.cells #[.int .i64 8,.int .i64 9,.int .i64 10,.int .i64 12,.int .i64 16,.int .i64 24,.int .i64 40] 3):=⟨_,rfl⟩;have W:R<X:=by rw[j];omega
 rw[<-j,<-o]at m;rw[<-o]at A;rw[<-o,<-j];clear o j
 obtain⟨z,I,F⟩:∃z:Int,([.int .i64 8,.int .i64 9,.int .i64 10,.int .i64 12,.int .i64 16,.int .i64 24,.int .i64 40]:List Value)[t]?=some (.int .i64 z)/\(8<=z/\z<=40):=by rcases t with _|_|_|_|_|_|_|t<;>first|exact⟨_,rfl,ω⟩|omega
 have O:=m.cell t _ I;refine d.l _ _ f (λ_=>?_)
 try simp only[J]
 refine V 3 (.pointer (some ⟨X,t,none⟩)) rfl f ?_;simp only[J];refine RD 4 rfl (λl d=>?_);go_simp;refine d.l _ _ f (λ_=>?_)
 try simp only[J]
 refine RD 7 rfl (λl d=>?_);refine LC ρ _ _ γ (dx z i _ ω ω) ?_;have S:=A.row.lt;rintro e K ⟨j,rfl,C,E⟩;refine⟨_,rfl,?_⟩;have v:=A.z E;unfold LO;refine d.l _ _ f (λ_=>?_)
 try simp only[J]
 refine RD 8 rfl (λl d=>?_);refine SU ρ 36 _ _ ρ w.heap.size 0 (wA (KV z i) j) ρ ρ (v.row.there rfl) LX κ ?_;refine d.l _ _ f (λ_=>?_)
 try simp only[J]
 refine DN ?_;obtain⟨s,r,q,x⟩:=v.fin (wL (KV z i) j) rfl;have o:=C.I x (λg e k=>by cases e;rcases k with k|k;exact k;omega);generalize D:K.setCells _ _ _=T at s r q x o⊢;clear D;go_wp2_with fail;go_meet;exact⟨z,i,j,F,⟨G,H⟩,s,o.A (λb _ k=>by rcases k with k|k;exact k.elim;omega),r,q⟩
