import Derived.Test.YtmlejnbjclkdjaaGreatDoorPrG31
set_option maxHeartbeats 16000000
namespace Go.Proofs.YtmlejnbjclkdjaaGreatDoor
open Tryz
open Go.RowKit nw
set_option maxRecDepth 8000
set_option linter.all false
theorem BdX.fin{b w:Nb}{e:TypeId}{k:Nat}{R:Nat}{a:M6}{n c:Nat}{q:Int}{l:List Nc}(h:BdX b w e k R a n c q (.slice none 0 0) 0 [] b.heap.size l)(d:List Nc)(m:d.length=l.length):Row (w.setCells b.heap.size 0 d) b.heap.size d/\Rdr (w.setCells b.heap.size 0 d) R a n c q/\b.grownBy (w.setCells b.heap.size 0 d) (some R)/\w.grownBy (w.setCells b.heap.size 0 d) (some b.heap.size):=by
 have G:=LG w b.heap.size 0 d;have f:Below b.heap.size w (w.setCells b.heap.size 0 d):=NR G h.s.lt (λg e=>by cases e;exact AA _);have g:=h.s.gr;exact⟨h.row.sets d m,h.s.rd.keep (N:=b.heap.size) h.s.lR h.s.ga f,⟨f.os.j g.os,f.tape.j g.tape,f.output.j g.output,AK g.size f.size,λi j o=>(f.block i j).j (g.block i j o)⟩,G⟩
def Cq(w e:Nb)(R:Nat)(a:M6)(n c:Nat)(p:Int):Prop:=∃m d q,(8<=m/\m<=40)/\(1<=d/\d<=8)/\Row e w.heap.size [.int .i64 (LN m d).w,.slice q.a (LN m d).ss.length q.c,.slice q.a' (LN m d).ws.length q.c',M0 (LN m d).up,.int .i64 (LN m d).W,.int .i64 (LN m d).S,.int .i64 (LN m d).L,.int .i64 (LN m d).T,.int .i64 (LN m d).H,.int .i64 (LN m d).F,.int .i64 (LN m d).R,.int .i64 (LN m d).U,.int .i64 (LN m d).O,.slice q.s (LN m d).rs.length q.cs,.slice q.p (LN m d).P.length q.cp,.slice q.t (LN m d).ts.length q.ct]/\WoF (LN m d) e (λb=>w.heap.size<=b) q/\Rdr e R a n c p/\w.grownBy e (some R)
def I0(w c:Nb)(r:Ending):Prop:=∃m a q,(8<=m/\m<=40)/\(1<=a/\a<=8)/\r=M3 (MB (LN m a) q)/\WoF (LN m a) c (λb=>w.heap.size<=b) q
theorem Bb(R:Nat)(a:M6)(n c:Nat)(p:Int)(w:Nb)(h:Rdr w R a n c p)(hp:p<99980000):Calls prog 107 #[Mv R 0] w λr b=>I0 w b r/\dr w R a n c p 2 b:=by
 have p0:=h.p0;have T:BdX w (w.alloc (.cells #[.int .i64 0,.slice none 0 0,.slice none 0 0,M0 false,.int .i64 0,.int .i64 0,.int .i64 0,.int .i64 0,.int .i64 0,.int .i64 0,.int .i64 0,.int .i64 0,.int .i64 0,.slice none 0 0,.slice none 0 0,.slice none 0 0] 36)) 3 1 R a n c p (.slice none 0 0) 0 [] w.heap.size [.int .i64 0,.slice none 0 0,.slice none 0 0,M0 false,.int .i64 0,.int .i64 0,.int .i64 0,.int .i64 0,.int .i64 0,.int .i64 0,.int .i64 0,.int .i64 0,.int .i64 0,.slice none 0 0,.slice none 0 0,.slice none 0 0]:=⟨⟨h.I (RZ _ _),DA _ _ _ _,UA _ (RZ _ _),h.lts.1,h.lts.2⟩,MT _ _ _,λe=>(by cases e),AA _⟩;go_enter func107,ntmps107;go_upto_region 1 with fail;go_cut [] from 3 to 10 (λd=>Cq w d R a n c (p+1+1))
 case rest =>
  obtain⟨z,i,j,F,d,s,o,r,q⟩:=hcut;go_wp2;obtain⟨u,v,x,y,A,B,C,D,E,G,f,g,k,l,m,t,H⟩:=c16 s;exact AJ (v:=.agg (wA (LN z i) j)) (by simp[results,results107,go_sem,u,v,x,y,A,B,C,D,E,G,f,g,k,l,m,t]) rfl ⟨⟨z,i,j,F,d,rfl,o⟩,⟨p+1+1,ω,ω,r⟩,q⟩
 case first =>
 obtain⟨V,d⟩:∃y,y=w.alloc (.cells #[.int .i64 0,.slice none 0 0,.slice none 0 0,M0 false,.int .i64 0,.int .i64 0,.int .i64 0,.int .i64 0,.int .i64 0,.int .i64 0,.int .i64 0,.int .i64 0,.int .i64 0,.slice none 0 0,.slice none 0 0,.slice none 0 0] 36):=⟨_,rfl⟩;rw[<-d]at T⊢;clear d;refine AN (S:=λb=>True) κ (trivial) (λf=>?_);refine TY 1 (Mv R 0) rfl f (TY 5 (Mv R 0) rfl f ?_);simp only[PS];refine EF (rs:=[0,2]) κ σ ?_;refine BK rfl (λl d=>?_) (BK rfl (λl d=>?_) DX)
 ·obtain⟨L,i⟩:∃y,y=V.drew:=⟨_,rfl⟩
  rw[<-i];have M:BdX w L 3 1 R a n c p (.slice none 0 0) 0 [] w.heap.size [.int .i64 0,.slice none 0 0,.slice none 0 0,M0 false,.int .i64 0,.int .i64 0,.int .i64 0,.int .i64 0,.int .i64 0,.int .i64 0,.int .i64 0,.int .i64 0,.int .i64 0,.slice none 0 0,.slice none 0 0,.slice none 0 0]:=by rw[i];exact T.drew
  clear i;go_simp;have A:=M.I (RZ L (.cells #[.int .i64 8,.int .i64 9,.int .i64 10,.int .i64 12,.int .i64 16,.int .i64 24,.int .i64 40] 3));have m:=MT L #[.int .i64 8,.int .i64 9,.int .i64 10,.int .i64 12,.int .i64 16,.int .i64 24,.int .i64 40] 3;have xl:=M.s.lR;have W:=M.s.lt;obtain⟨X,j⟩:∃z,z=L.heap.size:=⟨_,rfl⟩;obtain⟨y0,o⟩:∃z,z=L.alloc (.cells #[.int .i64 8,.int .i64 9,.int .i64 10,.int .i64 12,.int .i64 16,.int .i64 24,.int .i64 40] 3):=⟨_,rfl⟩;have U:R<X:=by rw[j];omega
  rw[<-j,<-o]at m;rw[<-o]at A;rw[<-o,<-j];clear o j;refine d.l _ _ f (λ_=>?_)
  try simp only[PS]
  refine RD 2 rfl (λl d=>?_);refine LW ρ _ _ γ (PZ R a n c (p) 7 _ A.s.rd ω) ?_;rintro e P ⟨⟨O,rfl,t0,t1⟩,o,j⟩;refine⟨_,rfl,?_⟩;have B:=A.pick o j;have m:=m.J j (λe=>by injection e with e;omega);obtain⟨t,rfl⟩:∃k:Nat,O=(k:Int):=⟨O.toNat,ω⟩;have t6:t<7:=ω
  have aR:(t:Int)<7:=ω
  clear o j
  obtain⟨z,I,F⟩:∃z:Int,([.int .i64 8,.int .i64 9,.int .i64 10,.int .i64 12,.int .i64 16,.int .i64 24,.int .i64 40]:List Nc)[t]?=some (.int .i64 z)/\(8<=z/\z<=40):=by rcases t with _|_|_|_|_|_|_|t<;>first|exact⟨_,rfl,ω⟩|omega
  have N:=m.cell t _ I;refine d.l _ _ f (λ_=>?_)
  try simp only[PS]
  refine TY 3 (Mv X t) rfl f ?_;simp only[PS];refine EF (rs:=[4,6]) κ σ ?_;refine BK rfl (λl d=>?_) (BK rfl (λl d=>?_) DX)
  ·go_simp
   refine d.l _ _ f (λ_=>?_)
   try simp only[PS]
   refine RD 6 rfl (λl d=>?_);refine LW ρ _ _ γ (gu R a n c (p+1) _ B.s.rd ω) ?_;rintro e K ⟨⟨i,rfl,G,H⟩,o,j⟩;refine⟨_,rfl,?_⟩;have u:=B.pick o j;have m:=m.J j (λe=>by injection e with e;omega);clear o j;have N:=m.cell t _ I;refine d.l _ _ f (λ_=>?_)
   try simp only[PS]
   refine RD 7 rfl (λl d=>?_);refine LW ρ _ _ γ (dq z i _ ω ω) ?_;have Q:=u.row.lt;rintro e J ⟨j,rfl,C,E⟩;refine⟨_,rfl,?_⟩;have v:=u.I E;unfold MB;refine d.l _ _ f (λ_=>?_)
   try simp only[PS]
   refine RD 8 rfl (λl d=>?_);refine LH ρ 36 _ _ ρ w.heap.size 0 (wA (LN z i) j) ρ ρ (v.row.there rfl) MO κ ?_;refine d.l _ _ f (λ_=>?_)
   try simp only[PS]
   refine DN ?_;obtain⟨s,r,q,x⟩:=v.fin (wL (LN z i) j) rfl;have o:=C.J x (λg e k=>by cases e;rcases k with k|k;exact k;omega);generalize D:J.setCells _ _ _=S at s r q x o⊢;clear D;go_wp2_with fail;go_meet;exact⟨z,i,j,F,⟨G,H⟩,s,o.z (λb _ k=>by rcases k with k|k;exact k.elim;omega),r,q⟩
  refine LW ρ _ _ γ (gu R a n c (p+1) _ B.s.rd ω) ?_
  rintro e K ⟨⟨i,rfl,G,H⟩,o,j⟩;refine⟨_,rfl,?_⟩;have u:=B.pick o j;have m:=m.J j (λe=>by injection e with e;omega);clear o j;have N:=m.cell t _ I;refine d.l _ _ f (λ_=>?_)
  try simp only[PS]
  refine RD 4 rfl (λl d=>?_);go_simp;refine d.l _ _ f (λ_=>?_)
  try simp only[PS]
  refine RD 7 rfl (λl d=>?_);refine LW ρ _ _ γ (dq z i _ ω ω) ?_;have Q:=u.row.lt;rintro e J ⟨j,rfl,C,E⟩;refine⟨_,rfl,?_⟩;have v:=u.I E;unfold MB;refine d.l _ _ f (λ_=>?_)
  try simp only[PS]
  refine RD 8 rfl (λl d=>?_);refine LH ρ 36 _ _ ρ w.heap.size 0 (wA (LN z i) j) ρ ρ (v.row.there rfl) MO κ ?_;refine d.l _ _ f (λ_=>?_)
  try simp only[PS]
  refine DN ?_;obtain⟨s,r,q,x⟩:=v.fin (wL (LN z i) j) rfl;have o:=C.J x (λg e k=>by cases e;rcases k with k|k;exact k;omega);generalize D:J.setCells _ _ _=S at s r q x o⊢;clear D;go_wp2_with fail;go_meet;exact⟨z,i,j,F,⟨G,H⟩,s,o.z (λb _ k=>by rcases k with k|k;exact k.elim;omega),r,q⟩
 obtain⟨L,i⟩:∃y,y=V.drew:=⟨_,rfl⟩
 rw[<-i];have M:BdX w L 3 1 R a n c p (.slice none 0 0) 0 [] w.heap.size [.int .i64 0,.slice none 0 0,.slice none 0 0,M0 false,.int .i64 0,.int .i64 0,.int .i64 0,.int .i64 0,.int .i64 0,.int .i64 0,.int .i64 0,.int .i64 0,.int .i64 0,.slice none 0 0,.slice none 0 0,.slice none 0 0]:=by rw[i];exact T.drew
 clear i;refine LW ρ _ _ γ (PZ R a n c (p) 7 _ M.s.rd ω) ?_;rintro e P ⟨⟨O,rfl,t0,t1⟩,o,j⟩;refine⟨_,rfl,?_⟩;have B:=M.pick o j;obtain⟨t,rfl⟩:∃k:Nat,O=(k:Int):=⟨O.toNat,ω⟩;have t6:t<7:=ω
 have aR:(t:Int)<7:=ω
 clear o j;refine d.l _ _ f (λ_=>?_)
 try simp only[PS]
 refine EF (rs:=[0,6]) κ σ ?_;refine BK rfl (λl d=>?_) (BK rfl (λl d=>?_) DX)
 ·go_simp
  have A:=B.I (RZ P (.cells #[.int .i64 8,.int .i64 9,.int .i64 10,.int .i64 12,.int .i64 16,.int .i64 24,.int .i64 40] 3));have m:=MT P #[.int .i64 8,.int .i64 9,.int .i64 10,.int .i64 12,.int .i64 16,.int .i64 24,.int .i64 40] 3;have xl:=B.s.lR;have W:=B.s.lt;obtain⟨X,j⟩:∃z,z=P.heap.size:=⟨_,rfl⟩;obtain⟨y0,o⟩:∃z,z=P.alloc (.cells #[.int .i64 8,.int .i64 9,.int .i64 10,.int .i64 12,.int .i64 16,.int .i64 24,.int .i64 40] 3):=⟨_,rfl⟩;have U:R<X:=by rw[j];omega
  rw[<-j,<-o]at m;rw[<-o]at A;rw[<-o,<-j];clear o j
  obtain⟨z,I,F⟩:∃z:Int,([.int .i64 8,.int .i64 9,.int .i64 10,.int .i64 12,.int .i64 16,.int .i64 24,.int .i64 40]:List Nc)[t]?=some (.int .i64 z)/\(8<=z/\z<=40):=by rcases t with _|_|_|_|_|_|_|t<;>first|exact⟨_,rfl,ω⟩|omega
  have N:=m.cell t _ I;refine d.l _ _ f (λ_=>?_)
  try simp only[PS]
  refine TY 3 (Mv X t) rfl f ?_;simp only[PS];refine EF (rs:=[4,6]) κ σ ?_;refine BK rfl (λl d=>?_) (BK rfl (λl d=>?_) DX)
  ·go_simp
   refine d.l _ _ f (λ_=>?_)
   try simp only[PS]
   refine RD 6 rfl (λl d=>?_);refine LW ρ _ _ γ (gu R a n c (p+1) _ A.s.rd ω) ?_;rintro e K ⟨⟨i,rfl,G,H⟩,o,j⟩;refine⟨_,rfl,?_⟩;have u:=A.pick o j;have m:=m.J j (λe=>by injection e with e;omega);clear o j;have N:=m.cell t _ I;refine d.l _ _ f (λ_=>?_)
   try simp only[PS]
   refine RD 7 rfl (λl d=>?_);refine LW ρ _ _ γ (dq z i _ ω ω) ?_;have Q:=u.row.lt;rintro e J ⟨j,rfl,C,E⟩;refine⟨_,rfl,?_⟩;have v:=u.I E;unfold MB;refine d.l _ _ f (λ_=>?_)
   try simp only[PS]
   refine RD 8 rfl (λl d=>?_);refine LH ρ 36 _ _ ρ w.heap.size 0 (wA (LN z i) j) ρ ρ (v.row.there rfl) MO κ ?_;refine d.l _ _ f (λ_=>?_)
   try simp only[PS]
   refine DN ?_;obtain⟨s,r,q,x⟩:=v.fin (wL (LN z i) j) rfl;have o:=C.J x (λg e k=>by cases e;rcases k with k|k;exact k;omega);generalize D:J.setCells _ _ _=S at s r q x o⊢;clear D;go_wp2_with fail;go_meet;exact⟨z,i,j,F,⟨G,H⟩,s,o.z (λb _ k=>by rcases k with k|k;exact k.elim;omega),r,q⟩
  refine LW ρ _ _ γ (gu R a n c (p+1) _ A.s.rd ω) ?_
  rintro e K ⟨⟨i,rfl,G,H⟩,o,j⟩;refine⟨_,rfl,?_⟩;have u:=A.pick o j;have m:=m.J j (λe=>by injection e with e;omega);clear o j;have N:=m.cell t _ I;refine d.l _ _ f (λ_=>?_)
  try simp only[PS]
  refine RD 4 rfl (λl d=>?_);go_simp;refine d.l _ _ f (λ_=>?_)
  try simp only[PS]
  refine RD 7 rfl (λl d=>?_);refine LW ρ _ _ γ (dq z i _ ω ω) ?_;have Q:=u.row.lt;rintro e J ⟨j,rfl,C,E⟩;refine⟨_,rfl,?_⟩;have v:=u.I E;unfold MB;refine d.l _ _ f (λ_=>?_)
  try simp only[PS]
  refine RD 8 rfl (λl d=>?_);refine LH ρ 36 _ _ ρ w.heap.size 0 (wA (LN z i) j) ρ ρ (v.row.there rfl) MO κ ?_;refine d.l _ _ f (λ_=>?_)
  try simp only[PS]
  refine DN ?_;obtain⟨s,r,q,x⟩:=v.fin (wL (LN z i) j) rfl;have o:=C.J x (λg e k=>by cases e;rcases k with k|k;exact k;omega);generalize D:J.setCells _ _ _=S at s r q x o⊢;clear D;go_wp2_with fail;go_meet;exact⟨z,i,j,F,⟨G,H⟩,s,o.z (λb _ k=>by rcases k with k|k;exact k.elim;omega),r,q⟩
 refine LW ρ _ _ γ (gu R a n c (p+1) _ B.s.rd ω) ?_
 rintro e K ⟨⟨i,rfl,G,H⟩,o,j⟩;refine⟨_,rfl,?_⟩;have u:=B.pick o j;clear o j;refine d.l _ _ f (λ_=>?_)
 try simp only[PS]
 refine RD 0 rfl (λl d=>?_);go_simp;have A:=u.I (RZ K (.cells #[.int .i64 8,.int .i64 9,.int .i64 10,.int .i64 12,.int .i64 16,.int .i64 24,.int .i64 40] 3));have m:=MT K #[.int .i64 8,.int .i64 9,.int .i64 10,.int .i64 12,.int .i64 16,.int .i64 24,.int .i64 40] 3;have xl:=u.s.lR;have W:=u.s.lt;obtain⟨X,j⟩:∃z,z=K.heap.size:=⟨_,rfl⟩;obtain⟨y0,o⟩:∃z,z=K.alloc (.cells #[.int .i64 8,.int .i64 9,.int .i64 10,.int .i64 12,.int .i64 16,.int .i64 24,.int .i64 40] 3):=⟨_,rfl⟩;have U:R<X:=by rw[j];omega
 rw[<-j,<-o]at m;rw[<-o]at A;rw[<-o,<-j];clear o j
 obtain⟨z,I,F⟩:∃z:Int,([.int .i64 8,.int .i64 9,.int .i64 10,.int .i64 12,.int .i64 16,.int .i64 24,.int .i64 40]:List Nc)[t]?=some (.int .i64 z)/\(8<=z/\z<=40):=by rcases t with _|_|_|_|_|_|_|t<;>first|exact⟨_,rfl,ω⟩|omega
 have N:=m.cell t _ I;refine d.l _ _ f (λ_=>?_)
 try simp only[PS]
 refine TY 3 (Mv X t) rfl f ?_;simp only[PS];refine RD 4 rfl (λl d=>?_);go_simp;refine d.l _ _ f (λ_=>?_)
 try simp only[PS]
 refine RD 7 rfl (λl d=>?_);refine LW ρ _ _ γ (dq z i _ ω ω) ?_;have Q:=A.row.lt;rintro e J ⟨j,rfl,C,E⟩;refine⟨_,rfl,?_⟩;have v:=A.I E;unfold MB;refine d.l _ _ f (λ_=>?_)
 try simp only[PS]
 refine RD 8 rfl (λl d=>?_);refine LH ρ 36 _ _ ρ w.heap.size 0 (wA (LN z i) j) ρ ρ (v.row.there rfl) MO κ ?_;refine d.l _ _ f (λ_=>?_)
 try simp only[PS]
 refine DN ?_;obtain⟨s,r,q,x⟩:=v.fin (wL (LN z i) j) rfl;have o:=C.J x (λg e k=>by cases e;rcases k with k|k;exact k;omega);generalize D:J.setCells _ _ _=S at s r q x o⊢;clear D;go_wp2_with fail;go_meet;exact⟨z,i,j,F,⟨G,H⟩,s,o.z (λb _ k=>by rcases k with k|k;exact k.elim;omega),r,q⟩
