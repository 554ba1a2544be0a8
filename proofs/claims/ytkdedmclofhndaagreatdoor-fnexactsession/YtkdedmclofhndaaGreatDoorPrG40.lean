import Derived.Test.YtkdedmclofhndaaGreatDoorPrG32
set_option maxHeartbeats 16000000
set_option maxRecDepth 8000
set_option linter.all false
namespace Go.Proofs.YtkdedmclofhndaaGreatDoor
open Tryz
open Go.RowKit
theorem wP(W S L T H F R U O:Int)(a:xA)(n c:Nat)(w:xV)(k:0<=U)(j:U<=100000):Calls prog 170 #[MI W S L T H F R U O a n c] w λe d=>e=yT (Z (hv S-U))/\yX w d:=by
 have i:0<=hv S/\hv S<=99:=by by_cases h:8<=S/\S<=200;have:=PG h;omega;rw[YH h];omega
 have f:=Y (λd=>aa S d);obtain⟨Q,g⟩:∃Q,Hid (Q=hv S):=⟨_,Y rfl⟩;rw[<-g.j]at i f⊢;have l:IntKind.i64.wrap (Q-U)=Q-U:=by simp[IntKind.wrap,IntKind.bits,IntKind.signed];omega
 unfold MI;go_enter func170,ntmps170;go_wp2_with fail;refine AN (S:=λd=>d.cell? (yA w.heap.size 1)=some (Z S)/\d.cell? (yA w.heap.size 7)=some (Z U)) κ (⟨γ,γ⟩) (λb=>?_);refine TY 0 (zW w.heap.size 1) rfl b (TY 1 (Z S) rfl b (TY 3 (zW w.heap.size 7) rfl b (TY 4 (Z U) rfl b ?_)));simp only[PS];refine RD 2 rfl (λK d=>?_);refine LI ρ 78 #[Z S] γ (f.j _) ?_;rintro e m ⟨rfl,rfl⟩;refine⟨_,rfl,?_⟩;refine d.j _ _ b (λ_=>?_);clear d K
 try simp only[PS]
 refine TY 5 (Z (Q-U)) rfl b ?_;simp only[PS];refine RD 6 rfl (λK d=>?_);go_simp;refine d.j _ _ b (λ_=>?_);clear d K
 try simp only[PS]
 refine DN ?_;go_wp2;go_ret;exact⟨rfl,(LG _ _).drew⟩
theorem L6(x:Wo)(q:Wp)(w:xV)(n:x.rs.length<=1048576):Calls prog 147 #[MI x.W x.S x.L x.T x.H x.F x.R x.U x.O q.s x.rs.length q.cs] w λe a=>e=yT (yR (QC x))/\yX w a:=by
 unfold MI
 by_cases c:x.W=0
 rotate_left
 ·have e:QC x=false:=AH (λa=>c a.1)
  rw[e];go_enter func147,ntmps147;go_wp2;go_ret;exact⟨rfl,Oq _ _⟩
 by_cases d:x.S=0
 rotate_left
 ·have e:QC x=false:=AH (λa=>d a.2.1)
  rw[e];go_enter func147,ntmps147;go_wp2;go_ret;exact⟨rfl,Oq _ _⟩
 by_cases f:x.L=0
 rotate_left
 ·have e:QC x=false:=AH (λa=>f a.2.2.1)
  rw[e];go_enter func147,ntmps147;go_wp2;go_ret;exact⟨rfl,Oq _ _⟩
 by_cases b:(x.T=0/\x.H=0/\x.F=0/\x.R=0)
 rotate_left
 ·have e:QC x=false:=AH (λa=>b a.2.2.2.1)
  rw[e];have g:(Value.agg #[Z x.T,Z x.H,Z x.F,Z x.R]=Value.agg #[Z 0,Z 0,Z 0,Z 0])=False:=τ
  go_enter func147,ntmps147;go_wp2
  all_goals (go_ret;exact⟨rfl,Oq _ _⟩)
 by_cases g:x.U=0
 rotate_left
 ·have e:QC x=false:=AH (λa=>g a.2.2.2.2.1)
  rw[e];go_enter func147,ntmps147;go_wp2;go_ret;exact⟨rfl,Oq _ _⟩
 by_cases h:x.O=0
 rotate_left
 ·have e:QC x=false:=AH (λa=>h a.2.2.2.2.2.1)
  rw[e];go_enter func147,ntmps147;go_wp2;go_ret;exact⟨rfl,Oq _ _⟩
 by_cases i:x.rs.length=0
 rotate_left
 ·have e:QC x=false:=AH (λa=>i a.2.2.2.2.2.2)
  rw[e];have a:¬(x.rs.length:Int)=0:=ω
  go_enter func147,ntmps147;go_wp2;go_ret;have j:((x.rs.length:Int) == 0)=false:=BI.2 a;exact⟨by show yT (yR ((x.rs.length:Int) == 0))=_;rw[j],Oq _ _⟩
 have e:QC x=true:=AM ⟨c,d,f,b,g,h,i⟩;rw[e];obtain⟨j,k,l,m⟩:=b;have a:(x.rs.length:Int)=0:=ω
 go_enter func147,ntmps147;go_wp2;go_ret;exact⟨rfl,Oq _ _⟩
theorem Hi(x:Wo)(q:Wp)(w:xV)(n:x.rs.length<=1048576):Calls prog 90 #[MI x.W x.S x.L x.T x.H x.F x.R x.U x.O q.s x.rs.length q.cs] w λe a=>e=yT (yR (QC x))/\yX w a:=by
 unfold MI
 by_cases c:x.W=0
 rotate_left
 ·have e:QC x=false:=AH (λa=>c a.1)
  rw[e];go_enter func90,ntmps90;go_wp2;go_ret;exact⟨rfl,Oq _ _⟩
 by_cases d:x.S=0
 rotate_left
 ·have e:QC x=false:=AH (λa=>d a.2.1)
  rw[e];go_enter func90,ntmps90;go_wp2;go_ret;exact⟨rfl,Oq _ _⟩
 by_cases f:x.L=0
 rotate_left
 ·have e:QC x=false:=AH (λa=>f a.2.2.1)
  rw[e];go_enter func90,ntmps90;go_wp2;go_ret;exact⟨rfl,Oq _ _⟩
 by_cases b:(x.T=0/\x.H=0/\x.F=0/\x.R=0)
 rotate_left
 ·have e:QC x=false:=AH (λa=>b a.2.2.2.1)
  rw[e];have g:(Value.agg #[Z x.T,Z x.H,Z x.F,Z x.R]=Value.agg #[Z 0,Z 0,Z 0,Z 0])=False:=τ
  go_enter func90,ntmps90;go_wp2
  all_goals (go_ret;exact⟨rfl,Oq _ _⟩)
 by_cases g:x.U=0
 rotate_left
 ·have e:QC x=false:=AH (λa=>g a.2.2.2.2.1)
  rw[e];go_enter func90,ntmps90;go_wp2;go_ret;exact⟨rfl,Oq _ _⟩
 by_cases h:x.O=0
 rotate_left
 ·have e:QC x=false:=AH (λa=>h a.2.2.2.2.2.1)
  rw[e];go_enter func90,ntmps90;go_wp2;go_ret;exact⟨rfl,Oq _ _⟩
 by_cases i:x.rs.length=0
 rotate_left
 ·have e:QC x=false:=AH (λa=>i a.2.2.2.2.2.2)
  rw[e];have a:¬(x.rs.length:Int)=0:=ω
  go_enter func90,ntmps90;go_wp2;go_ret;have j:((x.rs.length:Int) == 0)=false:=BI.2 a;exact⟨by show yT (yR ((x.rs.length:Int) == 0))=_;rw[j],Oq _ _⟩
 have e:QC x=true:=AM ⟨c,d,f,b,g,h,i⟩;rw[e];obtain⟨j,k,l,m⟩:=b;have a:(x.rs.length:Int)=0:=ω
 go_enter func90,ntmps90;go_wp2;go_ret;exact⟨rfl,Oq _ _⟩
