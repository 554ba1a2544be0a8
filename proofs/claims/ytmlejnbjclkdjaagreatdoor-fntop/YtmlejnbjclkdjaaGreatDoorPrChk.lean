import Derived.Test.YtmlejnbjclkdjaaGreatDoorPrAo
import Derived.RangeFuncNested
import Derived.RangeFuncBound
import Derived.RangeFuncCalls
import Derived.RangeFuncLeaves
import Derived.RangeFuncBox
import Derived.Shelf.Abstract
import Derived.Shelf.RegionOpenV
import Derived.OwnWalkIn
import Derived.TacticsInMore
import Derived.LoopNIn
import Derived.LoopIn
import Derived.Sort.QuietIn
import Derived.Maps.AppendAt
import Derived.Maps.OwnIn
import Derived.Test.YtmlejnbjclkdjaaGreatDoorPrG43
set_option maxHeartbeats 16000000
namespace Go.Proofs.YtmlejnbjclkdjaaGreatDoor
open Tryz
open Go.RowKit Go.Shelf
set_option linter.all false
set_option maxRecDepth 4000
attribute [local go_sem] Oper.semAt_some
def aj(b a c k:Nat):Nc:=.slice (Mw b (a+k*20*2)) (min 20 (c-k*20)) (min 20 (c-k*20))
theorem uF(w:Nb)(q:Nat):w.grownBy (w.drewN q) none:=⟨rfl,rfl,rfl,AA _,λ_ _ _=>rfl⟩
theorem Ff(F:Fence)(n:Nat)(M:F.fn 220)(I:F.round=none)(hn:1<=n)(l h g b f a c:Nat)(O:a<=100)(N:a<=c)(y:Nb->Nb->Prop)(m:∀A B,y A B->B.cell? ⟨h,0,none⟩=A.cell? ⟨h,0,none⟩/\B.cell? ⟨g,0,none⟩=A.cell? ⟨g,0,none⟩)(J w:List Nat->Nb->Prop)
  (C:∀d x W,J d W->d.length<(a+19) / 20->YieldAt F (n-1) prog l #[aj b f a x] W λe i =>
   (e=M3 (M0 true)/\J (d++[x]) i/\y W i)\/(e=M3 (M0 false)/\w (d++[x]) i))
  (W:Nb)(G:W.cell? ⟨h,0,none⟩=some (.slice (Mw b f) a c))(E:W.cell? ⟨g,0,none⟩=some (.int .i64 20))(L:J [] W)(z:∀s A B,J s A->A.grownBy B none->J s B):CallsIn F n prog 220 #[.func (.yield l) #[] #[],Mv h 0,Mv g 0] W λe i=>(∃v,e=M3 v) /\
   ((∃j,j=List.range ((a+19) / 20)/\J j i)\/(∃d,True/\w d i)):=by
 refine JS func220 rfl M ?_ I;simp only[ntmps220,GS,CY,AR,Nat.reduceAdd,Nat.reduceSub,FZ,GA,GR,FL,DW,EI]
 gi_wp2
 gi_loopw [4] (λi wr=>∃k q:Nat,q=k*20/\k<=(a+19) / 20/\i=.int .i64 (q:Int)/\J (List.range k) wr/\wr.cell? ⟨h,0,none⟩=some (.slice (Mw b f) a c)/\wr.cell? ⟨g,0,none⟩=some (.int .i64 20)) (λi _=>a+20-(intOf i).toNat)
 case atStart=>exact⟨0,0,rfl,AM _,rfl,L,G,E⟩
 case round =>
  obtain⟨k,q,e,hk,rfl,t,x,v⟩:=hrel;have d:=Z e;clear e;have R:prog.follows .mixedOrders=true:=κ
  by_cases Q:q<a
  ·have S:(0:Int)<=(q:Int):=ω
   have T:(q:Int)<=(a:Int):=ω
   have U:(q:Int)<(a:Int):=ω
   have V:(a:Int)<=(c:Int):=ω
   by_cases X:20<=a-q
   ·have o:Hid (min 20 (a-q)=20):=by show _=_;omega
    have H:(q:Int)+20<=(a:Int):=ω
    have P:(q:Int)+20<=(c:Int):=ω
    gi_wp2
    gi_big_quiet_th_v (fail)
    obtain⟨K,j,B,D,i,u⟩:=C _ k (wr.drewN nq) (z _ _ _ t (uF wr nq)) (by have:=d.l;rw[KJ];omega);have r:(wr.drewN nq).cell? ⟨h,0,none⟩=some (.slice (Mw b f) a c):=x;unfold aj at i;rw[<-d.l,o.l]at i
    gi_wp2
    refine u.z ?_;rintro e A (⟨rfl,hJ3,hk3⟩|⟨rfl,hJx3⟩)
    ·have p:=(m _ _ hk3).2.j (show(wr.drewN nq).cell? ⟨g,0,none⟩=some (.int .i64 20) from v)
     have s:=(m _ _ hk3).1.j r
     gi_wp2
     go_roundw
     case rel=>exact⟨k+1,q+20,by have:=d.l;omega,by have:=d.l;omega,σ,by rw[FT];exact hJ3,s,p⟩
     case measure=>simp[intOf];omega
    gi_wp2
    refine AJ (JZ rfl _ _ _) rfl ?_;exact⟨⟨_,rfl⟩,.inr ⟨_,trivial,hJx3⟩⟩
   have o:Hid (min 20 (a-q)=a-q):=by show _=_;omega
   have H:(q:Int)+((a-q:Nat):Int)=(a:Int):=ω
   gi_wp2
   gi_big_quiet_th_v (fail)
   obtain⟨K,j,B,D,i,u⟩:=C _ k (wr.drewN nq) (z _ _ _ t (uF wr nq)) (by have:=d.l;rw[KJ];omega);have r:(wr.drewN nq).cell? ⟨h,0,none⟩=some (.slice (Mw b f) a c):=x;unfold aj at i;rw[<-d.l,o.l]at i
   gi_wp2
   refine u.z ?_;rintro e A (⟨rfl,hJ3,hk3⟩|⟨rfl,hJx3⟩)
   ·have p:=(m _ _ hk3).2.j (show(wr.drewN nq).cell? ⟨g,0,none⟩=some (.int .i64 20) from v)
    have s:=(m _ _ hk3).1.j r
    gi_wp2
    go_roundw
    case rel=>exact⟨k+1,q+20,by have:=d.l;omega,by have:=d.l;omega,σ,by rw[FT];exact hJ3,s,p⟩
    case measure=>simp[intOf];omega
   gi_wp2
   refine AJ (JZ rfl _ _ _) rfl ?_;exact⟨⟨_,rfl⟩,.inr ⟨_,trivial,hJx3⟩⟩
  have e:k=(a+19) / 20:=by have:=d.l;omega
  gi_wp2
  go_end0;exact⟨⟨_,rfl⟩,.inl ⟨_,by rw[e],t⟩⟩
theorem H5(F:Fence)(n:Nat)(j:F.fn 220)(g:F.round=none)(l b d c:Nat)(a:M6)(J:List Nat->Nb->Prop)(W:Nb)(k:W.cell? ⟨b,0,none⟩=some (.slice a 0 c))(h:J [] W):CallsIn F n prog 220 #[.func (.yield l) #[] #[],Mv b 0,Mv d 0] W λe f=>(∃v,e=M3 v)/\J [] f:=by
 refine JS func220 rfl j ?_ g;simp only[ntmps220,GS,CY,AR,Nat.reduceAdd,Nat.reduceSub,FZ,GA,GR,FL,DW,EI]
 gi_wp2
 gi_loopw [4] (λi wr=>i=.int .i64 0/\wr=W) (λ_ _=>0)
 case atStart=>exact⟨rfl,rfl⟩
 case round =>
  obtain⟨rfl,rfl⟩:=hrel
  gi_wp2
  go_end0;exact⟨⟨_,rfl⟩,h⟩
theorem An(F:Fence)(n:Nat)(f:F.fn 200)(d:F.round=none)(a:M6)(c b:Nat)(w:Nb):CallsIn F n prog 200 #[.slice a c b,.int .i64 20] w λe g=>e=M3 (.func (.func 220) #[] #[Mv w.heap.size 0,Mv (w.heap.size+1) 0])/\g=(w.alloc (.cells #[.slice a c b] 29)).alloc (.cells #[.int .i64 20] 3):=by
 refine JS func200 rfl f ?_ d;simp only[ntmps200,GS,CY,AR,Nat.reduceAdd,Nat.reduceSub,FZ,GA,GR,FL,DW,EI]
 gi_wp2
 go_ret;exact⟨rfl,rfl⟩
theorem Gs(F:Fence)(n:Nat)(q:F.fn 220)(o:F.round=none)(I:1<=n)(f d b h g c:Nat)(a:M6)(v:g<=100)(u:g<=c)(w:Nb)(z:f<w.heap.size)(y:d<w.heap.size)(j:Nb->Nb->Prop)(D:∀A B,j A B->B.cell? ⟨f,0,none⟩=A.cell? ⟨f,0,none⟩/\B.cell? ⟨d,0,none⟩=A.cell? ⟨d,0,none⟩)
  (m:w.cell? ⟨f,0,none⟩=some (.slice a g c))(H:w.cell? ⟨d,0,none⟩=some (.int .i64 20))(G:g=0\/a=Mw b h):SeqStopsK F n prog 220 #[Mv f 0,Mv d 0] (λx:Nat=>#[aj b h g x]) j (λi=>i=List.range ((g+19) / 20)) (λ_=>True) ((g+19) / 20) w:=λl J t W e C k E p=>by
 have i:=(e.cell (p:=⟨f,0,none⟩) z).j m;have k:=(e.cell (p:=⟨d,0,none⟩) y).j H;rcases G with rfl|rfl
 ·exact(H5 F n q o l f d c a J W i p).z λe W' ⟨he,hj⟩=>⟨he,.inl ⟨_,rfl,hj⟩⟩
 exact Ff F n q o I l f d b h g c v u j D J t E W i k p (λs A B m x=>C s A B none m x (λr e=>(by cases e)))
