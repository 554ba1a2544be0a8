import Derived.Test.YtmlejnbjclkdjaaGreatDoorPrG37
set_option maxHeartbeats 16000000
namespace Go.Proofs.YtmlejnbjclkdjaaGreatDoor
open Tryz
open Go.RowKit
set_option linter.all false
theorem DV.push{w d:Nb}{b X g n H g9 cap:Nat}{v:Nc}{l:List (List Int)}{a:List (Int×Y)}{x:Int×Y}(h:DV w b X g n v l (ME a))(f:d.ownsRow b 175 65 (.slice (Mw g9 0) ((ME a).length+1) cap) ((ME a).length+1) (OY (ME a)++Value.int .i64 x.1::(LI x.2).map (Value.int .u8)))(j:w.grownBy d v.ownBlock)(i:v.ownBlock=some g9\/g9=H)(s:X<H)(t:g<H):DV (d.setCell ⟨X,1,none⟩ (.slice (Mw g9 0) (a.length+1) cap)) b X g n (.slice (Mw g9 0) (a.length+1) cap) l (ME (a++[x])):=by
 have o:ME (a++[x])=ME a++[(x.1,LI x.2)]:=by simp[ME]
 have p:(ME (a++[x])).length=a.length+1:=by rw[RL];simp
 have q:OY (ME (a++[x]))=OY (ME a)++Value.int .i64 x.1::(LI x.2).map (Value.int .u8):=by rw[o,tF];simp[OY]
 have k:g9≠X:=by rcases i with c|c;exactλe=>h.nx (by rw[c,e]);omega
 have m:g9≠g:=by rcases i with c|c;exactλe=>h.ng (by rw[c,e]);omega
 rw[RL]at f;have r:=f.kept (w':=d.setCell ⟨X,1,none⟩ (.slice (Mw g9 0) (a.length+1) cap)) (row:=some X) (QC (BY _ _) _ _) (.inr (λe=>k (by injection e)));refine⟨(h.rx.J j (λe=>h.nx e.symm)).set 1 σ _,(h.pr.J j (λe=>h.ng e.symm)).other _ h.xg _,?_,λe=>k (by injection e),λe=>m (by injection e),h.xg,h.bx,h.bg⟩;rw[p,q];exact r
set_option maxRecDepth 100000 in
theorem Mp(b X g n:Nat)(v:Nc)(j:List Y)(i:List (Int×Y))(f:Int)(d:Y)(w:Nb)(h:DV w b X g n v (j.map LI) (ME i))(hn:j.length=n)(H:LE j i=true)(B:PL j.length (f,d)=true)(bY:i.length<300)(s:b<=w.heap.size):Calls prog 170 #[Mv X 0,.agg #[M0 false,.int .i64 f,Mz d]] w λe k=>(∃x,e=M3 x)/\(∃a,DV k b X g n a (j.map LI) (ME (i++[(f,d)])))/\Below b w k:=by
 obtain⟨i0,a,c,l,m⟩:=MK tB;have p:=Z (AH a (AH c (AH l m)));clear a c l m;obtain⟨⟨cI,cJ,cL⟩,x,z⟩:=LK H;have A:d.size=64:=by have h1:(d.size:Int)=64:=(QK B).2;omega
 have u:(LI d).length=64:=by rw[NH,A]
 have W:∀o,Below w.heap.size w (w.alloc o):=λo=>LO _ _
 obtain⟨G,I,hv⟩:∃a c,v=.slice a i.length c:=by
  rw[<-RL];rcases NU h.own with ⟨e,a⟩|⟨g,c,e,_⟩
  ·exact⟨_,_,by rw[e,a]⟩
  exact⟨_,_,e⟩
 have q:=h.rx.y 0;have y:=h.rx.y 1;subst hv;have cF:=h.rx.lt;have l:=Z h;subst hn
 have o:∀k,Calls prog 109 #[.int .i64 (j.length:Int),.int .i64 f,Mz d] k λe a=>e=M3 (M0 true)/\a=k:=λk=>by
  have:=UU j.length f d k ω ω;rw[B]at this;exact this
 have cH:(decide ((i.length:Int)<300))=true:=AL ω;go_enter func170,ntmps170;go_wp2_with fail;go_quiet ((go_at_call 109;exact Calls.quiet_of_same (o _)));go_wp2_with fail;have r:Hid (Below w.heap.size w ((w.alloc (.cells #[M0 false,.int .i64 f,Mz d] 130)).drewN nq)):=below_drewN (W _) _;obtain⟨m,a⟩:∃m,m=(w.alloc (.cells #[M0 false,.int .i64 f,Mz d] 130)).drewN nq:=⟨_,rfl⟩;have cA:m.cell? ⟨w.heap.size,1,none⟩=some (.int .i64 f):=by rw[a];simp[go_sem]
 have cM:m.cell? ⟨w.heap.size,2,none⟩=some (Mz d):=by rw[a];simp[go_sem]
 have Q:w.heap.size<m.heap.size:=by rw[a];simp
 rw[<-a]at r⊢;clear a;have t:=Z (l.l.I r.l);clear q y;have q1:=t.l.rx.y 1;have q2:=t.l.rx.A 1;have cB:=il;have O:=ib;have P:=nC;have L:=uT (.int .i64 f) ((LI d).map (Value.int .u8)) YY (by rw[ib,BU,u]);have K:=qL (.int .i64 f) ((LI d).map (Value.int .u8)) 65 (by rw[BU,u]);have F:(ME i).length=i.length:=RL i;have q:Hid (DV m.drew b X g j.length (.slice G i.length I) (j.map LI) (ME i)):=t.l.I ((AB _ _).drew);have U:=Z cA;have y:=Z Q;have N:=Z A;clear l h H o z x
 go_region_law (first|(refine step_append_lies _ ρ _ _ _ ρ b 175 i0 (.agg YY) 65 72 underlying114 p.l.1 p.l.2.1 p.l.2.2.1 p.l.2.2.2 κ ω (.slice G i.length I) (ME i).length (OY (ME i)) ρ J.l ⟨l.heap.size,0,none⟩ 1 1 (Value.int .i64 f::(LI d).map (Value.int .u8)) ρ (by simp[u]) (World.news_of_block (AU l _)) (ic f (LI d)) ω (by rw[F];unfold maxLen;omega) (by rw[F];omega) ξ (l.heap.size+1) σ ?_;intro g9 x w3 z k E bZ;have q4:=(a.l.rx.J k (λe=>a.l.nx e.symm)).y 1;have q5:=(a.l.rx.J k (λe=>a.l.nx e.symm)).A 1;have q6:=(a.l.rx.J k (λe=>a.l.nx e.symm)).lt;have T:=Z z;have D:=Z k;have R:=Z E;clear z k E)|(refine LW ρ 86 #[Mz d] γ (TR d _ N.l) ?_;rintro e l ⟨rfl,o⟩;refine⟨_,rfl,?_⟩;have y0:=(o.cell (p:=⟨w.heap.size,1,none⟩) y.l).j U.l;have y1:=(q.l.I o).rx.y 1;have y2:=(q.l.I o).rx.lt;have y3:w.heap.size<l.heap.size:=AD y.l o.size;have C:=Z o;have a:=Z ((q.l.I o).I (LD l (.cells (Value.int .i64 f::(LI d).map (Value.int .u8)).toArray 175)));have J:=Z a.l.own))
 all_goals
  have cE:g<l.heap.size:=(q.l.I C.l).pr.lt;have M:=Z (a.l.push (x:=(f,d)) T.l D.l R.l ω ω)
  have S:Hid (Below b w (w3.setCell ⟨X,1,none⟩ (.slice (Mw g9 0) (i.length+1) x))):=by
   have z:Below b w l:=(r.l.z s).j (((AB m.heap.size m).drew.j C.l).z (AK s r.l.size));have E:=z.j ((LD l (.cells (Value.int .i64 f::(LI d).map (Value.int .u8)).toArray 175)).z (AK s z.size));have V:=E.j (NR D.l (AK s E.size) (λk hk=>(a.l.own.lt k hk).1));exact V.setCell a.l.bx _
  clear L K O P cB;go_wp2;go_end0;exact⟨⟨_,rfl⟩,⟨_,M.l⟩,S.l⟩
