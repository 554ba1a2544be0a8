import Derived.Test.YtjdmogljfdffeaaGreatDoorPrG28
set_option maxHeartbeats 16000000
namespace Go.Proofs.YtjdmogljfdffeaaGreatDoor
open Tryz
open Go.RowKit
set_option linter.all false
theorem DV.push{w d:World}{b X g n H g9 cap:Nat}{v:Value}{l:List (List Int)}{a:List (Int×ByteArray)}{x:Int×ByteArray}(h:DV w b X g n v l (LJ a))(f:d.ownsRow b 145 65 (.slice (some ⟨g9,0,none⟩) ((LJ a).length+1) cap) ((LJ a).length+1) (NQ (LJ a)++Value.int .i64 x.1::(KU x.2).map (Value.int .u8)))(j:w.grownBy d v.ownBlock)(i:v.ownBlock=some g9\/g9=H)(s:X<H)(t:g<H):DV (d.setCell ⟨X,1,none⟩ (.slice (some ⟨g9,0,none⟩) (a.length+1) cap)) b X g n (.slice (some ⟨g9,0,none⟩) (a.length+1) cap) l (LJ (a++[x])):=by
 have o:LJ (a++[x])=LJ a++[(x.1,KU x.2)]:=by simp[LJ]
 have p:(LJ (a++[x])).length=a.length+1:=by rw[QH];simp
 have q:NQ (LJ (a++[x]))=NQ (LJ a)++Value.int .i64 x.1::(KU x.2).map (Value.int .u8):=by rw[o,sX];simp[NQ]
 have k:g9≠X:=by rcases i with c|c;exactλe=>h.nx (by rw[c,e]);omega
 have m:g9≠g:=by rcases i with c|c;exactλe=>h.ng (by rw[c,e]);omega
 rw[QH]at f;have r:=f.kept (w':=d.setCell ⟨X,1,none⟩ (.slice (some ⟨g9,0,none⟩) (a.length+1) cap)) (row:=some X) (OG (BO _ _) _ _) (.inr (λe=>k (by injection e)));refine⟨(h.rx.I j (λe=>h.nx e.symm)).set 1 σ _,(h.pr.I j (λe=>h.ng e.symm)).other _ h.xg _,?_,λe=>k (by injection e),λe=>m (by injection e),h.xg,h.bx,h.bg⟩;rw[p,q];exact r
set_option maxRecDepth 100000 in
theorem Jp(b X g n:Nat)(v:Value)(j:List ByteArray)(i:List (Int×ByteArray))(f:Int)(d:ByteArray)(w:World)(h:DV w b X g n v (j.map KU) (LJ i))(hn:j.length=n)(H:LG j i=true)(B:OP j.length (f,d)=true)(cA:i.length<300)(s:b<=w.heap.size):Calls prog 139 #[.pointer (some ⟨X,0,none⟩),.agg #[.bool false,.int .i64 f,.string d]] w λe k=>(∃x,e=.returned x)/\(∃a,DV k b X g n a (j.map KU) (LJ (i++[(f,d)])))/\Below b w k:=by
 obtain⟨i0,a,c,l,m⟩:=XI sV;have p:=Z (AH a (AH c (AH l m)));clear a c l m;obtain⟨⟨cP,cQ,cS⟩,x,z⟩:=PA H;have A:d.size=64:=by have h1:(d.size:Int)=64:=(PH B).2;omega
 have u:(KU d).length=64:=by rw[ME,A]
 have bZ:∀o,Below w.heap.size w (w.alloc o):=λo=>KW _ _
 obtain⟨G,I,hv⟩:∃a c,v=.slice a i.length c:=by
  rw[<-QH];rcases MO h.own with ⟨e,a⟩|⟨g,c,e,_⟩
  ·exact⟨_,_,by rw[e,a]⟩
  exact⟨_,_,e⟩
 have q:=h.rx.y 0;have y:=h.rx.y 1;subst hv;have cL:=h.rx.lt;have l:=Z h;subst hn
 have o:∀k,Calls prog 90 #[.int .i64 (j.length:Int),.int .i64 f,.string d] k λe a=>e=.returned (.bool true)/\a=k:=λk=>by
  have:=mh j.length f d k ω ω;rw[B]at this;exact this
 have cO:(decide ((i.length:Int)<300))=true:=AM ω;go_enter func139,ntmps139;go_wp2_with fail;go_quiet ((go_at_call 90;exact Calls.quiet_of_same (o _)));go_wp2_with fail;have r:Hid (Below w.heap.size w ((w.alloc (.cells #[.bool false,.int .i64 f,.string d] 78)).drewN nq)):=below_drewN (bZ _) _;obtain⟨m,a⟩:∃m,m=(w.alloc (.cells #[.bool false,.int .i64 f,.string d] 78)).drewN nq:=⟨_,rfl⟩;have cF:m.cell? ⟨w.heap.size,1,none⟩=some (.int .i64 f):=by rw[a];simp[go_sem]
 have cT:m.cell? ⟨w.heap.size,2,none⟩=some (.string d):=by rw[a];simp[go_sem]
 have cE:w.heap.size<m.heap.size:=by rw[a];simp
 rw[<-a]at r⊢;clear a;have t:=Z (l.l.z r.l);clear q y;have q1:=t.l.rx.y 1;have q2:=t.l.rx.E 1;have cH:=ix;have P:=io;have Q:=nE;have M:=tZ (.int .i64 f) ((KU d).map (Value.int .u8)) ZJ (by rw[io,BP,u]);have L:=qK (.int .i64 f) ((KU d).map (Value.int .u8)) 65 (by rw[BP,u]);have F:(LJ i).length=i.length:=QH i;have q:Hid (DV m.drew b X g j.length (.slice G i.length I) (j.map KU) (LJ i)):=t.l.z ((AC _ _).drew);have U:=Z cF;have y:=Z cE;have O:=Z A;clear l h H o z x
 go_region_law (first|(refine step_append_lies _ ρ _ _ _ ρ b 145 i0 (.agg ZJ) 65 72 underlying101 p.l.1 p.l.2.1 p.l.2.2.1 p.l.2.2.2 κ ω (.slice G i.length I) (LJ i).length (NQ (LJ i)) ρ K.l ⟨l.heap.size,0,none⟩ 1 1 (Value.int .i64 f::(KU d).map (Value.int .u8)) ρ (by simp[u]) (World.news_of_block (AW l _)) (iq f (KU d)) ω (by rw[F];unfold maxLen;omega) (by rw[F];omega) ξ (l.heap.size+1) σ ?_;intro g9 x w3 z k E cC;have q4:=(a.l.rx.I k (λe=>a.l.nx e.symm)).y 1;have q5:=(a.l.rx.I k (λe=>a.l.nx e.symm)).E 1;have q6:=(a.l.rx.I k (λe=>a.l.nx e.symm)).lt;have T:=Z z;have D:=Z k;have R:=Z E;clear z k E)|(refine LC ρ 92 #[.string d] γ (ig d _ O.l) ?_;rintro e l ⟨rfl,o⟩;refine⟨_,rfl,?_⟩;have y0:=(o.cell (p:=⟨w.heap.size,1,none⟩) y.l).j U.l;have y1:=(q.l.z o).rx.y 1;have y2:=(q.l.z o).rx.lt;have y3:w.heap.size<l.heap.size:=AD y.l o.size;have C:=Z o;have a:=Z ((q.l.z o).z (MF l (.cells (Value.int .i64 f::(KU d).map (Value.int .u8)).toArray 145)));have K:=Z a.l.own))
 all_goals
  have cJ:g<l.heap.size:=(q.l.z C.l).pr.lt;have N:=Z (a.l.push (x:=(f,d)) T.l D.l R.l ω ω)
  have S:Hid (Below b w (w3.setCell ⟨X,1,none⟩ (.slice (some ⟨g9,0,none⟩) (i.length+1) x))):=by
   have z:Below b w l:=(r.l.A s).j (((AC m.heap.size m).drew.j C.l).A (AL s r.l.size));have E:=z.j ((MF l (.cells (Value.int .i64 f::(KU d).map (Value.int .u8)).toArray 145)).A (AL s z.size));have W:=E.j (MR D.l (AL s E.size) (λk hk=>(a.l.own.lt k hk).1));exact W.setCell a.l.bx _
  clear M L P Q cH;go_wp2;go_end0;exact⟨⟨_,rfl⟩,⟨_,N.l⟩,S.l⟩
