import Derived.Test.YtkdedmclofhndaaGreatDoorPrG41
import Derived.Test.YtkdedmclofhndaaGreatDoorPrMvS
set_option maxHeartbeats 16000000
namespace Go.Proofs.YtkdedmclofhndaaGreatDoor
open Tryz
open Go.RowKit
set_option linter.all false
set_option maxRecDepth 8000
theorem Lr{w:xV}{a n l:Nat}{e:xA}{os:List OpT}(h:w.ownsRow a 136 3 (yI e n l) os.length (Or os)):n=os.length/\OwnS w e (Or os)/\∀g,blk e os.length=some g->a<=g/\g<w.heap.size:=by
 rcases MC h with ⟨b,c⟩|⟨g,f,b,c,i,d⟩
 ·injection b with b i d
  rw[c];exact⟨ω,.inl (by rw[AD c];rfl),λg k=>by simp[blk]at k⟩
 injection b with b j m
 subst b
 exact⟨j,.inr ⟨g,rfl,d⟩,λo k=>by
  unfold blk at k
  split at k
  ·cases k
  simp at k;subst k;exact⟨c,d.lt⟩⟩
theorem Jt(W S L T H F R U O:Int)(a:xA)(t:List Pr)(c:Nat)(V:xA)(b:List Ch)(c2:Nat)(w:xV)(h:Prs w a t)(hl:t.length<=1048576)(hs:∀x∈t,x.1.size<=1048576/\x.2.size<=1048576)(h2:Chs w V b)(bR:b.length<=1048576)(aP:∀x∈b,x.1.size<=1048576/\x.2.1.size<=1048576):Calls prog 94 #[MI W S L T H F R U O a t.length c,yI V b.length c2] w λx j=>TJ w j x (PJ W S L T H F R U O t b):=by
 obtain⟨i0,d,e,f,g⟩:=WE wD;have HI:=Y (AG d (AG e (AG f g)));clear d e f g;have k:=Y (λj g=>ky W S L T H F R U O a t c j g hl hs);have p:=Y (λj g=>pi V b c2 j g bR aP);have l:=Y (λj g d=>zF a t c V b c2 j g hl hs d bR aP);unfold YK LR at l;have dQ:=ro t b;have cC:=Y (pC t b (λx=>x.1.size<=1048576/\x.2.size<=1048576) hs aP);obtain⟨D,J⟩:∃D,Hid (D=PJ W S L T H F R U O t b):=⟨_,Y rfl⟩;rw[<-J.j];have f:=J.j;unfold PJ at f;clear J;obtain⟨u,cA⟩:∃u,Hid (u=PH t b):=⟨_,Y rfl⟩;obtain⟨C1,cY⟩:∃C1,Hid (C1=PK t b):=⟨_,Y rfl⟩;rw[<-cA.j]at dQ cC;rw[<-cA.j,<-cY.j]at l f;have HG:=Y h;have aZ:=Y h2;have dL:=Y aP;clear h h2 hs aP;unfold MI at k⊢;have e:=Y f;clear f;go_enter func94,ntmps94;go_upto_region 1 with fail;generalize d:w.alloc _=v1;obtain⟨i,n,o⟩:=LK d;clear d;generalize d:v1.alloc _=v2
 obtain⟨m,q,f⟩:=LK d;clear d;rw[n]at f;have d:StB w v2 (sJ W S L T H F R U O (yI a t.length c)) (λ_=>True):=⟨i.E (m.J i.size),(o.I m).q,f.q,UO (λ_=>trivial)⟩;have r:w.heap.size+1<v2.heap.size:=f.q.lt;clear i m o f n q;refine AV ?_;refine AZ rfl 39 _ rfl w.heap.size 0 rfl _ _ d.r1.range underlying39 rfl OQ ?_;simp only[PS];go_wp2_with fail;refine(k.j _ (HG.j.I d.e)).J ?_;rintro x v3 ⟨rfl,i⟩;replace d:=d.I i;clear i r k
 cases hok:NX W S L T H F R U O t
 focus
  obtain rfl:D=LJ 1:=by rw[e.j,AF (by rw[hok];simp)]
 rotate_left
 focus
  go_wp2_with fail;refine(p.j _ (aZ.j.I d.e)).J ?_;rintro x v4 ⟨rfl,i⟩;replace d:=d.I i;clear i p
  cases hokb:OM b
  focus
   obtain rfl:D=LJ 1:=by rw[e.j,AF (by rw[hokb];simp)]
  rotate_left
  focus
   obtain⟨hW,hS,dV,hT,hH,hF,hU,hO,_⟩:=WV hok;have hQ:=PG hS;have f:=e.j;rw[AI (by rw[hok,hokb];rfl)]at f;clear hok hokb e;have HH:=Y (λj=>VU S j);have HB:=Y (λj=>sj S H hH.1 hH.2 j);obtain⟨n,rfl⟩:∃n:Nat,W=(n:Int):=⟨W.toNat,ω⟩;have e:(n:Int).toNat=n:=ω
   rw[e]at f;obtain⟨m,i⟩:∃m,m=56-n:=⟨_,rfl⟩;rw[<-i]at f;have cL:n+m=56:=ω
   clear e i;have HF:=Y (λj g=>cw V b c2 j g bR dL.j);have dZ:=ac b;have aY:=Y (λj=>xG (MA b) L (F+U) n m j ω cL ω ω);have cM:=mM (MA b).size (n:Int) ω ω;have i:=xH (MA b) L (F+U) n m cL ω ω dV ω;obtain⟨Q,HQ⟩:∃Q,Hid (Q=hv S):=⟨_,Y rfl⟩;obtain⟨N,HN⟩:∃N,Hid (N=OO (MA b).size (n:Int)):=⟨_,Y rfl⟩;obtain⟨bo,e⟩:∃bo,bo=MA b:=⟨_,rfl⟩;obtain⟨o,hcut⟩:∃o,o=OC (MA b) L (F+U) n m:=⟨_,rfl⟩;have bQ:(o.length:Int)=N:=by rw[hcut,HN.j];exact i ω
   rw[<-hcut]at aY f;rw[<-e]at HF aY dZ cM;rw[<-e]at HN;rw[<-HN.j]at cM;rw[<-HQ.j]at hQ hU HH HB f;rw[<-e,<-HN.j]at f;clear i hcut e;obtain⟨q,i⟩:∃q,q=2+H*Q:=⟨_,rfl⟩
   have eV:2<=q/\q<=101:=by
    rcases(show H=0\/H=1 by omega) with e|e
    ·subst e;omega
    subst e;omega
   rw[<-i]at HB f;clear i;obtain⟨r,dH⟩:∃r,Hid (r=MG (MK u) (n:Int)):=⟨_,Y rfl⟩;have e:=Y (λi k j g=>rc i u k (n:Int) j g ω cC.j);have eK:=bw (MK u) (n:Int);have eY:=ZC u;rw[<-dH.j]at e eK f;have J:=Y f;clear f;have eZ:IntKind.i64.wrap (Q-1)=Q-1:=by simp[IntKind.wrap,IntKind.bits,IntKind.signed];omega
   have fA:IntKind.i64.wrap (Q-U)=Q-U:=by simp[IntKind.wrap,IntKind.bits,IntKind.signed];omega
   have fC:IntKind.i64.wrap (F+U)=F+U:=by simp[IntKind.wrap,IntKind.bits,IntKind.signed];omega
   have f:=d.r1.y 9;have C:=d.r1.lt;go_wp2_with fail;clear f C;refine(l.j _ (HG.j.I d.e) (aZ.j.I d.e)).J ?_;rintro x v5 ⟨B,K,rfl,eB,f,hg,i⟩;have l4:=d.r2.lt;have z:=QF (lo:=v4.heap.size) f RG hg
   have eM:∀g,blk B u.length=some g->g<v5.heap.size:=λg k=>ZP f k
   replace d:=d.I i;clear i l f;go_upto_region 4 with fail;generalize f:v5.alloc _=v6;obtain⟨i,p,l⟩:=LK f;clear f;have E:=l.q;obtain⟨X5,f⟩:∃k,k=v5.heap.size:=⟨_,rfl⟩;rw[<-f]at E⊢;have l5:w.heap.size+1<X5:=by rw[f];exact d.r2.lt
   replace d:=d.I i;replace z:=z.I i;have fJ:v5.heap.size<=v6.heap.size:=i.size;clear i l p f;generalize Value.tuple _=T0;generalize Value.agg _=A0
   try generalize Value.agg _=A9
   by_cases hC:C1=0
   case neg =>
    obtain rfl:D=LJ 2:=by rw[J.j,AF hC]
    have f:(C1 == 0)=false:=by simp[hC]
    go_upto_region 5 with fail;refine d.noR 2 _ _ rfl γ rfl rfl rfl rfl (λy i A=>?_)
    try simp only[PS]
    clear d
    try go_wp2
    refine TI 4 results94 _ ?_ i ?_ A.j<;>rfl
   have eO:=Y hC;subst hC;have f:=d.r1.y 0;have l:=d.r1.y 1;have C:=d.r1.lt;have i:=E.y 0;have y:=E.lt;go_wp2_with (go_at_call 29;refine(HH.j _).J ?_;refine NE ?_);clear f l C i y;refine(e.j _ _ _ z.q.prsA).J ?_;rintro x v7 ⟨rfl,i⟩;replace d:=d.I i;replace z:=z.I i;replace E:=E.I i;clear i e
   by_cases hr:r<=Q-1
   case neg =>
    obtain rfl:D=LJ 3:=by rw[J.j,AI trivial,AF hr]
    have e:Q-1<r:=ω
    go_upto_region 8 with fail;refine d.noR 3 _ _ rfl γ rfl rfl rfl rfl (λy i A=>?_)
    try simp only[PS]
    clear d
    try go_wp2
    refine TI 4 results94 _ ?_ i ?_ A.j<;>rfl
   go_upto_region 9 with fail;have y:=(AB v7.heap.size v7).drew;refine AN (S:=λj=>Row j w.heap.size (sJ (n:Int) S L T H F R U O (yI a t.length c))) κ (d.r1.I y) (λp=>?_);refine TY 0 (yI V b.length c2) rfl p (TK 2 (zW w.heap.size 2) rfl (AS ⟨ρ,λw f=>by obtain s:=f;have l:=f.lt;go_simp⟩) p (TK 3 (Z L) rfl (AS ⟨ρ,λw f=>by obtain s:=f;have c:=f.y 2;go_simp⟩) p (TK 4 (zW w.heap.size 3) rfl (AS ⟨ρ,λw f=>by obtain s:=f;have l:=f.lt;go_simp⟩) p (TK 5 (zW w.heap.size 5) rfl (AS ⟨ρ,λw f=>by obtain s:=f;have l:=f.lt;go_simp⟩) p (TK 6 (Z F) rfl (AS ⟨ρ,λw f=>by obtain s:=f;have c:=f.y 5;go_simp⟩) p (TK 7 (zW w.heap.size 7) rfl (AS ⟨ρ,λw f=>by obtain s:=f;have l:=f.lt;go_simp⟩) p (TK 8 (Z U) rfl (AS ⟨ρ,λw f=>by obtain s:=f;have c:=f.y 7;go_simp⟩) p (TY 9 (Z (F+U)) rfl p (TK 10 (zW w.heap.size 0) rfl (AS ⟨ρ,λw f=>by obtain s:=f;have l:=f.lt;go_simp⟩) p (TK 11 (Z (n:Int)) rfl (AS ⟨ρ,λw f=>by obtain s:=f;have c:=f.y 0;go_simp⟩) p ?_))))))))))
   simp only[PS];refine RD 1 rfl (λP v=>?_);refine LI ρ 139 #[yI V b.length c2] γ (HF.j _ ((aZ.j.I d.e).I y)) ?_;rintro e y1 ⟨rfl,i⟩;refine⟨_,rfl,?_⟩;replace y:=y.E (i.J y.size);clear i;refine v.j _ _ (d.r1.I y) (λdR=>?_)
   try simp only[PS]
   refine RD 12 rfl (λP v=>?_);refine LI ρ 138 #[yQ bo,Z L,Z (F+U),Z (n:Int)] γ (aY.j _) ?_;rintro e u2 ⟨a8,c8,rfl,A,aU,i⟩;refine⟨_,rfl,?_⟩;have dC:=QF (lo:=v7.heap.size) A (λh e=>h (by rw[AD e];rfl)) (λg k=>AJ y.size (aU g k));replace y:=y.E (i.J y.size);clear i A aU;refine v.j _ _ (d.r1.I y) (λaN=>?_)
   try simp only[PS]
   refine RD 13 rfl (λP v=>?_);go_simp;refine v.j _ _ aN (λ_=>?_)
   try simp only[PS]
   refine DN ?_;replace d:=d.I y;replace z:=z.I y;replace E:=E.I y;clear y
   by_cases hp:N<=Q-U
   case neg =>
    obtain rfl:D=LJ 4:=by rw[J.j,AI trivial,AI hr,AF hp]
    have eI:Q-U<(o.length:Int):=ω
    have G:=d.r1.y 7;have C:=d.r1.lt;go_upto_region 11 with fail;refine d.noR 4 _ _ rfl γ rfl rfl rfl rfl (λy i A=>?_)
    try simp only[PS]
    clear d
    try go_wp2
    refine TI 4 results94 _ ?_ i ?_ A.j<;>rfl
   have eI:(o.length:Int)<=Q-U:=ω
   obtain rfl:D=⟨0,(n:Int),S,L,T,H,F,R,U+(o.length:Int),O+(o.length:Int),u,MM (q+U) o⟩:=by rw[J.j,AI trivial,AI hr,AI hp,bQ]
   have fH:=d.r2.lt;have fI:=z.top;have q:=c10 d.r1;have i:=E.y 0;have y:=E.lt;go_wp2_with fail;clear q i y;generalize q:u2.alloc _=w8;obtain⟨i,aH,y⟩:=LK q;clear q;have bT:=DG w8 (base:=u2.heap.size+1) (e:=136) (size:=3) #[] 0 ω σ σ;rw[aH]at bT;have cO:Row _ u2.heap.size (sJ (n:Int) S L T H F R U O (yI B u.length K)):=(y.I (tg w8 (.cells #[] 136))).q;have cH:=i.E ((tg w8 (.cells #[] 136)).J i.size)
   try rw[aH]
   clear y i;go_loopw [10,11] (λy i wr=>∃k:Nat,k<=o.length/\i=Z (k:Int)/\Row wr u2.heap.size (sJ (n:Int) S L T H F R (U+(k:Int)) (O+(k:Int)) (yI B u.length K))/\wr.ownsRow (u2.heap.size+1) 136 3 y k (Or (MM (q+U) (o.take k)))/\yX u2 wr) (λ_ i _=>o.length-(intOf i).toNat)
   case atStart =>
    exact⟨0,AL _,rfl,by simpa using cO,by simpa[MM,Or] using bT,cH⟩
   case round =>
    clear cO bT cH aH;obtain⟨k,hk,rfl,aW,aI,aO⟩:=hrel;have aQ:=aW.lt;replace d:=d.I aO;replace z:=z.I aO
    obtain⟨G,I,rfl⟩:∃G I,u10=yI G k I:=by
     rcases MC aI with ⟨A,C⟩|⟨g,i,A,_⟩
     ·exact⟨none,0,by rw[A,C]⟩
     exact⟨_,i,A⟩
    have eU:(k:Int)<=N:=ω
    by_cases aV:k<o.length
    ·obtain⟨X,rfl,bV⟩:=dC.q.resolve_left (by intro e;have:=BC List.length e;simp at this;rw[this]at aV;simp at aV)
     have aU:=bV.lt;have A:=bV.cell k (yQ (o.getD k ByteArray.empty)) (by simp[aV,List.getD]);obtain⟨C,M⟩:∃C,C=o.getD k ByteArray.empty:=⟨_,rfl⟩;rw[<-M]at A;have eF:(k:Int)<(o.length:Int):=ω
     have eT:(0:Int)<=(k:Int):=ω
     have fE:IntKind.i64.wrap (q+(U+(k:Int)))=q+(U+(k:Int)):=by simp[IntKind.wrap,IntKind.bits,IntKind.signed];omega
     have fF:IntKind.i64.wrap (U+(k:Int)+1)=U+(k:Int)+1:=by simp[IntKind.wrap,IntKind.bits,IntKind.signed];omega
     have fG:IntKind.i64.wrap (O+(k:Int)+1)=O+(k:Int)+1:=by simp[IntKind.wrap,IntKind.bits,IntKind.signed];omega
     have dB:=Y M
     have HK:Hid (∀W,Below (u2.heap.size+1) wr W->Row W w.heap.size (sJ (n:Int) S L T H F R U O (yI a t.length c))/\Row W u2.heap.size (sJ (n:Int) S L T H F R (U+(k:Int)) (O+(k:Int)) (yI B u.length K))/\W.cell? (yA X k)=some (yQ C)):=λW i=>⟨(d.low i ω).r1,aW.below2 (N:=u2.heap.size+1) ω i,(i.cell (p:=(yA X k)) (by show X<_;omega)).E ((aO.cell (p:=(yA X k)) aU).E A)⟩
     clear M bV A;go_upto_region 18 with fail;have A:=(AB wr.heap.size wr).drew;refine AN (S:=λj=>Row j w.heap.size (sJ (n:Int) S L T H F R U O (yI a t.length c))/\Row j u2.heap.size (sJ (n:Int) S L T H F R (U+(k:Int)) (O+(k:Int)) (yI B u.length K))/\j.cell? (yA X k)=some (yQ C)) κ (HK.j _ (A.J aQ)) (λp=>?_);refine TY 0 (yI G k I) rfl p (TK 1 (zW w.heap.size 1) rfl (AS ⟨ρ,λw f=>by obtain⟨s,M,z2⟩:=f;have l:=s.lt;go_simp⟩) p (TK 2 (Z S) rfl (AS ⟨ρ,λw f=>by obtain⟨s,M,z2⟩:=f;have c:=s.y 1;go_simp⟩) p (TK 3 (zW w.heap.size 3) rfl (AS ⟨ρ,λw f=>by obtain⟨s,M,z2⟩:=f;have l:=s.lt;go_simp⟩) p (TK 4 (zW w.heap.size 4) rfl (AS ⟨ρ,λw f=>by obtain⟨s,M,z2⟩:=f;have l:=s.lt;go_simp⟩) p (TK 5 (Z H) rfl (AS ⟨ρ,λw f=>by obtain⟨s,M,z2⟩:=f;have c:=s.y 4;go_simp⟩) p (TK 7 (zW u2.heap.size 7) rfl (AS ⟨ρ,λw f=>by obtain⟨s,M,z2⟩:=f;have l:=M.lt;go_simp⟩) p (TK 8 (Z (U+(k:Int))) rfl (AS ⟨ρ,λw f=>by obtain⟨s,M,z2⟩:=f;have c:=M.y 7;go_simp⟩) p (TY 10 (yI (zY X 0) o.length c8) rfl p (TY 11 (Z (k:Int)) rfl p (TY 12 (zW X k) rfl p (TY 13 (yQ C) rfl p ?_)))))))))))
     simp only[PS];refine RD 6 rfl (λP v=>?_);refine LI ρ 125 #[Z S,Z H] γ (HB.j _) ?_;rintro e j ⟨rfl,f⟩;refine⟨_,rfl,?_⟩;rw[f];clear f j;refine v.j _ _ p (λ_=>?_)
     try simp only[PS]
     refine TY 9 (Z (q+(U+(k:Int)))) rfl p ?_;simp only[PS];refine RD 14 rfl (λP v=>?_);refine LI ρ 130 #[Z (q+(U+(k:Int))),yQ C] γ (it _ _ _) ?_;rintro e w4 ⟨rfl,i⟩;refine⟨_,rfl,?_⟩;replace A:=A.E (i.J A.size);have cE:=Y ((LZ aI A).alloc (.cells #[yR false,Z (q+(U+(k:Int))),yQ C] 136));have cP:u2.heap.size+1<=w4.heap.size:=AJ aQ A.size;clear i;refine v.j _ _ (HK.j _ (A.J aQ)) (λaN=>?_)
     try simp only[PS]
     refine RD 15 rfl (λP v=>?_);go_simp;refine v.j _ _ (HK.j _ ((A.J aQ).alloc cP _)) (λdU=>?_)
     try simp only[PS]
     refine RD 16 rfl (λP v=>?_);refine RP _ ρ _ _ _ ρ (u2.heap.size+1) underlying100 HI.j rfl ω (yI G k I) k _ ρ cE.j (yA w4.heap.size 0) 1 1 [yR false,Z (q+(U+(k:Int))),yQ C] ρ rfl (World.news_of_block (AU w4 _)) (YF _ _ _) ξ (w4.heap.size+1) σ ?_;intro g9 dM w5 aG f bG eG;have i:=Y (((A.J aQ).alloc cP _).E (Ow f τ (λj hj=>(aI.lt j hj).1)));have cZ:=Y aG;clear aG f bG;refine v.j _ _ (HK.j _ i.j) (λj=>?_)
     try simp only[PS]
     refine RD 17 rfl (λP v=>?_);go_simp;refine v.j _ _ j (λ_=>?_)
     try simp only[PS]
     refine DN ?_;have f:=(HK.j _ i.j).2.1;have fO:=f.y 7;have fQ:=f.y 8;have eP:=f.A 7;have eQ:=f.A 8;have l5:=f.lt;have dF:=Y f;have cX:=Y aO;clear f aI aW aO A cE d z dC;go_wp2_with fail;have f:MM (q+U) (o.take (k+1))=MM (q+U) (o.take k)++[(false,q+(U+(k:Int)),C)]:=by rw[ZR o k ByteArray.empty aV,zy,<-dB.j,AX,show min k o.length=k by omega,Int.add_assoc]
     refine⟨⟨k+1,ω,ν,?_,?_,?_⟩,by simp[intOf];omega⟩
     ·rw[show U+((k+1:Nat):Int)=U+(k:Int)+1 by omega,show O+((k+1:Nat):Int)=O+(k:Int)+1 by omega]
      exact(dF.j.set 7 σ (Z (U+(k:Int)+1))).set 8 σ (Z (O+(k:Int)+1))
     ·rw[f,O8]
      exact ym cZ.j (λb A h2=>by rw[BM _ _ _ b (by show b≠u2.heap.size;omega),BM _ _ _ b (by show b≠u2.heap.size;omega)])
     exact((cX.j.E (i.j.J ω)).setCell (p:=(yA u2.heap.size 7)) (AA _) _).setCell (p:=(yA u2.heap.size 8)) (AA _) _
    have M:k=o.length:=ω
    subst M;rw[DF]at aI;go_upto_region 21 with fail;refine AV ?_;refine AZ rfl 39 _ rfl u2.heap.size 0 rfl _ _ aW.range underlying39 rfl OQ ?_;simp only[PS];refine SO rfl (yI G o.length I) γ ?_;simp only[PS];refine SO rfl (.agg (dK 0 (n:Int) S L T H F R (U+(o.length:Int)) (O+(o.length:Int)) (yI B u.length K) (yI G o.length I))) γ ?_;simp only[PS];refine BU rfl 102 _ _ rfl (w.heap.size+1) 0 (dK 0 (n:Int) S L T H F R (U+(o.length:Int)) (O+(o.length:Int)) (yI B u.length K) (yI G o.length I)) rfl rfl (d.r2.there rfl) RQ κ ?_
    try simp only[PS]
    have eJ:=QZ (q+U) o;obtain⟨_,X,C⟩:=Lr (os:=MM (q+U) o) (by rw[eJ];exact aI)
    have j:=λg k=>(C g k).1
    obtain⟨i,f⟩:=d.fin ⟨0,(n:Int),S,L,T,H,F,R,U+(o.length:Int),O+(o.length:Int),u,MM (q+U) o⟩ B K G I eB ⟨z.q,X,ZO (N:=u2.heap.size) (λg k=>by have:=eM g k;omega) (λg k=>by have:=j g k;omega)⟩ (λg k=>by have:=hg g k;omega) (λg k=>by have:=j g k;omega);have A:=Y f;clear f;simp only[QD,QZ]at i A;generalize f:World.setCells _ _ _ _=y at i A⊢;clear f d
    try go_wp2
    refine TI (D:=⟨0,(n:Int),S,L,T,H,F,R,U+(o.length:Int),O+(o.length:Int),u,MM (q+U) o⟩) 4 results94 (a:=B) (c:=K) (b:=G) (e:=I) _ ?_ (by simp only[QD,QZ];exact i) ?_ A.j<;>rfl
 rotate_left
 all_goals
  go_upto_region 2 with fail;refine d.noR 1 _ _ rfl γ rfl rfl rfl rfl (λy i A=>?_)
  try simp only[PS]
  clear d
  try go_wp2
  refine TI 4 results94 _ ?_ i ?_ A.j<;>rfl
