import Derived.Test.YteflhojcomcfaaaGreatDoorPrMvS
set_option maxHeartbeats 16000000
namespace Go.Proofs.YteflhojcomcfaaaGreatDoor
open Tryz
open Go.RowKit
set_option linter.all false
set_option maxRecDepth 8000
theorem Np{w:Q9}{a n m:Nat}{f:Q5}{os:List OpT}(h:w.ownsRow a 167 3 (Y f n m) os.length (LG os)):n=os.length/\OwnS w f (LG os)/\∀g,blk f os.length=some g->a<=g/\g<w.heap.size:=by
 rcases MS h with ⟨b,c⟩|⟨g,i,b,c,j,e⟩
 .injection b with b j e
  rw[c];exact⟨d,.inl (by rw[AD c];rfl),λg k=>by simp[blk]at k⟩
 injection b with b l o
 subst b
 exact⟨l,.inr ⟨g,z,e⟩,λp k=>by
  unfold blk at k
  split at k
  .cases k
  simp at k;subst k;exact⟨c,e.lt⟩⟩
theorem Lq(W S L T H F R U O:Int)(a:Q5)(X:List Pr)(c:Nat)(a2:Q5)(o:List Ch)(c2:Nat)(w:Q9)(B:Prs w a X)(hl:X.length<=1048576)(hs:∀s∈X,s.1.size<=1048576/\s.2.size<=1048576)(h2:Chs w a2 o)(bR:o.length<=1048576)(aP:∀s∈o,s.1.size<=1048576/\s.2.1.size<=1048576):Calls prog 118 #[NA W S L T H F R U O a X.length c,Y a2 o.length c2] w λs P=>VZ w P s (QV W S L T H F R U O X o):=by
 obtain⟨i0,e,g,i,k⟩:=ZR yY;have HI:=LE (AG e (AG g (AG i k)));clear e g i k;have m:=LE (λP k=>sk W S L T H F R U O a X c P k hl hs);have J:=LE (λP k=>vg a2 o c2 P k bR aP);have t:=LE (λP k e=>Bv a X c a2 o c2 P k hl hs e bR aP);unfold eq LX at t;have dQ:=xm X o;have cC:=LE (sZ X o (λs=>s.1.size<=1048576/\s.2.size<=1048576) hs aP);obtain⟨v,x⟩:=nHz (QV W S L T H F R U O X o);rw[<-x.j];have g:=x.j;unfold QV at g;clear x;obtain⟨C,cA⟩:=nHz (QT X o);obtain⟨C1,cY⟩:=nHz (QW X o);rw[<-cA.j]at dQ cC;rw[<-cA.j,<-cY.j]at t g;have HG:=LE B;have aZ:=LE h2;have dL:=LE aP;clear B h2 hs aP;unfold NA at m⊢;have e:=LE g;clear g;go_enter func118,ntmps118;go_upto_region 1 with fail;generalize g:w.alloc _=v1;obtain⟨i,r,y⟩:=LP g;clear g;generalize p:v1.alloc _=v2
 obtain⟨n,K,g⟩:=LP p;clear p;rw[r]at g;have E:StB w v2 (sJ W S L T H F R U O (Y a X.length c)) (λ_=>True):=⟨i.E (n.J i.size),(y.I n).q,g.q,XP (λ_=>trivial)⟩;have p:w.heap.size+1<v2.heap.size:=g.q.lt;clear i n y g r K;refine AX ?_;refine BE z 44 _ z w.heap.size 0 z _ _ E.r1.range underlying44 z QD ?_;simp only[PS];go_wp2_with fail;refine(m.j _ (HG.j.I E.e)).J ?_;rintro s v3 ⟨rfl,i⟩;replace E:=E.I i;clear i p m
 cases hok:OW W S L T H F R U O X
 focus
  obtain rfl:v=LO 1:=by rw[e.j,AF (by rw[hok];simp)]
 rotate_left
 focus
  go_wp2_with fail;refine(J.j _ (aZ.j.I E.e)).J ?_;rintro s v4 ⟨rfl,i⟩;replace E:=E.I i;clear i J
  cases hokb:PZ o
  focus
   obtain rfl:v=LO 1:=by rw[e.j,AF (by rw[hokb];simp)]
  rotate_left
  focus
   obtain⟨hW,hS,dV,hT,hH,hF,hU,hO,_⟩:=an hok;have hQ:=QS hS;have g:=e.j;rw[AI (by rw[hok,hokb];rfl)]at g;clear hok hokb e;have HH:=LE (λP=>ZA S P);have HB:=LE (λP=>yf S H hH.1 hH.2 P);obtain⟨n,rfl⟩:∃n:Nat,W=(n:Int):=⟨W.toNat,d⟩;have e:(n:Int).toNat=n:=d
   rw[e]at g;obtain⟨m,i⟩:=nMz (56-n);rw[<-i]at g;have cL:n+m=56:=d
   clear e i;have HF:=LE (λP k=>jz a2 o c2 P k bR dL.j);have dZ:=iw o;have aY:=LE (λP=>Af (MN o) L (F+U) n m P d cL d d);have cM:=p7 (MN o).size (n:Int) d d;have i:=Ag (MN o) L (F+U) n m cL d d dV d;obtain⟨Q,HQ⟩:=nHz (hv S);obtain⟨N,HN⟩:=nHz (QB (MN o).size (n:Int));obtain⟨bo,e⟩:=nMz (MN o);obtain⟨K,hcut⟩:=nMz (PK (MN o) L (F+U) n m);have bQ:(K.length:Int)=N:=by rw[hcut,HN.j];exact i d
   rw[<-hcut]at aY g;rw[<-e]at HF aY dZ cM;rw[<-e]at HN;rw[<-HN.j]at cM;rw[<-HQ.j]at hQ hU HH HB g;rw[<-e,<-HN.j]at g;clear i hcut e;obtain⟨p,i⟩:=nMz (2+H*Q)
   have eV:2<=p/\p<=101:=by
    rcases(show H=0\/H=1 by omega) with e|e
    .subst e;omega
    subst e;omega
   rw[<-i]at HB g;clear i;obtain⟨r,dH⟩:=nHz (MY (NC C) (n:Int));have e:=LE (λi y P k=>xf i C y (n:Int) P k d cC.j);have eK:=jt (NC C) (n:Int);have eY:=gi C;rw[<-dH.j]at e eK g;have x:=LE g;clear g;have eZ:IntKind.i64.wrap (Q-1)=Q-1:=by simp[IntKind.wrap,IntKind.bits,IntKind.signed];omega
   have fA:IntKind.i64.wrap (Q-U)=Q-U:=by simp[IntKind.wrap,IntKind.bits,IntKind.signed];omega
   have fC:IntKind.i64.wrap (F+U)=F+U:=by simp[IntKind.wrap,IntKind.bits,IntKind.signed];omega
   have g:=E.r1.y 9;have A:=E.r1.lt;go_wp2_with fail;clear g A;refine(t.j _ (HG.j.I E.e) (aZ.j.I E.e)).J ?_;rintro s v5 ⟨I,G,rfl,eB,y,hg,i⟩;have l4:=E.r2.lt;have D:=RX (lo:=v4.heap.size) y TS hg
   have eM:∀g,blk I C.length=some g->g<v5.heap.size:=λg k=>gz y k
   replace E:=E.I i;clear i t y;go_upto_region 4 with fail;generalize t:v5.alloc _=v6;obtain⟨i,J,y⟩:=LP t;clear t;have j:=y.q;obtain⟨X5,t⟩:=nMz v5.heap.size;rw[<-t]at j⊢;have l5:w.heap.size+1<X5:=by rw[t];exact E.r2.lt
   replace E:=E.I i;replace D:=D.I i;have fJ:v5.heap.size<=v6.heap.size:=i.size;clear i y J t;generalize Value.tuple _=T0;generalize Value.agg _=A0
   try generalize Value.agg _=A9
   by_cases hC:C1=0
   case neg =>
    obtain rfl:v=LO 2:=by rw[x.j,AF hC]
    have t:(C1 == 0)=false:=by simp[hC]
    go_upto_region 5 with fail;refine E.noR 2 _ _ z l z z z z (λy i h=>?_)
    try simp only[PS]
    clear E
    try go_wp2
    refine VY 4 results118 _ ?_ i ?_ h.j<;>rfl
   have eO:=LE hC;subst hC;have t:=E.r1.y 0;have J:=E.r1.y 1;have A:=E.r1.lt;have i:=j.y 0;have y:=j.lt;go_wp2_with (go_at_call 47;refine(HH.j _).J ?_;refine OF ?_);clear t J A i y;refine(e.j _ _ _ D.q.prsA).J ?_;rintro s v7 ⟨rfl,i⟩;replace E:=E.I i;replace D:=D.I i;replace j:=j.I i;clear i e
   by_cases hr:r<=Q-1
   case neg =>
    obtain rfl:v=LO 3:=by rw[x.j,AI trivial,AF hr]
    have e:Q-1<r:=d
    go_upto_region 8 with fail;refine E.noR 3 _ _ z l z z z z (λy i h=>?_)
    try simp only[PS]
    clear E
    try go_wp2
    refine VY 4 results118 _ ?_ i ?_ h.j<;>rfl
   go_upto_region 9 with fail;have y:=(@AB v7.heap.size v7).drew;refine AN (S:=λP=>Row P w.heap.size (sJ (n:Int) S L T H F R U O (Y a X.length c))) κ (E.r1.I y) (λM=>?_);refine TY 0 (Y a2 o.length c2) z M (TK 2 (Dr w.heap.size 2) z (b ⟨f,λw J=>by obtain V:=J;have t:=J.lt;go_simp⟩) M (TK 3 (Z L) z (b ⟨f,λw J=>by obtain V:=J;have c:=J.y 2;go_simp⟩) M (TK 4 (Dr w.heap.size 3) z (b ⟨f,λw J=>by obtain V:=J;have t:=J.lt;go_simp⟩) M (TK 5 (Dr w.heap.size 5) z (b ⟨f,λw J=>by obtain V:=J;have t:=J.lt;go_simp⟩) M (TK 6 (Z F) z (b ⟨f,λw J=>by obtain V:=J;have c:=J.y 5;go_simp⟩) M (TK 7 (Dr w.heap.size 7) z (b ⟨f,λw J=>by obtain V:=J;have t:=J.lt;go_simp⟩) M (TK 8 (Z U) z (b ⟨f,λw J=>by obtain V:=J;have c:=J.y 7;go_simp⟩) M (TY 9 (Z (F+U)) z M (TK 10 (Dr w.heap.size 0) z (b ⟨f,λw J=>by obtain V:=J;have t:=J.lt;go_simp⟩) M (TK 11 (Z (n:Int)) z (b ⟨f,λw J=>by obtain V:=J;have c:=J.y 0;go_simp⟩) M ?_))))))))))
   simp only[PS];refine RD 1 z (λKq q=>?_);refine LM f 176 #[Y a2 o.length c2] l (HF.j _ ((aZ.j.I E.e).I y)) ?_;rintro e y1 ⟨rfl,i⟩;refine⟨_,z,?_⟩;replace y:=y.E (i.J y.size);clear i;refine q.j _ _ (E.r1.I y) (λdR=>?_)
   try simp only[PS]
   refine RD 12 z (λKq q=>?_);refine LM f 175 #[Ow bo,Z L,Z (F+U),Z (n:Int)] l (aY.j _) ?_;rintro e u2 ⟨a8,c8,rfl,h,aU,i⟩;refine⟨_,z,?_⟩;have dC:=RX (lo:=v7.heap.size) h (λB e=>B (by rw[AD e];rfl)) (λg k=>AJ y.size (aU g k));replace y:=y.E (i.J y.size);clear i h aU;refine q.j _ _ (E.r1.I y) (λaN=>?_)
   try simp only[PS]
   refine RD 13 z (λKq q=>?_);go_simp;refine q.j _ _ aN (λ_=>?_)
   try simp only[PS]
   refine DN ?_;replace E:=E.I y;replace D:=D.I y;replace j:=j.I y;clear y
   by_cases hp:N<=Q-U
   case neg =>
    obtain rfl:v=LO 4:=by rw[x.j,AI trivial,AI hr,AF hp]
    have eI:Q-U<(K.length:Int):=d
    have u:=E.r1.y 7;have A:=E.r1.lt;go_upto_region 11 with fail;refine E.noR 4 _ _ z l z z z z (λy i h=>?_)
    try simp only[PS]
    clear E
    try go_wp2
    refine VY 4 results118 _ ?_ i ?_ h.j<;>rfl
   have eI:(K.length:Int)<=Q-U:=d
   obtain rfl:v=⟨0,(n:Int),S,L,T,H,F,R,U+(K.length:Int),O+(K.length:Int),C,NE (p+U) K⟩:=by rw[x.j,AI trivial,AI hr,AI hp,bQ]
   have fH:=E.r2.lt;have fI:=D.top;have p:=c10 E.r1;have i:=j.y 0;have y:=j.lt;go_wp2_with fail;clear p i y;generalize p:u2.alloc _=w8;obtain⟨i,aH,y⟩:=LP p;clear p;have bT:=DH w8 (base:=u2.heap.size+1) (e:=167) (size:=3) #[] 0 d σ σ;rw[aH]at bT;have cO:Row _ u2.heap.size (sJ (n:Int) S L T H F R U O (Y I C.length G)):=(y.I (yt w8 (.cells #[] 167))).q;have cH:=i.E ((yt w8 (.cells #[] 167)).J i.size)
   try rw[aH]
   clear y i;go_loopw [10,11] (λy i wr=>∃k:Nat,k<=K.length/\i=Z (k:Int)/\Row wr u2.heap.size (sJ (n:Int) S L T H F R (U+(k:Int)) (O+(k:Int)) (Y I C.length G))/\wr.ownsRow (u2.heap.size+1) 167 3 y k (LG (NE (p+U) (K.take k)))/\Q3 u2 wr) (λ_ i _=>K.length-(intOf i).toNat)
   case atStart =>
    exact⟨0,AL,z,by simpa using cO,by simpa[NE,LG] using bT,cH⟩
   case round =>
    clear cO bT cH aH;obtain⟨k,hk,rfl,aW,aI,aO⟩:=hrel;have aQ:=aW.lt;replace E:=E.I aO;replace D:=D.I aO
    obtain⟨A,u,rfl⟩:∃A u,u10=Y A k u:=by
     rcases MS aI with ⟨h,e2⟩|⟨g,i,h,_⟩
     .exact⟨none,0,by rw[h,e2]⟩
     exact⟨_,i,h⟩
    have eU:(k:Int)<=N:=d
    by_cases aV:k<K.length
    .obtain⟨g8,rfl,bV⟩:=dC.q.resolve_left (by intro e;have:=BD List.length e;simp at this;rw[this]at aV;simp at aV)
     have aU:=bV.lt;have h:=bV.cell k (Ow (K.getD k ByteArray.empty)) (by simp[aV,List.getD]);obtain⟨pk,bU⟩:=nMz (K.getD k ByteArray.empty);rw[<-bU]at h;have eF:(k:Int)<(K.length:Int):=d
     have eT:(0:Int)<=(k:Int):=d
     have fE:IntKind.i64.wrap (p+(U+(k:Int)))=p+(U+(k:Int)):=by simp[IntKind.wrap,IntKind.bits,IntKind.signed];omega
     have fF:IntKind.i64.wrap (U+(k:Int)+1)=U+(k:Int)+1:=by simp[IntKind.wrap,IntKind.bits,IntKind.signed];omega
     have fG:IntKind.i64.wrap (O+(k:Int)+1)=O+(k:Int)+1:=by simp[IntKind.wrap,IntKind.bits,IntKind.signed];omega
     have dB:=LE bU
     have HK:Hid (∀W,Below (u2.heap.size+1) wr W->Row W w.heap.size (sJ (n:Int) S L T H F R U O (Y a X.length c))/\Row W u2.heap.size (sJ (n:Int) S L T H F R (U+(k:Int)) (O+(k:Int)) (Y I C.length G))/\W.cell? (Ki g8 k)=some (Ow pk)):=λW i=>⟨(E.low i d).r1,aW.below2 (N:=u2.heap.size+1) d i,(i.cell (p:=(Ki g8 k)) (by show g8<_;omega)).E ((aO.cell (p:=(Ki g8 k)) aU).E h)⟩
     clear bU bV h;go_upto_region 18 with fail;have h:=(@AB wr.heap.size wr).drew;refine AN (S:=λP=>Row P w.heap.size (sJ (n:Int) S L T H F R U O (Y a X.length c))/\Row P u2.heap.size (sJ (n:Int) S L T H F R (U+(k:Int)) (O+(k:Int)) (Y I C.length G))/\P.cell? (Ki g8 k)=some (Ow pk)) κ (HK.j _ (h.J aQ)) (λM=>?_);refine TY 0 (Y A k u) z M (TK 1 (Dr w.heap.size 1) z (b ⟨f,λw J=>by obtain⟨V,P,z2⟩:=J;have t:=V.lt;go_simp⟩) M (TK 2 (Z S) z (b ⟨f,λw J=>by obtain⟨V,P,z2⟩:=J;have c:=V.y 1;go_simp⟩) M (TK 3 (Dr w.heap.size 3) z (b ⟨f,λw J=>by obtain⟨V,P,z2⟩:=J;have t:=V.lt;go_simp⟩) M (TK 4 (Dr w.heap.size 4) z (b ⟨f,λw J=>by obtain⟨V,P,z2⟩:=J;have t:=V.lt;go_simp⟩) M (TK 5 (Z H) z (b ⟨f,λw J=>by obtain⟨V,P,z2⟩:=J;have c:=V.y 4;go_simp⟩) M (TK 7 (Dr u2.heap.size 7) z (b ⟨f,λw J=>by obtain⟨V,P,z2⟩:=J;have t:=P.lt;go_simp⟩) M (TK 8 (Z (U+(k:Int))) z (b ⟨f,λw J=>by obtain⟨V,P,z2⟩:=J;have c:=P.y 7;go_simp⟩) M (TY 10 (Y (Hw g8 0) K.length c8) z M (TY 11 (Z (k:Int)) z M (TY 12 (Dr g8 k) z M (TY 13 (Ow pk) z M ?_)))))))))))
     simp only[PS];refine RD 6 z (λKq q=>?_);refine LM f 162 #[Z S,Z H] l (HB.j _) ?_;rintro e wz ⟨rfl,J⟩;refine⟨_,z,?_⟩;rw[J];clear J wz;refine q.j _ _ M (λ_=>?_)
     try simp only[PS]
     refine TY 9 (Z (p+(U+(k:Int)))) z M ?_;simp only[PS];refine RD 14 z (λKq q=>?_);refine LM f 167 #[Z (p+(U+(k:Int))),Ow pk] l (pi _ _ _) ?_;rintro e J ⟨rfl,i⟩;refine⟨_,z,?_⟩;replace h:=h.E (i.J h.size);have cE:=LE ((MK aI h).alloc (.cells #[Q1 false,Z (p+(U+(k:Int))),Ow pk] 167));have cP:u2.heap.size+1<=J.heap.size:=AJ aQ h.size;clear i;refine q.j _ _ (HK.j _ (h.J aQ)) (λaN=>?_)
     try simp only[PS]
     refine RD 15 z (λKq q=>?_);go_simp;refine q.j _ _ (HK.j _ ((h.J aQ).alloc cP _)) (λdU=>?_)
     try simp only[PS]
     refine RD 16 z (λKq q=>?_);refine UG _ f _ _ _ f (u2.heap.size+1) underlying113 HI.j z d (Y A k u) k _ f cE.j (Ki J.heap.size 0) 1 1 [Q1 false,Z (p+(U+(k:Int))),Ow pk] f z (World.news_of_block (AV J _)) (ef _ _ _) ξ (J.heap.size+1) σ ?_;intro g9 dM w5 aG aE bG eG;have aX:=LE (((h.J aQ).alloc cP _).E (LK aE τ (λi hj=>(aI.lt i hj).1)));have cZ:=LE aG;clear aG aE bG;refine q.j _ _ (HK.j _ aX.j) (λbF=>?_)
     try simp only[PS]
     refine RD 17 z (λKq q=>?_);go_simp;refine q.j _ _ bF (λ_=>?_)
     try simp only[PS]
     refine DN ?_;have i:=(HK.j _ aX.j).2.1;have fO:=i.y 7;have fQ:=i.y 8;have eP:=i.A 7;have eQ:=i.A 8;have l5:=i.lt;have dF:=LE i;have cX:=LE aO;clear i aI aW aO h cE E D dC;go_wp2_with fail;have i:NE (p+U) (K.take (k+1))=NE (p+U) (K.take k)++[(false,p+(U+(k:Int)),pk)]:=by rw[ib K k ByteArray.empty aV,pM,<-dB.j,AZ,show min k K.length=k by omega,Int.add_assoc]
     refine⟨⟨k+1,d,ν,?_,?_,?_⟩,by simp[intOf];omega⟩
     .rw[show U+((k+1:Nat):Int)=U+(k:Int)+1 by omega,show O+((k+1:Nat):Int)=O+(k:Int)+1 by omega]
      exact(dF.j.set 7 σ (Z (U+(k:Int)+1))).set 8 σ (Z (O+(k:Int)+1))
     .rw[i,MA]
      exact oR cZ.j (λo h h2=>by rw[BM _ _ _ o (by show o≠u2.heap.size;omega),BM _ _ _ o (by show o≠u2.heap.size;omega)])
     exact((cX.j.E (aX.j.J d)).setCell (p:=(Ki u2.heap.size 7)) AA _).setCell (p:=(Ki u2.heap.size 8)) AA _
    have eE:k=K.length:=d
    subst eE;rw[DG]at aI;go_upto_region 21 with fail;refine AX ?_;refine BE z 44 _ z u2.heap.size 0 z _ _ aW.range underlying44 z QD ?_;simp only[PS];refine VD z (Y A K.length u) l ?_;simp only[PS];refine VD z (.agg (dK 0 (n:Int) S L T H F R (U+(K.length:Int)) (O+(K.length:Int)) (Y I C.length G) (Y A K.length u))) l ?_;simp only[PS];refine BV z 115 _ _ z (w.heap.size+1) 0 (dK 0 (n:Int) S L T H F R (U+(K.length:Int)) (O+(K.length:Int)) (Y I C.length G) (Y A K.length u)) z z (E.r2.there z) UH κ ?_
    try simp only[PS]
    have eJ:=TN (p+U) K;obtain⟨_,eH,bW⟩:=Np (os:=NE (p+U) K) (by rw[eJ];exact aI)
    have P:=λg k=>(bW g k).1
    obtain⟨i,J⟩:=E.fin ⟨0,(n:Int),S,L,T,H,F,R,U+(K.length:Int),O+(K.length:Int),C,NE (p+U) K⟩ I G A u eB ⟨D.q,eH,gy (N:=u2.heap.size) (λg k=>by have:=eM g k;omega) (λg k=>by have:=P g k;omega)⟩ (λg k=>by have:=hg g k;omega) (λg k=>by have:=P g k;omega);have h:=LE J;clear J;simp only[RU,TN]at i h;generalize J:World.setCells _ _ _ _=y at i h⊢;clear J E
    try go_wp2
    refine VY (D:=⟨0,(n:Int),S,L,T,H,F,R,U+(K.length:Int),O+(K.length:Int),C,NE (p+U) K⟩) 4 results118 (a:=I) (c:=G) (b:=A) (e:=u) _ ?_ (by simp only[RU,TN];exact i) ?_ h.j<;>rfl
 rotate_left
 all_goals
  go_upto_region 2 with fail;refine E.noR 1 _ _ z l z z z z (λy i h=>?_)
  try simp only[PS]
  clear E
  try go_wp2
  refine VY 4 results118 _ ?_ i ?_ h.j<;>rfl
