import Derived.Test.YtjdmogljfdffeaaGreatDoorPrG24
set_option maxHeartbeats 16000000
namespace Go.Proofs.YtjdmogljfdffeaaGreatDoor
open Tryz
open Go.RowKit
set_option linter.all false
variable {ws:List (Int×ByteArray)}{ss:List ByteArray}{X b base c cv g n:Nat}{w:World}
theorem If{P:Program}{q:Array Oper}{o:Oper}{a:Act}{K:Act->World->Prop}{Q:Exit->Act->World->Prop}{E:Prop}(C:o.guard=none)(s x:Operand)(t:TypeId)
  (G:o.op=.call { callee:=.builtin .append,args:=#[s,x],argTypes:=#[t,t] })
  (base:Nat)(e:TypeId)(i:TypeInfo)(z:Value)(f p:Nat)(r:P.underlying t=some (.slice e))(N:P.info? e=some i)(T:i.zero=some z)
  (y:i.size=f)(B:i.bytes=p)(I:z.cells.size=f)
  (b:Nat)(O:a.eval s=.slice (some ⟨b,0,none⟩) 0 0)
  (k:Addr)(n c:Nat)(d:List Value)(S:a.eval x=.slice (some k) n c)(l:d.length=n*f)(v:∀j u,d[j]?=some u->w.cell? (k.add j)=some u)(L:∀u∈d,u.oneCell'=true)
  (hm:0<n)(W:n<=1048576)(U:n*p<=140737488355328)(u:base<=w.heap.size)(H:Nat)(M:w.heap.size=H)
  (h:∀j m,m.ownsRow base e f (.slice (some ⟨H,0,none⟩) n j) n d->w.grownBy m none->K (a.put o.dst (.slice (some ⟨H,0,none⟩) n j)) m):if Region.wanted o (yielded q a.tmps)=true then Oper.wp P o a w K Q else E:=by
 have R:Region.wanted o (yielded q a.tmps)=true:=by simp[Region.wanted,C]
 rw[AF R];subst y B M;have A:Src P i.size t (.slice (some k) n c) n d w:=Src.ofSlice w r k n c d l v L;have j:(Builtin.firstCells i.size 0 (.slice (some ⟨b,0,none⟩) 0 0)).run P w.drew=.ok ([]:List Value).toArray w.drew:=GC w.drew i.size 0 _ 0 0 [] σ σ;have m:=run_append_grow_src (P:=P) w t t o.type e i z r N T (some ⟨b,0,none⟩) 0 0 [] j (.slice (some k) n c) n d A ω ω (by rw[BH,ul n ω];omega);unfold Oper.wp;simp[execOp,G,resolve,invoke,builtin,O,S,m,Result.andThen];have D:=JA w n 0 e;have F:=GY w n 0 e (by unfold maxLen;omega);refine h _ _ ⟨l,.inr ⟨w.heap.size,_,_,rfl,u,AW w.drew _,D,F,?_,?_⟩⟩ (RW none ((AC _ _).drew.alloc (Y _) _))
 ·simp[JY,l,I]
  rw[<-GD]
  congr 1
  omega
 simp[l]
structure SV(w:World)(base X g n c b cv:Nat)(ss:List ByteArray)(ws:List (Int×ByteArray)):Prop where
 rx:Row w X [.slice (some ⟨g,0,none⟩) n c,.slice (some ⟨b,0,none⟩) ws.length cv]
 rs:Row w g (ss.map Value.string)
 pd:(ws=[]/\cv=0)\/(w.ownsRow base 134 2 (.slice (some ⟨b,0,none⟩) ws.length cv) ws.length (MH ws)/\b≠X/\b≠g)
 xg:X≠g
 bx:base<=X
 bg:base<=g
theorem SV.z{d:World}(h:SV w base X g n c b cv ss ws)(a:Below w.heap.size w d):SV d base X g n c b cv ss ws :=⟨h.rx.z a,h.rs.z a,h.pd.imp id (λk=>⟨LR k.1 a,k.2⟩),h.xg,h.bx,h.bg⟩
theorem SV.own(h:SV w base X g n c b cv ss ws):OwnS w (some ⟨b,0,none⟩) (MH ws)/\(MH ws≠[]->b≠g/\b≠X/\base<=b):=by
 rcases h.pd with ⟨rfl,_⟩|⟨k,j,l⟩
 ·exact⟨.inl rfl,λe=>absurd rfl e⟩
 rcases MO k with ⟨e,q⟩|⟨p,d,e,f,_,i⟩
 ·cases e
 injection e with a m o
 injection a with a;injection a with a;subst a;exact⟨.inr ⟨b,rfl,i⟩,λ_=>⟨l,j,f⟩⟩
theorem SV.sync{a:World}{x:Nat}{d:List ByteArray}(h:SV w base X g n c b cv ss ws)(i:Row a g (d.map Value.string))(f:w.grownBy a (some g)):SV ((a.setCell ⟨X,0,none⟩ (.slice (some ⟨g,0,none⟩) n c)).setCell ⟨X,1,none⟩ (.slice (some ⟨x,0,none⟩) 0 0)) base X g n c x 0 d [] :=⟨((h.rx.I f (λe=>h.xg (by injection e))).set 0 σ _).set 1 σ _,(i.other _ h.xg _).other _ h.xg _,.inl ⟨rfl,rfl⟩,h.xg,h.bx,h.bg⟩
theorem SV.push{a:World}{g9 cap:Nat}{x:Int×ByteArray}{row:Option Nat}(h:SV w base X g n c b cv ss ws)(j:a.ownsRow base 134 2 (.slice (some ⟨g9,0,none⟩) (ws.length+1) cap) (ws.length+1) (MH ws++[.int .i64 x.1,.string x.2]))(d:w.grownBy a row)(p:row≠some X)(m:row≠some g)(i:g9≠X)(k:g9≠g):SV (a.setCell ⟨X,1,none⟩ (.slice (some ⟨g9,0,none⟩) (ws.length+1) cap)) base X g n c g9 cap ss (ws++[x]):=by
 have f:(ws++[x]).length=ws.length+1:=σ
 have l:MH (ws++[x])=MH ws++[.int .i64 x.1,.string x.2]:=by simp[MH]
 have o:=j.kept (w':=a.setCell ⟨X,1,none⟩ (.slice (some ⟨g9,0,none⟩) (ws.length+1) cap)) (row:=some X) (OG (BO _ _) _ _) (.inr (λe=>i (by injection e)));refine⟨?_,(h.rs.I d (λe=>m e.symm)).other _ h.xg _,.inr ⟨?_,i,k⟩,h.xg,h.bx,h.bg⟩
 ·rw[f];exact(h.rx.I d (λe=>p e.symm)).set 1 σ _
 rw[f,l];exact o
set_option maxRecDepth 100000 in
theorem Dx(a:Option Addr)(ss:List ByteArray)(c:Nat)(U:Option Addr)(ws:List (Int×ByteArray))(c':Nat)(f:Option Addr)(o:List (Bool×Int×ByteArray))(cf:Nat)(z:Int)(w:World)(h:Strs w a ss)(h':Wrs w U ws)(hz:Ops w f o)(gQ:o.length<=1048576)(fQ:∀x∈o,x.2.2.size<=1048576)(cV:LG ss ws=true):Calls prog 125 #[LE a ss.length c U ws.length c',.slice f o.length cf,.int .i64 z] w λe t=>∃F q M bE,e=.returned (LE F (LA (o.take (QC z o.length)) (ss,ws)).1.length q M (LA (o.take (QC z o.length)) (ss,ws)).2.length bE)/\OwnD t F (LA (o.take (QC z o.length)) (ss,ws)).1 M (LA (o.take (QC z o.length)) (ss,ws)).2/\(∀g,blk F (LA (o.take (QC z o.length)) (ss,ws)).1.length=some g->w.heap.size<=g)/\(∀g,blk M (LA (o.take (QC z o.length)) (ss,ws)).2.length=some g->w.heap.size<=g)/\Below w.heap.size w t:=by
 obtain⟨i0,d,i,j,k⟩:=XI pe;have O:=Z (AH d (AH i (AH j k)));clear d i j k;obtain⟨⟨fE,fF,fH⟩,eM,hw⟩:=PA cV
 have cL:∀d i,Below w.heap.size w ((w.alloc d).alloc i):=λd i=>(KW _ _).alloc σ _
 obtain⟨m,HM⟩:∃m,Hid (m=QC z o.length):=⟨_,Z rfl⟩;have gV:m<=o.length:=by rw[HM.l];exact qA _ _
 have fC:Hid (m=o.length\/((m:Int)<o.length/\¬(m:Int)<z)):=by show _\/_;rw[HM.l];unfold QC;omega
 have fB:Hid (∀k:Nat,k<m->(k:Int)<z):=λk N=>by rw[HM.l]at N;unfold QC at N;omega
 rw[<-HM.l];obtain⟨P,cF⟩:∃P,Hid (P=o.take m):=⟨_,Z rfl⟩;have bG:P.length=m:=by rw[cF.l];simp;omega
 rw[<-cF.l];obtain⟨aZ,aT⟩:∃aZ,Hid (aZ=LA P (ss,ws)):=⟨_,Z rfl⟩;rw[<-aT.l];go_enter func125,ntmps125;go_wp2_with fail;refine(WW a ss c U ws c' _ (h.z (cL _ _)) (h'.z (cL _ _)) ω ω (λs d=>by have:=eM s d;omega) (λx hx=>by have:=AU (hw x hx);omega)).A ?_;rw[cV];rintro e w1 ⟨rfl,i⟩;have j:=(cL _ _).j (i.A τ);obtain⟨B,p⟩:=ox i;have l:=(OI (w.alloc (.cells #[.slice a ss.length c,.slice U ws.length c'] 26)) #[.slice none 0 0,.slice none 0 0] 26 (w.heap.size+1) σ).z i;have D:=Z l;have d:=Z j;clear l i j;go_wp2_with fail;refine(qP a ss c U ws c' _ (h.z d.l) (h'.z d.l) fF fH).A ?_;rintro e r ⟨g,q,b,cv,rfl,j,y,E,A,i⟩;clear B p;have v:=Z (D.l.z i);have fS:w.heap.size+1<w1.heap.size:=D.l.lt;have eT:=y g (MS g 0 _ ω);have gJ:g<r.heap.size:=j.s.lt ss.length (λ_=>it ω) g (MS g 0 _ ω)
 have B:Row r g (ss.map Value.string):=by
  rcases j.s with p|⟨C,e,l⟩
  ·exact absurd p (it ω)
  injection e with e;injection e with e;rw[e];exact l
 have fT:=i.size
 have C:SV (r.alloc (.cells #[.slice (some ⟨g,0,none⟩) ss.length q,.slice (some ⟨b,0,none⟩) ws.length cv] 26)) (w.heap.size+1+1) r.heap.size g ss.length q b cv ss ws:=by
  refine⟨LU _ _ _,B.alloc _,?_,ω,ω,ω⟩;rcases A with k|k
  ·exact .inl k
  refine .inr ⟨(LR k.1 (MF _ _)).A ω,?_,?_⟩
  ·have:=(k.1.lt b rfl).2;omega
  intro e
  subst e;rcases j.ne with u|u|u
  ·rw[MS _ 0 _ ω]at u;cases u
  ·rw[MS _ 0 _ k.2]at u;cases u
  rw[MS _ 0 _ ω,MS _ 0 _ k.2]at u;exact u rfl
 have bJ:w.heap.size+1+1<=(r.alloc (.cells #[.slice (some ⟨g,0,none⟩) ss.length q,.slice (some ⟨b,0,none⟩) ws.length cv] 26)).heap.size:=τ
 have s:=Z C;have p:=Z (v.l.alloc (.cells #[.slice (some ⟨g,0,none⟩) ss.length q,.slice (some ⟨b,0,none⟩) ws.length cv] 26));have l:=Z (Below.then (Below.then d.l (Y _) i) (Y _) (MF r (.cells #[.slice (some ⟨g,0,none⟩) ss.length q,.slice (some ⟨b,0,none⟩) ws.length cv] 26)));have eL:=Z cV;clear C j y E A i d D v B;go_wp2;obtain⟨wq,d⟩:∃wq,wq=r.alloc (.cells #[.slice (some ⟨g,0,none⟩) ss.length q,.slice (some ⟨b,0,none⟩) ws.length cv] 26):=⟨_,rfl⟩;rw[<-d]at s p l bJ⊢;clear d;go_loopw [8] (λi wr=>∃(k:Nat) (d:List ByteArray×List (Int×ByteArray)) (b cv:Nat),k<=m/\i=.int .i64 k/\d.1.length=ss.length/\Hid (LG d.1 d.2=true)/\Hid (LA (P.drop k) d=aZ)/\Hid (SV wr (w.heap.size+1+1) r.heap.size g ss.length q b cv d.1 d.2)/\Hid (Row wr (w.heap.size+1) [.slice none 0 0,.slice none 0 0])/\Hid (Below w.heap.size w wr)/\w.heap.size+1+1<=wr.heap.size) (λi _=>m-(intOf i).toNat)
 case atStart =>
  exact⟨0,(ss,ws),b,cv,AO _,rfl,rfl,eL,by show _=_;rw[FJ,aT.l],s,p,l,bJ⟩
 case round =>
  clear s p l;obtain⟨k,d,b,cv,N,rfl,bW,dH,HK,i,D,I,cY⟩:=hrel;obtain⟨⟨gR,gS,gU⟩,eZ,fA⟩:=PA dH.l
  by_cases cT:k<m
  ·have eX:(k:Int)<z:=fB.l k cT
   have T:k<o.length:=ω
   obtain⟨s,v,R,l,j,rfl,gI,C,E,HS⟩:=(hz.z I.l).at T;have cU:(R,l,j)∈o:=by rw[HS.l];simp[List.getD,T]
   have fI:j.size<=1048576:=fQ _ cU
   have gW:s<w.heap.size:=by
    rcases hz with p|⟨A,B,u,y,_⟩
    ·rw[p]at T;simp at T
    injection u with u;injection u with u _;rw[u];exact y
   have L:Hid (LA (P.drop (k+1)) (RL d (R,l,j))=aZ):=by
    show _=_;have e:P.getD k (false,0,ByteArray.empty)=(R,l,j):=by rw[HS.l,cF.l];simp[List.getD,FR,cT]
    rw[<-HK.l,de P k (false,0,ByteArray.empty) (by rw[bG];exact cT),e,LA]
   have H:(RL d (R,l,j)).1.length=ss.length:=by rw[RM];exact bW
   have G:Hid (LG (RL d (R,l,j)).1 (RL d (R,l,j)).2=true):=UC d _ dH.l;have W:=i.l.rx.y 0;have x1:=i.l.rx.y 1;have gE:=i.l.rx.lt;have gH:=I.l.size
   cases R with
   | true =>
    rw[NF]at L H G;have y:=Z (rn g b d.1 q d.2 cv wr i.l.rs i.l.own.1 (λe=>(i.l.own.2 e).1) ω ω (λx hx=>(PH (fA x hx)).1));rw[bW]at y;obtain⟨fX,fY⟩:=i.l.rx.z2;go_wp2_with (go_at_call 160;refine y.l.A ?_;rintro e w4 ⟨x,rfl,gY,K,A,p⟩;have Q:=(i.l.rx.I p (λe=>i.l.xg (by injection e))).y 0;have S:=(i.l.rx.I p (λe=>i.l.xg (by injection e))).y 1;have y2:=(i.l.rx.I p (λe=>i.l.xg (by injection e))).E 0;have y3:=(i.l.rx.I p (λe=>i.l.xg (by injection e))).E 1;have y4:=(i.l.rx.I p (λe=>i.l.xg (by injection e))).lt);have B:=Z (i.l.sync (x:=x) A p);have u:=Z (((MR p cY (λk N=>by cases N;exact i.l.bg)).setCell (p:=⟨r.heap.size,0,none⟩) i.l.bx (.slice (some ⟨g,0,none⟩) ss.length q)).setCell (p:=⟨r.heap.size,1,none⟩) i.l.bx (.slice (some ⟨x,0,none⟩) 0 0))
    have gX:=u.l.size;clear A p Q S y2 y3 y4;go_roundw
    case rel =>
     exact⟨k+1,_,x,0,ω,ν,H,G,L,B,D.l.lowB u.l ω,I.l.j (u.l.A ω),ω⟩
    case measure =>
     simp[intOf];omega
   | false =>
    have bT:=Z (λt=>uY (some ⟨g,0,none⟩) ss.length q (some ⟨b,0,none⟩) d.2.length cv l j t fI ω)
    have S:Hid (∀t,Below wr.heap.size wr t->t.cell? ⟨r.heap.size,0,none⟩=some (.slice (some ⟨g,0,none⟩) ss.length q)/\t.cell? ⟨r.heap.size,1,none⟩=some (.slice (some ⟨b,0,none⟩) d.2.length cv)/\t.cell? ⟨s,v+k*3+1,none⟩=some (.int .i64 l)/\t.cell? ⟨s,v+k*3+2,none⟩=some (.string j)):=λt p=>⟨(i.l.z p).rx.y 0,(i.l.z p).rx.y 1,(p.cell (p:=⟨s,v+k*3+1,none⟩) (by show s<_;omega)).j C,(p.cell (p:=⟨s,v+k*3+2,none⟩) (by show s<_;omega)).j E⟩
    have gK:(0:Int)<=(k:Int):=ω
    have gL:(k:Int)<(o.length:Int):=ω
    cases hc:OP ss.length (l,j) with
    | false =>
     rw[RN d (l,j) (.inl (by rw[bW];exact hc))]at L H G;rw[hc]at bT;go_wp2_with fail;clear W x1 C E;refine AN (S:=λt=>t.cell? ⟨r.heap.size,0,none⟩=some (.slice (some ⟨g,0,none⟩) ss.length q)/\t.cell? ⟨r.heap.size,1,none⟩=some (.slice (some ⟨b,0,none⟩) d.2.length cv)/\t.cell? ⟨s,v+k*3+1,none⟩=some (.int .i64 l)/\t.cell? ⟨s,v+k*3+2,none⟩=some (.string j)) κ (S.l _ (AC _ _).drew) (λp=>?_);refine V 0 (.agg #[.slice (some ⟨g,0,none⟩) ss.length q,.slice (some ⟨b,0,none⟩) d.2.length cv]) rfl p (V 1 (.slice (some ⟨s,v,none⟩) o.length cf) rfl p (V 2 (.int .i64 (k:Int)) rfl p (V 3 (.pointer (some ⟨s,v+k*3,none⟩)) rfl p (V 4 (.pointer (some ⟨s,v+k*3+1,none⟩)) rfl p (V 5 (.int .i64 l) rfl p (V 6 (.slice (some ⟨s,v,none⟩) o.length cf) rfl p (V 7 (.int .i64 (k:Int)) rfl p (V 8 (.pointer (some ⟨s,v+k*3,none⟩)) rfl p (V 9 (.pointer (some ⟨s,v+k*3+2,none⟩)) rfl p (V 10 (.string j) rfl p ?_))))))))))
     simp only[J];refine RD 11 rfl (λK u=>?_);refine LC ρ 83 #[.agg #[.slice (some ⟨g,0,none⟩) ss.length q,.slice (some ⟨b,0,none⟩) d.2.length cv],.int .i64 l,.string j] γ (bT.l _) ?_;rintro e A ⟨rfl,Q⟩;refine⟨_,rfl,?_⟩;refine u.l _ _ (S.l _ ((AC _ _).drew.j Q)) (λB=>?_);clear u K
     try simp only[J]
     refine V 12 (.bool false) rfl B (TK 13 (undef) rfl (II ⟨κ,rfl⟩) B (TK 14 (undef) rfl (II ⟨κ,rfl⟩) B (TK 15 (undef) rfl (II ⟨κ,rfl⟩) B (TK 16 (undef) rfl (II ⟨κ,rfl⟩) B (V 17 (.bool false) rfl B ?_)))));simp only[J];refine DN ?_;have y:=Z ((AC wr.heap.size wr).drew.j Q);have fJ:=y.l.size;clear p Q;go_wp2;go_roundw
     case rel =>
      exact⟨k+1,_,b,cv,ω,ν,H,G,L,i.l.z y.l,D.l.z y.l,Below.then I.l (Y _) y.l,ω⟩
     case measure =>
      simp[intOf];omega
    | true =>
     rw[hc]at bT
     by_cases dV:d.2.length<300
     focus
      have cS:(d.2.length:Int)<300:=ω
      rw[OW d (l,j) (by rw[bW];exact hc) dV]at L H G
     rotate_left
     focus
      have cS:¬(d.2.length:Int)<300:=ω
      rw[RN d (l,j) (.inr dV)]at L H G
     rotate_left
     all_goals
      go_wp2_with fail;clear W x1 C E;refine AN (S:=λt=>t.cell? ⟨r.heap.size,0,none⟩=some (.slice (some ⟨g,0,none⟩) ss.length q)/\t.cell? ⟨r.heap.size,1,none⟩=some (.slice (some ⟨b,0,none⟩) d.2.length cv)/\t.cell? ⟨s,v+k*3+1,none⟩=some (.int .i64 l)/\t.cell? ⟨s,v+k*3+2,none⟩=some (.string j)) κ (S.l _ (AC _ _).drew) (λp=>?_);refine V 0 (.agg #[.slice (some ⟨g,0,none⟩) ss.length q,.slice (some ⟨b,0,none⟩) d.2.length cv]) rfl p (V 1 (.slice (some ⟨s,v,none⟩) o.length cf) rfl p (V 2 (.int .i64 (k:Int)) rfl p (V 3 (.pointer (some ⟨s,v+k*3,none⟩)) rfl p (V 4 (.pointer (some ⟨s,v+k*3+1,none⟩)) rfl p (V 5 (.int .i64 l) rfl p (V 6 (.slice (some ⟨s,v,none⟩) o.length cf) rfl p (V 7 (.int .i64 (k:Int)) rfl p (V 8 (.pointer (some ⟨s,v+k*3,none⟩)) rfl p (V 9 (.pointer (some ⟨s,v+k*3+2,none⟩)) rfl p (V 10 (.string j) rfl p ?_))))))))))
      simp only[J];refine RD 11 rfl (λK u=>?_);refine LC ρ 83 #[.agg #[.slice (some ⟨g,0,none⟩) ss.length q,.slice (some ⟨b,0,none⟩) d.2.length cv],.int .i64 l,.string j] γ (bT.l _) ?_;rintro e A ⟨rfl,Q⟩;refine⟨_,rfl,?_⟩;refine u.l _ _ (S.l _ ((AC _ _).drew.j Q)) (λB=>?_);clear u K
      try simp only[J]
      refine V 12 (.bool true) rfl B (V 13 (.pointer (some ⟨r.heap.size,1,none⟩)) rfl B (V 14 (.slice (some ⟨b,0,none⟩) d.2.length cv) rfl B (V 15 (.int .i64 (d.2.length:Int)) rfl B ?_)));simp only[J]
     focus
      refine V 16 (.bool true) rfl B (V 17 (.bool true) rfl B ?_)
     rotate_left
     focus
      refine V 16 (.bool false) rfl B (V 17 (.bool false) rfl B ?_)
     rotate_left
     all_goals
      simp only[J];refine DN ?_;have y:=Z ((AC wr.heap.size wr).drew.j Q);have fJ:=y.l.size
     ·have fE:=(S.l _ y.l).2.2.1
      have fG:=(S.l _ y.l).2.2.2;have eO:=(i.l.z y.l).rx.y 1;have fZ:=(i.l.z y.l).rx.E 1;have eP:=(i.l.z y.l).rx.lt;have eV:=(i.l.z y.l).rs.lt;clear p Q;go_wp2_with fail;have C:=Z ((i.l.z y.l).z (((AC A.heap.size A).drew).alloc (Y _) (.cells #[.int .i64 l,.string j] 134)));rcases C.l.pd with hE|hO
      ·have eN:Hid (d.2=[]/\cv=0):=hE
       obtain⟨t,eQ⟩:=eN.l;have eK:=Z t;have K:d.2.length=0:=by rw[t];rfl
       clear hE t;subst eQ;rw[K]at eO⊢
       go_region_law (first|(refine If ρ _ _ _ ρ (w.heap.size+1+1) 134 i0 _ 2 24 underlying24 O.l.1 O.l.2.1 O.l.2.2.1 O.l.2.2.2 κ b ρ ⟨A.heap.size,0,none⟩ 1 1 [.int .i64 l,.string j] ρ σ (World.news_of_block (AW A.drew (.cells #[.int .i64 l,.string j] 134))) (λu hu=>by simp at hu;rcases hu with rfl|rfl<;>rfl) ω ω ω τ (A.heap.size+1) σ ?_;intro t w5 W E;have q4:=(C.l.rx.I E σ).y 1;have q5:=(C.l.rx.I E σ).E 1;have q6:=(C.l.rx.I E σ).lt;have cC:=Z W;have aX:=Z E;clear W E))
       all_goals
        have W:Hid (SV (w5.setCell ⟨r.heap.size,1,none⟩ (.slice (some ⟨(A.heap.size+1),0,none⟩) 1 t)) (w.heap.size+1+1) r.heap.size g ss.length q (A.heap.size+1) t d.1 (d.2++[(l,j)])):=by
         have e:=C.l.push (g9:=(A.heap.size+1)) (cap:=t) (row:=none) (x:=(l,j)) (by rw[eK.l];exact cC.l) aX.l σ σ ω ω;rw[K]at e;exact e
        have E:Hid (Below (w.heap.size+1+1) wr w5):=(y.l.A cY).j ((((AC A.heap.size A).drew.alloc (Y _) (.cells #[.int .i64 l,.string j] 134)).A ω).j (MR aX.l τ (λk N=>by cases N)));have fO:=E.l.size;go_wp2;go_roundw
        case rel=>exact⟨k+1,(d.1,d.2++[(l,j)]),(A.heap.size+1),t,ω,ν,H,G,L,W,D.l.lowB (E.l.setCell (p:=⟨r.heap.size,1,none⟩) C.l.bx _) ω,I.l.j ((E.l.setCell (p:=⟨r.heap.size,1,none⟩) C.l.bx _).A ω),τ⟩
        case measure=>simp[intOf];omega
      have K:=Z hO
      clear hO
      go_region_law (first|(refine step_append_lies _ ρ _ _ _ ρ (w.heap.size+1+1) 134 i0 _ 2 24 underlying24 O.l.1 O.l.2.1 O.l.2.2.1 O.l.2.2.2 κ ω (.slice (some ⟨b,0,none⟩) d.2.length cv) d.2.length (MH d.2) ρ K.l.1 ⟨A.heap.size,0,none⟩ 1 1 [.int .i64 l,.string j] ρ σ (World.news_of_block (AW A.drew (.cells #[.int .i64 l,.string j] 134))) (λu hu=>by simp at hu;rcases hu with rfl|rfl<;>rfl) ω (by unfold maxLen;omega) ω τ (A.heap.size+1) σ ?_;intro g9 t w5 W E dQ eY;have q4:=(C.l.rx.I E (λe=>K.l.2.1 (by injection e with e;exact e.symm))).y 1;have q5:=(C.l.rx.I E (λe=>K.l.2.1 (by injection e with e;exact e.symm))).E 1;have q6:=(C.l.rx.I E (λe=>K.l.2.1 (by injection e with e;exact e.symm))).lt;have cC:=Z W;have aX:=Z E;have cZ:=Z dQ;clear W E dQ))
      all_goals
       have W:Hid (SV (w5.setCell ⟨r.heap.size,1,none⟩ (.slice (some ⟨g9,0,none⟩) (d.2.length+1) t)) (w.heap.size+1+1) r.heap.size g ss.length q g9 t d.1 (d.2++[(l,j)])):=by
        have e:=C.l.push (g9:=g9) (cap:=t) (row:=some b) (x:=(l,j)) cC.l aX.l (λe=>K.l.2.1 (by injection e)) (λe=>K.l.2.2 (by injection e)) (by have u:=cZ.l;have E:=K.l.2.1;simp[Value.ownBlock]at u;omega) (by have u:=cZ.l;have E:=K.l.2.2;simp[Value.ownBlock]at u;omega);exact e
       have E:Hid (Below (w.heap.size+1+1) wr w5):=(y.l.A cY).j ((((AC A.heap.size A).drew.alloc (Y _) (.cells #[.int .i64 l,.string j] 134)).A ω).j (MR aX.l τ (λk N=>(K.l.1.lt k N).1)));have fO:=E.l.size;go_wp2;go_roundw
       case rel=>exact⟨k+1,(d.1,d.2++[(l,j)]),g9,t,ω,ν,H,G,L,W,D.l.lowB (E.l.setCell (p:=⟨r.heap.size,1,none⟩) C.l.bx _) ω,I.l.j ((E.l.setCell (p:=⟨r.heap.size,1,none⟩) C.l.bx _).A ω),τ⟩
       case measure=>simp[intOf];omega
     clear p Q
     go_wp2;go_roundw
     case rel =>
      exact⟨k+1,_,b,cv,ω,ν,H,G,L,i.l.z y.l,D.l.z y.l,Below.then I.l (Y _) y.l,ω⟩
     case measure =>
      simp[intOf];omega
  have gM:k=m:=ω
  have A:Hid (d=aZ):=by
   have:=HK.l;rw[EI (by rw[bG];omega)]at this;exact this
  clear HK aT;obtain rfl:=A.l;have q0:=i.l.rx.y 0;have B:=i.l.rx.y 1;have E:=D.l.y 0;have G:=D.l.y 1;obtain⟨H,L⟩:=D.l.z2;have gN:=D.l.lt;have S:=I.l.size;have Q:=i.l.xg;have R:=i.l.bg
  have y:∃F bE M u,LE (some ⟨g,0,none⟩) ss.length q (some ⟨b,0,none⟩) d.2.length cv=LE F ss.length bE M d.2.length u/\OwnD ((wr.setCell ⟨w.heap.size+1,0,none⟩ (.slice (some ⟨g,0,none⟩) ss.length q)).setCell ⟨w.heap.size+1,1,none⟩ (.slice (some ⟨b,0,none⟩) d.2.length cv)) F d.1 M d.2/\(∀g,blk F ss.length=some g->w.heap.size<=g)/\(∀g,blk M d.2.length=some g->w.heap.size<=g):=by
   have t:=i.l.own;refine⟨_,_,_,_,rfl,⟨.inr ⟨g,rfl,(i.l.rs.other _ (by show w.heap.size+1≠g;omega) _).other _ (by show w.heap.size+1≠g;omega) _⟩,(t.1.setp _ (λv j s e=>?_) _).setp _ (λv j s e=>?_) _,?_⟩,λC l=>?_,λC l=>?_⟩
   ·have:=t.2 s;injection j with j;injection j with j;have p:w.heap.size+1=v:=e;omega
   ·have:=t.2 s;injection j with j;injection j with j;have p:w.heap.size+1=v:=e;omega
   ·by_cases p:d.2.length=0
    ·exact .inr (.inl (by simp[blk,p]))
    have s:MH d.2≠[]:=λe=>p (by have:=BY List.length e;rw[cw,AR]at this;omega)
    refine .inr (.inr (λe=>?_));rw[MS g 0 _ ω,MS b 0 _ p]at e;injection e with e;exact(t.2 s).1 e.symm
   ·have:=MS g 0 ss.length ω;rw[this]at l;injection l with l;omega
   by_cases p:d.2.length=0
   ·simp[blk,p]at l
   have s:MH d.2≠[]:=λe=>p (by have:=BY List.length e;rw[cw,AR]at this;omega)
   rw[MS b 0 _ p]at l;injection l with l;have:=(t.2 s).2.2;omega
  have W:=Z y;have t:=Z ((I.l.setCell (p:=⟨w.heap.size+1,0,none⟩) (by show w.heap.size<=w.heap.size+1;omega) (.slice (some ⟨g,0,none⟩) ss.length q)).setCell (p:=⟨w.heap.size+1,1,none⟩) (by show w.heap.size<=w.heap.size+1;omega) (.slice (some ⟨b,0,none⟩) d.2.length cv));clear y;rcases fC.l with hx|⟨hx,K⟩
  focus
   have T:¬(k:Int)<(o.length:Int):=ω
  rotate_left
  focus
   have T:(k:Int)<(o.length:Int):=ω
   have eX:¬(k:Int)<z:=ω
  rotate_left
  all_goals
   go_wp2;refine AI (v:=LE (some ⟨g,0,none⟩) ss.length q (some ⟨b,0,none⟩) d.2.length cv) (by simp[results,results125,go_sem,E,G]) rfl ?_;obtain⟨F,bE,M,u,l,p,j,s⟩:=W.l;exact⟨F,bE,M,⟨u,by rw[l]⟩,p,j,s,t.l⟩
theorem wQ(a:Option Addr)(ss:List ByteArray)(c:Nat)(d:Option Addr)(ws:List (Int×ByteArray))(k:Nat)(v z:Value)(w:World)(h:Strs w a ss)(q:Wrs w d ws)(r:ss.length<=1048576)(m:ws.length<=1048576)(t:∀s∈ss,s.size<=1048576)(p:∀x∈ws,x.2.size<=1048576)(o:LG ss ws=false):Calls prog 125 #[LE a ss.length c d ws.length k,v,z] w λe f=>e=.returned (LE none 0 0 none 0 0)/\Below w.heap.size w f:=by
 have i:∀f j,Below w.heap.size w ((w.alloc f).alloc j):=λf j=>(KW _ _).alloc σ _
 go_enter func125,ntmps125;go_wp2_with fail;refine(WW a ss c d ws k _ (h.z (i _ _)) (q.z (i _ _)) r m t p).A ?_;rw[o];rintro e A ⟨rfl,j⟩;have l:=Z ((i _ _).j (j.A τ));have f:=(OI (w.alloc (.cells #[.slice a ss.length c,.slice d ws.length k] 26)) #[.slice none 0 0,.slice none 0 0] 26 (w.heap.size+1) σ).z j;have s:=f.y 0;have u:=f.y 1;obtain⟨x,y⟩:=f.z2;clear f j;go_wp2;exact AI (v:=LE none 0 0 none 0 0) (by simp[results,results125,go_sem,s,u]) rfl ⟨rfl,(l.l.setCell (by show w.heap.size<=w.heap.size+1;omega) _).setCell (by show w.heap.size<=w.heap.size+1;omega) _⟩
theorem B7(a:Option Addr)(ss:List ByteArray)(c:Nat)(i:Option Addr)(ws:List (Int×ByteArray))(l:Nat)(f:Option Addr)(d:List (Bool×Int×ByteArray))(p:Nat)(z:Int)(w:World)(h:Strs w a ss)(q:Wrs w i ws)(C:Ops w f d)(t:d.length<=1048576)(v:∀x∈d,x.2.2.size<=1048576)(A:ss.length<=1048576)(r:ws.length<=1048576)(B:∀s∈ss,s.size<=1048576)(u:∀x∈ws,x.2.size<=1048576):Calls prog 125 #[LE a ss.length c i ws.length l,.slice f d.length p,.int .i64 z] w λe o=>∃j y k m,e=.returned (LE j (NG ss ws d z).1.length y k (NG ss ws d z).2.length m)/\OwnD o j (NG ss ws d z).1 k (NG ss ws d z).2/\(∀g,blk j (NG ss ws d z).1.length=some g->w.heap.size<=g)/\(∀g,blk k (NG ss ws d z).2.length=some g->w.heap.size<=g)/\Below w.heap.size w o:=by
 by_cases j:LG ss ws=true
 ·have k:NG ss ws d z=LA (d.take (QC z d.length)) (ss,ws):=by simp[NG,j]
  rw[k];exact Dx a ss c i ws l f d p z w h q C t v j
 have k:NG ss ws d z=([],[]):=by simp[NG,j]
 rw[k];refine(wQ a ss c i ws l _ _ w h q A r B u (by simpa using j)).A ?_;rintro e o ⟨rfl,s⟩;exact⟨none,0,none,0,rfl,⟨.inl rfl,.inl rfl,.inl rfl⟩,(λg m=>by cases m),(λg m=>by cases m),s⟩
