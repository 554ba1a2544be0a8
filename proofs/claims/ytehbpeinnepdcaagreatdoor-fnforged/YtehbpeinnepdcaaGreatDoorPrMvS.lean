import Derived.Test.YtehbpeinnepdcaaGreatDoorPrG51
set_option maxHeartbeats 16000000
namespace Go.Proofs.YtehbpeinnepdcaaGreatDoor
open Go.RowKit
set_option linter.unusedVariables false
set_option linter.unusedSimpArgs false
set_option maxRecDepth 8000
theorem vop:(Tryz.prog.info? 127).map (fun i=>(i.zero,i.size,i.bytes))=some (some (.agg #[.bool false,.int .i64 0,.string ByteArray.empty]),3,32):=by kernel_rfl
theorem yc0 (b1 b2 b3:Bool) (n1 n2 n3:Int) (s1 s2 s3:ByteArray):∀ u∈[Value.bool b1,.int .i64 n1,.string s1,.bool b2,.int .i64 n2,.string s2,.bool b3,.int .i64 n3,.string s3],u.oneCell'=true:=by
 intro u hu;simp only [List.mem_cons,List.not_mem_nil,or_false] at hu;rcases hu with rfl | rfl | rfl | rfl | rfl | rfl | rfl | rfl | rfl<;>rfl
theorem Qjv (n h:Int) (h0:0<=h) (h1:h<=1) (w:World):Calls Tryz.prog 96 #[.int .i64 n,.int .i64 h] w fun e w'=>e=.returned (.int .i64 (2+h*hv n))/\w'=w:=by
 have hQ:0<=hv n/\hv n<=99:=by by_cases h:8<=n/\n<=200;have:=QU8 h;omega;rw [JbE h];omega
 obtain ⟨Q,HQ⟩:∃ Q,Hid (Q=hv n):=⟨_,hid rfl⟩;rw [<-HQ.out] at hQ ⊢;obtain ⟨q,hq⟩:∃ q,q=h*Q:=⟨_,rfl⟩
 have aB:0<=q/\q<=99:=by
  rcases (show h=0\/h=1 by omega) with e | e
  ·subst e;omega
  ·subst e;omega
 have aC:IntKind.i64.wrap (h*Q)=q:=by rw [<-hq];simp [IntKind.wrap,IntKind.bits,IntKind.signed];omega
 have aD:IntKind.i64.wrap (2+q)=2+q:=by simp [IntKind.wrap,IntKind.bits,IntKind.signed];omega
 rw [<-hq];clear hq;go_enter Tryz.func96,Tryz.ntmps96;go_wp2_with (go_at_call 36;refine (QQj _ _).mono ?_;rw [<-HQ.out];rintro e wz ⟨rfl,aA⟩;rw [aA];clear aA wz);go_ret;exact ⟨rfl,rfl⟩
theorem qcD (n:Int) (d:ByteArray) (w:World):Calls Tryz.prog 95 #[.int .i64 n,.string d] w fun e w'=>e=.returned (.agg #[.bool false,.int .i64 n,.string d])/\Below w.heap.size w w':=by
 go_enter Tryz.func95,Tryz.ntmps95;go_wp2;refine bodyPost_ret (v:=.agg #[.bool false,.int .i64 n,.string d]) (by simp [results,Tryz.results95,go_sem]) rfl ⟨rfl,(Below.refl _ _).alloc (Nat.le_refl _) _⟩
theorem j63 (S L T H F R U O:Int) (n m:Nat) (a:Option Addr) (rs:List Pr) (c:Nat) (w:World) (h:Prs w a rs) (hl:rs.length<=1048576) (hs:∀ x∈rs,x.1.size<=1048576/\x.2.size<=1048576) (hm:n+m=56) (eZ:1<=n) (fA:n<=8) (iM:z5m (n:Int) S L T H F rs) (cL:T+1<=1000000000/\F+hv S<=999999000) :
  Calls Tryz.prog 109 #[QPD (n:Int) S L T H F R U O a rs.length c] w fun x w'=>vx0 w w' x (mvD (n:Int) S L T H F rs):=by
 obtain ⟨i0,eW,fH,fI,fJ⟩:=q5D vop;have HI:=hid (And.intro eW (And.intro fH (And.intro fI fJ)));clear eW fH fI fJ;obtain ⟨hW,hS,hL,hT,hH,hF,aT⟩:=iM;have hQ:=QU8 hS;have HH:=hid (fun w'=>QQj S w');have HB:=hid (fun w'=>Qjv S (1-H) (by omega) (by omega) w');unfold mvD QPD;have e1:(n:Int).toNat=n:=by omega
 have e2:56-n=m:=by omega
 rw [e1,e2];obtain ⟨Q,HQ⟩:∃ Q,Hid (Q=hv S):=⟨_,hid rfl⟩;rw [<-HQ.out] at hQ HH HB aT cL ⊢;obtain ⟨q,hq⟩:∃ q,q=2+(1-H)*Q:=⟨_,rfl⟩
 have j6:2<=q/\q<=101:=by
  rcases (show H=0\/H=1 by omega) with e | e
  ·subst e;omega
  ·subst e;omega
 rw [<-hq] at HB ⊢;clear hq e1 e2;obtain ⟨jY,jZ⟩:=cL;obtain ⟨aB,aW⟩:∃ aB,aB=ZZG rs:=⟨_,rfl⟩;have iC:=xwW rs
 have gD:Hid (∀ b∈aB,b.length<=1048576/\∀ x∈b,x.1.size<=1048576/\x.2.1.size<=1048576):=by
  intro b hb;rw [aW] at hb;obtain ⟨h1,h2⟩:=j2b hb;exact ⟨by omega,fun x hx=>hs _ (h2 x hx)⟩
 have dJ:=hid (fun w' h'=>kL5 a rs c w' h' hl hs);have cE:=hid (fun k=>XPX L (F+Q) n m hm eZ fA (aB.take k))
 have bC:Hid (∀ k,xee (aB.take k) (n:Int)<=Q-1):=fun k=>by
  have:=jhn aB k (n:Int);rw [<-aW] at aT;omega
 rw [<-aW] at iC dJ ⊢;clear aW aT;obtain ⟨rp,fE⟩:∃ rp,rp=QCt (T+1) (1-H) (F+Q) L (n:Int):=⟨_,rfl⟩;have eK:=hid (fun w'=>qAa (T+1) (1-H) (F+Q) L (n:Int) w');rw [<-fE] at eK ⊢;clear fE;obtain ⟨p0,eD⟩:∃ p0,p0=ZQp 3 L (F+Q) ByteArray.empty (n:Int):=⟨_,rfl⟩;have dH:=hid (fun w'=>x4N 3 L (F+Q) ByteArray.empty (n:Int) w' (by simp));rw [<-eD] at dH;have gH:=hid eD;clear eD;obtain ⟨wb,bJ⟩:∃ wb,wb=((w.alloc (.cells #[.int .i64 (n:Int),.int .i64 S,.int .i64 L,.int .i64 T,.int .i64 H,.int .i64 F,.int .i64 R,.int .i64 U,.int .i64 O,.slice a rs.length c] 33)).alloc (.cells #[.int .i64 0,.int .i64 0,.int .i64 0,.int .i64 0,.int .i64 0,.int .i64 0,.int .i64 0,.int .i64 0,.int .i64 0,.int .i64 0,.slice none 0 0,.slice none 0 0] 124)).alloc (.cells #[.int .i64 (T+1),.int .i64 (1-H),.int .i64 (F+Q),.int .i64 L] 28):=⟨_,rfl⟩;have cO:wb.heap.size=w.heap.size+1+1+1:=by rw [bJ];simp
 have dE:Hid (Below w.heap.size w wb):=by show Below _ _ _;rw [bJ];exact (((Below.refl _ _).alloc (Nat.le_refl _) _).alloc (by simp) _).alloc (by simp<;>omega) _
 have cF:Hid (∀ w',Below (w.heap.size+1+1+1) wb w'->Row w' (w.heap.size) [.int .i64 (n:Int),.int .i64 S,.int .i64 L,.int .i64 T,.int .i64 H,.int .i64 F,.int .i64 R,.int .i64 U,.int .i64 O,.slice a rs.length c]/\Row w' (w.heap.size+1) [.int .i64 0,.int .i64 0,.int .i64 0,.int .i64 0,.int .i64 0,.int .i64 0,.int .i64 0,.int .i64 0,.int .i64 0,.int .i64 0,.slice none 0 0,.slice none 0 0]/\Row w' (w.heap.size+1+1) [.int .i64 (T+1),.int .i64 (1-H),.int .i64 (F+Q),.int .i64 L]):=fun w' hb=>by
  have dO:Below wb.heap.size wb w':=by rw [cO];exact hb
  have r0:Row wb (w.heap.size) [.int .i64 (n:Int),.int .i64 S,.int .i64 L,.int .i64 T,.int .i64 H,.int .i64 F,.int .i64 R,.int .i64 U,.int .i64 O,.slice a rs.length c]:=by rw [bJ];exact ((xER w _ _).alloc _).alloc _
  have r1:Row wb (w.heap.size+1) [.int .i64 0,.int .i64 0,.int .i64 0,.int .i64 0,.int .i64 0,.int .i64 0,.int .i64 0,.int .i64 0,.int .i64 0,.int .i64 0,.slice none 0 0,.slice none 0 0]:=by rw [bJ];exact (j6Q (w:=w.alloc _) (by simp)).alloc _
  have r2:Row wb (w.heap.size+1+1) [.int .i64 (T+1),.int .i64 (1-H),.int .i64 (F+Q),.int .i64 L]:=by rw [bJ];exact j6Q (w:=(w.alloc _).alloc _) (by simp)
  exact ⟨r0.below dO,r1.below dO,r2.below dO⟩
 go_enter Tryz.func109,Tryz.ntmps109
 go_wp2_with (first | (go_at_call 36;refine (HH.out _).mono ?_;rintro e wz ⟨rfl,cP⟩;rw [cP];clear cP wz) | (go_at_call 96;refine (HB.out _).mono ?_;rintro e wz ⟨rfl,cP⟩;rw [cP];clear cP wz))
 rw [<-bJ];clear bJ;refine (dH.out _).mono ?_;rintro e w1 ⟨rfl,dQ⟩;go_wp2_with fail;refine (qcD _ _ _).mono ?_;rintro e w2 ⟨rfl,eO⟩;have aV:Below (w.heap.size+1+1+1) wb w2:=by rw [<-cO];exact dQ.trans (eO.mono dQ.size)
 have fF:w.heap.size+1+1+1<=w2.heap.size:=by have:=aV.size;omega
 clear dQ eO dH HH HB;have iN:w.heap.size<w2.heap.size:=by omega
 obtain ⟨aO,_,_⟩:=cF.out _ aV;have q9:=aO.cell 9 _ rfl;clear aO;go_wp2_with fail;clear q9;have dV:Below (w.heap.size+1+1+1) wb (w2.alloc (.cells #[.bool false,.int .i64 q,.string p0] 127)):=aV.alloc fF _;refine (dJ.out _ (h.below (dE.out.trans (dV.mono (by omega))))).mono ?_;rintro e w3 ⟨v,rfl,bW,cU⟩
 have bH:w3.ownsRow (w.heap.size+1+1+1) 127 3 (.slice (some ⟨w2.heap.size,0,none⟩) 1 1) 1 (JFP (qWl q (qMR L (F+Q) n m (aB.take 0)))):=by
  have h0:=World.ownsRow_lit w2 (base:=w.heap.size+1+1+1) (e:=127) (size:=3) #[.bool false,.int .i64 q,.string p0] 1 fF (by unfold maxLen;omega) (by simp);rw [List.take_zero,jp3,<-gH.out];have e0:JFP (qWl q [p0])=[.bool false,.int .i64 q,.string p0]:=by simp [qWl,JFP]
  rw [e0];exact jcb h0 cU
 have eL:=Grow.start bH;have eX:(qMR L (F+Q) n m (aB.take 0)).length=1:=by rw [List.take_zero,jp3];rfl
 have j7:w2.heap.size<w3.heap.size:=by have:=cU.size;simp at this;omega
 have cI:Below (w.heap.size+1+1+1) wb w3:=dV.trans (cU.mono (by simp;omega));have fW:Hid (Bat w3 (w2.heap.size+1) v aB):=bW.mono (by simp);obtain ⟨va,vc,rfl,_⟩:=bW.bts;clear bW cU dV aV bH dJ;have fV:=hid cI;have fY:=hid eL;clear cI eL;go_wp2_with fail;go_loopw [6,8,9] (fun y u i wr=>∃ k:Nat,k<=aB.length/\i=.int .i64 (k:Int)/\u=.int .i64 ((qMR L (F+Q) n m (aB.take k)).length:Int)/\Grow w3 wr (some w2.heap.size) (w.heap.size+1+1+1) 127 3 y (qMR L (F+Q) n m (aB.take k)).length (JFP (qWl q (qMR L (F+Q) n m (aB.take k))))) (fun _ _ i _=>aB.length-(intOf i).toNat)
 case atStart=>exact ⟨0,Nat.zero_le _,rfl,by rw [eX];rfl,by rw [eX];exact fY.out⟩
 case round =>
  obtain ⟨k,hk,rfl,rfl,bG⟩:=hrel;have b7:Below (w.heap.size+1+1+1) wb wr:=fV.out.trans (zRE bG.gb (by omega) (fun k hk=>by cases hk;omega));have b8:w.heap.size+1+1+1<=wr.heap.size:=by have:=b7.size;omega
  have hN:((qMR L (F+Q) n m (aB.take k)).length:Int)<=99:=by have h1:=cE.out k;have h2:=bC.out k;omega
  obtain ⟨aA,aN⟩:∃ aA,aA=qMR L (F+Q) n m (aB.take k):=⟨_,rfl⟩;rw [<-aN] at bG hN ⊢
  obtain ⟨ya,yc,rfl⟩:∃ ya yc,u6=Value.slice ya aA.length yc:=by
   rcases yUO bG.own with ⟨e1,e2⟩ | ⟨g,cap,e1,_⟩
   ·exact ⟨none,0,by rw [e1,e2]⟩
   ·exact ⟨_,cap,e1⟩
  obtain ⟨aO,bV,aQ⟩:=cF.out _ b7
  by_cases eB:k<aB.length
  ·have eP:=fW.out.kept bG.gb (fun k hk=>by cases hk;left;omega)
   obtain ⟨kY,kZ,ev,eR⟩:=eP.bts
   cases ev
   obtain ⟨gl,p,cc,rfl,iH,dZ,dY⟩:=eR.at eB;have iL:(k:Int)<(aB.length:Int):=by omega
   have j2:(0:Int)<=(k:Int):=by omega
   have aY:=gD.out (aB.getD k []) (by simp [List.getD,eB]);have iA:((qMR L (F+Q) n m (aB.take (k+1))).length:Int)<=99:=by have h1:=cE.out (k+1);have h2:=bC.out (k+1);omega
   have cC:qMR L (F+Q) n m (aB.take (k+1))=aA++zhI (jvj (aB.getD k [])) L (F+Q+(aA.length:Int)) n m:=by rw [QsK aB k [] eB,zpx,<-aN]
   have hO:=ks4 (aB.getD k []);obtain ⟨b,hb⟩:∃ b,b=aB.getD k []:=⟨_,rfl⟩;rw [<-hb] at dZ dY aY cC hO;have HF:=hid (fun W (hW:Chs W p b)=>Qqx p b cc W hW aY.1 aY.2);obtain ⟨bo,eQ⟩:∃ bo,bo=jvj b:=⟨_,rfl⟩;rw [<-eQ] at HF cC hO;have HC:=hid (fun W=>yBz bo L (F+Q+(aA.length:Int)) n m W (by omega) hm eZ fA);obtain ⟨aJ,hcut⟩:∃ aJ,aJ=zhI bo L (F+Q+(aA.length:Int)) n m:=⟨_,rfl⟩;rw [<-hcut] at HC cC;rw [cC,List.length_append] at iA;have gJ:=hid cC;have fS:=hid aN;have kA:IntKind.i64.wrap (F+Q+(aA.length:Int))=F+Q+(aA.length:Int):=by simp [IntKind.wrap,IntKind.bits,IntKind.signed];omega
   have HT:Hid (∀ w',Below wr.heap.size wr w'->w'.cell? ⟨gl,k,none⟩=some (.slice p b.length cc)/\w'.cell? ⟨w.heap.size,0,none⟩=some (.int .i64 (n:Int))/\w'.cell? ⟨w.heap.size,2,none⟩=some (.int .i64 L)/\w'.cell? ⟨w.heap.size+1+1,2,none⟩=some (.int .i64 (F+Q))/\Below wr.heap.size wr w'):=fun w' hb=>⟨(hb.cell (p:=⟨gl,k,none⟩) iH).trans dZ,(aO.below hb).cell 0 _ rfl,(aO.below hb).cell 2 _ rfl,(aQ.below hb).cell 2 _ rfl,hb⟩
   have eI:=hid dY;have aZ:=hid bG;have cQ:=hid b7;clear hb eQ hcut cC aN aY dY bG b7 aO bV aQ eP dZ eR;go_wp2_with fail;refine wp_region_held_drew (S:=fun w'=>w'.cell? ⟨gl,k,none⟩=some (.slice p b.length cc)/\w'.cell? ⟨w.heap.size,0,none⟩=some (.int .i64 (n:Int))/\w'.cell? ⟨w.heap.size,2,none⟩=some (.int .i64 L)/\w'.cell? ⟨w.heap.size+1+1,2,none⟩=some (.int .i64 (F+Q))/\Below wr.heap.size wr w') (by kernel_rfl) (HT.out _ (Below.refl _ _).drew) (fun aG=>?_);refine TY 0 (.slice (some ⟨gl,0,none⟩) aB.length vc) rfl aG (TY 1 (.int .i64 (k:Int)) rfl aG (TY 2 (.pointer (some ⟨gl,k,none⟩)) rfl aG (TY 3 (.slice p b.length cc) rfl aG (TY 5 (.pointer (some ⟨w.heap.size,2,none⟩)) rfl aG (TY 6 (.int .i64 L) rfl aG (TY 7 (.pointer (some ⟨w.heap.size+1+1,2,none⟩)) rfl aG (TY 8 (.int .i64 (F+Q)) rfl aG (TY 9 (.int .i64 (aA.length:Int)) rfl aG (TY 10 (.int .i64 (F+Q+(aA.length:Int))) rfl aG (TY 11 (.pointer (some ⟨w.heap.size,0,none⟩)) rfl aG (TY 12 (.int .i64 (n:Int)) rfl aG ?_)))))))))))
   simp only [PS];refine RD 4 rfl (fun K hK=>?_);refine XRf (by rfl) 67 #[.slice p b.length cc] (by go_simp) (HF.out _ (eI.out.below (Below.refl _ _).drew)) ?_;rintro e w4 ⟨rfl,cJ⟩;refine ⟨_,rfl,?_⟩;have aI:Below wr.heap.size wr w4:=(Below.refl _ _).drew.trans cJ;refine hK.out _ _ (HT.out _ aI) (fun bU=>?_);clear hK K
   try simp only [PS]
   refine RD 13 rfl (fun K hK=>?_);refine XRf (by rfl) 94 #[.string bo,.int .i64 L,.int .i64 (F+Q+(aA.length:Int)),.int .i64 (n:Int)] (by go_simp) (HC.out _) ?_;rintro e w5 ⟨a5,c5,rfl,fC,eS,cK⟩;refine ⟨_,rfl,?_⟩;have aF:Below wr.heap.size wr w5:=aI.trans (cK.mono aI.size);refine hK.out _ _ (HT.out _ aF) (fun aU=>?_);clear hK K
   try simp only [PS]
   refine RD 14 rfl (fun K hK=>?_);go_simp;refine hK.out _ _ aU (fun _=>?_);clear hK K
   try simp only [PS]
   refine DN ?_;have eH:=hid aF;have gF:=hid fC
   have eT:∀ g,blk a5 aJ.length=some g->wr.heap.size<=g:=fun g hg=>Nat.le_trans aI.size (eS g hg)
   have fX:=hid eT;have cV:=aF.size;clear aF cK fC eS aI cJ eT HT HF HC eI aG bU aU;generalize wr=wo at *;go_wp2_with fail;go_loopw [6,8,11] (fun y2 u2 i2 wr=>∃ j:Nat,j<=aJ.length/\i2=.int .i64 (j:Int)/\u2=.int .i64 ((aA++aJ.take j).length:Int)/\Grow w5 wr (Value.slice ya aA.length yc).ownBlock (w.heap.size+1+1+1) 127 3 y2 (aA++aJ.take j).length (JFP (qWl q (aA++aJ.take j)))) (fun _ _ i2 _=>aJ.length-(intOf i2).toNat)
   case atStart=>exact ⟨0,Nat.zero_le _,rfl,by simp,by rw [List.take_zero,List.append_nil];exact Grow.start (jcb aZ.out.own eH.out)⟩
   case round =>
    obtain ⟨j,hj,rfl,rfl,aL⟩:=hrel;have eN:(aA++aJ.take j).length=aA.length+j:=by rw [List.length_append,List.length_take];omega
    obtain ⟨aC,aK⟩:∃ aC,aC=aA++aJ.take j:=⟨_,rfl⟩;rw [<-aK] at aL eN ⊢
    obtain ⟨fO,fQ,rfl⟩:∃ fO fQ,u6=Value.slice fO aC.length fQ:=by
     rcases yUO aL.own with ⟨e1,e2⟩ | ⟨g,cap,e1,_⟩
     ·exact ⟨none,0,by rw [e1,e2]⟩
     ·exact ⟨_,cap,e1⟩
    have eG:wo.heap.size<=wr.heap.size:=Nat.le_trans cV aL.gb.size
    by_cases aX:j<aJ.length
    ·obtain ⟨g5,rfl,bI⟩:=gF.out.resolve_left (by intro e;have:=congrArg List.length e;simp at this;rw [this] at aX;simp at aX)
     have j0:wo.heap.size<=g5:=fX.out g5 (qdd _ _ _ (by omega));have bZ:=bI.grown aL.gb (fun e=>by have:=(aZ.out.own.lt g5 e.symm).2;omega);have iE:=bZ.cell j (.string (aJ.getD j ByteArray.empty)) (by simp [aX,List.getD]);obtain ⟨pj,eF⟩:∃ pj,pj=aJ.getD j ByteArray.empty:=⟨_,rfl⟩;rw [<-eF] at iE;have iF:=bZ.lt;have eY:(j:Int)<(aJ.length:Int):=by omega
     have j1:(0:Int)<=(j:Int):=by omega
     have kC:IntKind.i64.wrap (q+(aC.length:Int))=q+(aC.length:Int):=by simp [IntKind.wrap,IntKind.bits,IntKind.signed];omega
     have kD:IntKind.i64.wrap ((aC.length:Int)+1)=(aC.length:Int)+1:=by simp [IntKind.wrap,IntKind.bits,IntKind.signed];omega
     have cS:=hid aL;have cW:=hid aK;have gI:=hid eF;have jX:aC.length<=200:=by omega
     clear bZ bI aL aK eF eN
     go_wp2_with (first | (go_at_call 95;refine (qcD _ _ _).mono ?_;rintro e w6 ⟨rfl,dR⟩;have cT:=hid ((jcb cS.out.own dR).alloc (.cells #[.bool false,.int .i64 (q+(aC.length:Int)),.string pj] 127));have j8:w.heap.size+1+1+1<=w6.heap.size:=Nat.le_trans (Nat.le_trans b8 eG) dR.size) | (at_builtin;refine WAL _ rfl _ _ 122 rfl (w.heap.size+1+1+1) Tryz.underlying122 HI.out rfl (by omega) _ aC.length _ rfl cT.out ⟨w6.heap.size,0,none⟩ 1 1 [.bool false,.int .i64 (q+(aC.length:Int)),.string pj] rfl rfl (World.news_of_block (heap_alloc_new w6 _)) (JEq _ _ _) (by simp;omega) (w6.heap.size+1) (by simp) ?_;intro g9 bQ w9 aM aD aR eC;have gG:=hid aM;have fZ:=hid aD;have fU:=hid aR;clear aM aD aR))
     have fG:aA++aJ.take (j+1)=aC++[pj]:=by rw [QsK aJ j ByteArray.empty aX,<-List.append_assoc,<-cW.out,<-gI.out]
     refine ⟨⟨j+1,by omega,by go_num,by rw [fG,List.length_append];go_num,?_⟩,by simp [intOf];omega⟩;rw [fG,yzD,xfH,List.length_append];refine ((cS.out.below dR).below ((Below.refl _ _).alloc (Nat.le_refl _) _)).push (H:=w6.heap.size+1) gG.out fZ.out ?_ (by simp);rcases fU.out with h | h
     ·exact .inl h
     ·right;rw [h];rfl
    ·have iI:j=aJ.length:=by omega
     subst iI;have cS:=hid aL;have cW:=hid aK;clear aL aK;go_wp2_with fail;have he:aC=qMR L (F+Q) n m (aB.take (k+1)):=by rw [cW.out,gJ.out,List.take_length]
     refine ⟨⟨k+1,by omega,by go_num,by rw [<-he],?_⟩,by simp [intOf];omega⟩;rw [<-he];exact (aZ.out.below eH.out).trans cS.out
  ·have iJ:k=aB.length:=by omega
   subst iJ;have he:aA=qMR L (F+Q) n m aB:=by rw [aN,List.take_length]
   clear aN;have fT:=hid he;have aZ:=hid bG;have cQ:=hid b7
   have HT:Hid (∀ w',Below (w.heap.size+1+1+1) wr w'->w'.cell? ⟨w.heap.size,0,none⟩=some (.int .i64 (n:Int))/\w'.cell? ⟨w.heap.size+1+1,0,none⟩=some (.int .i64 (T+1))/\w'.cell? ⟨w.heap.size+1+1,1,none⟩=some (.int .i64 (1-H))/\w'.cell? ⟨w.heap.size+1+1,2,none⟩=some (.int .i64 (F+Q))/\w'.cell? ⟨w.heap.size+1+1,3,none⟩=some (.int .i64 L)):=fun w' hb=>by
    obtain ⟨aO,bV,aQ⟩:=cF.out _ (cQ.out.trans hb);exact ⟨aO.cell 0 _ rfl,aQ.cell 0 _ rfl,aQ.cell 1 _ rfl,aQ.cell 2 _ rfl,aQ.cell 3 _ rfl⟩
   have j9:(T+1).tmod 2=(T+1) % 2:=Int.tmod_eq_emod_of_nonneg (by omega);clear bG b7 he aO bV aQ;go_wp2_with fail;refine wp_region_held_drew (S:=fun w'=>w'.cell? ⟨w.heap.size,0,none⟩=some (.int .i64 (n:Int))/\w'.cell? ⟨w.heap.size+1+1,0,none⟩=some (.int .i64 (T+1))/\w'.cell? ⟨w.heap.size+1+1,1,none⟩=some (.int .i64 (1-H))/\w'.cell? ⟨w.heap.size+1+1,2,none⟩=some (.int .i64 (F+Q))/\w'.cell? ⟨w.heap.size+1+1,3,none⟩=some (.int .i64 L)) (by kernel_rfl) (HT.out _ (Below.refl _ _).drew) (fun aG=>?_);refine TY 0 (.slice ya aA.length yc) rfl aG (TY 1 (.agg #[.bool true,.int .i64 0,.string ⟨#[]⟩]) rfl aG (TY 2 (.pointer (some ⟨w.heap.size+1+1,0,none⟩)) rfl aG (TY 3 (.int .i64 (T+1)) rfl aG (TY 4 (.int .i64 ((T+1) % 2)) rfl aG (TY 5 (.agg #[.int .i64 (T+1),.int .i64 (1-H),.int .i64 (F+Q),.int .i64 L]) rfl aG (TY 6 (.pointer (some ⟨w.heap.size,0,none⟩)) rfl aG (TY 7 (.int .i64 (n:Int)) rfl aG (TY 10 (.agg #[.bool true,.int .i64 0,.string ⟨#[]⟩]) rfl aG ?_))))))))
   simp only [PS];refine RD 8 rfl (fun K hK=>?_);refine XRf (by rfl) 116 #[yDp (T+1) (1-H) (F+Q) L,.int .i64 (n:Int)] (by go_simp) (eK.out _) ?_;rintro e w4 ⟨rfl,cJ⟩;refine ⟨_,rfl,?_⟩;have aI:Below wr.heap.size wr w4:=(Below.refl _ _).drew.trans cJ;refine hK.out _ _ (HT.out _ (aI.mono b8)) (fun bU=>?_);clear hK K
   try simp only [PS]
   refine RD 9 rfl (fun K hK=>?_);refine XRf (by rfl) 95 #[.int .i64 ((T+1) % 2),.string rp] (by go_simp) (qcD _ _ _) ?_;rintro e w5 ⟨rfl,cK⟩;refine ⟨_,rfl,?_⟩;have aF:Below wr.heap.size wr w5:=aI.trans (cK.mono aI.size);have cV:w.heap.size+1+1+1<=w5.heap.size:=Nat.le_trans b8 aF.size;have cT:=hid ((jcb aZ.out.own aF).alloc (.cells #[.bool true,.int .i64 0,.string ⟨#[]⟩,.bool false,.int .i64 ((T+1) % 2),.string rp,.bool true,.int .i64 0,.string ⟨#[]⟩] 127));refine hK.out _ _ (HT.out _ (aF.mono b8)) (fun aU=>?_);clear hK K
   try simp only [PS]
   refine RD 11 rfl (fun K hK=>?_);go_simp;refine hK.out _ _ (HT.out _ ((aF.mono b8).alloc cV _)) (fun dN=>?_);clear hK K
   try simp only [PS]
   refine RD 12 rfl (fun K hK=>?_);refine SAL _ (by rfl) _ _ _ (by rfl) (w.heap.size+1+1+1) Tryz.underlying122 HI.out rfl (by omega) (.slice ya aA.length yc) aA.length _ (by rfl) cT.out ⟨w5.heap.size,0,none⟩ 3 3 [.bool true,.int .i64 0,.string ⟨#[]⟩,.bool false,.int .i64 ((T+1) % 2),.string rp,.bool true,.int .i64 0,.string ⟨#[]⟩] (by rfl) rfl (World.news_of_block (heap_alloc_new w5 _)) (yc0 _ _ _ _ _ _ _ _ _) (by simp<;>omega) (w5.heap.size+1) (by simp) ?_;intro g9 bQ w9 aM aD aR eC;have eM:=((aZ.out.below aF).below ((Below.refl _ _).alloc (Nat.le_refl _) _)).push (H:=w5.heap.size+1) aM aD (by rcases aR with h | h;exact .inl h;right;rw [h];rfl) (by simp);have dU:Below (w.heap.size+1+1+1) wr w9:=((aF.mono b8).alloc cV _).trans (zRE aD (by simp;omega) (fun k hk=>(aZ.out.own.lt k hk).1));have eJ:=hid eM;have cZ:=hid (cQ.out.trans dU);clear aM aD aR eM;refine hK.out _ _ (HT.out _ dU) (fun cH=>?_);clear hK K
   try simp only [PS]
   refine RD 13 rfl (fun K hK=>?_);go_simp;refine hK.out _ _ cH (fun _=>?_);clear hK K
   try simp only [PS]
   refine DN ?_;clear dU aF cK aI cJ aG bU aU dN cH cT aZ cQ HT;obtain ⟨aO,bV,aQ⟩:=cF.out _ cZ.out;obtain ⟨iP,iQ,iR,iS,iT,iU,iV,iW,iX,iY⟩:=aO.k10;obtain ⟨c10,iZ,c12,i3,i4,i5,c16,i6,i7,i8,gL,gM⟩:=bV.k12;obtain ⟨jD,jE,jF,jG,jH,jI,jJ,jK,jL,jM,gY,gZ⟩:=bV.z12;obtain ⟨i9,jA,jB,jC⟩:=aQ.k4;have iO:w.heap.size+1+1+1<=w9.heap.size:=by have:=cZ.out.size;omega
   have j3:w.heap.size<w9.heap.size:=by omega
   have j4:w.heap.size+1<w9.heap.size:=by omega
   have j5:w.heap.size+1+1<w9.heap.size:=by omega
   clear aO bV aQ;have dK:=hid (cZ.out.alloc iO (.cells #[.int .i64 (n:Int),.int .i64 S,.int .i64 L,.int .i64 (T+1),.int .i64 (1-H),.int .i64 (F+Q),.int .i64 L,.int .i64 (aA.length:Int),.int .i64 0,.slice a rs.length c] 33))
   go_wp2_with (first | (go_at_call 69;refine (Znr a rs c _ (h.below (dE.out.trans (dK.out.mono (by omega)))) hl).mono ?_;rintro x aP ⟨a3,c3,rfl,iD,fB,eU,aS⟩;have aH:=(xER w9 #[.int .i64 (n:Int),.int .i64 S,.int .i64 L,.int .i64 (T+1),.int .i64 (1-H),.int .i64 (F+Q),.int .i64 L,.int .i64 (aA.length:Int),.int .i64 0,.slice a rs.length c] 33).below aS;have aE:=(cF.out _ (dK.out.trans (aS.mono (by simp;omega)))).2.1;have kE:aP.cell? ⟨w9.heap.size,0,none⟩=some (.int .i64 (n:Int)):=aH.cell 0 _ rfl;have kO:=aH.froz 0 (by simp);have kF:aP.cell? ⟨w9.heap.size,1,none⟩=some (.int .i64 S):=aH.cell 1 _ rfl;have kP:=aH.froz 1 (by simp);have kG:aP.cell? ⟨w9.heap.size,2,none⟩=some (.int .i64 L):=aH.cell 2 _ rfl;have kQ:=aH.froz 2 (by simp);have kH:aP.cell? ⟨w9.heap.size,3,none⟩=some (.int .i64 (T+1)):=aH.cell 3 _ rfl;have kR:=aH.froz 3 (by simp);have kI:aP.cell? ⟨w9.heap.size,4,none⟩=some (.int .i64 (1-H)):=aH.cell 4 _ rfl;have kS:=aH.froz 4 (by simp);have kJ:aP.cell? ⟨w9.heap.size,5,none⟩=some (.int .i64 (F+Q)):=aH.cell 5 _ rfl;have kT:=aH.froz 5 (by simp);have kK:aP.cell? ⟨w9.heap.size,6,none⟩=some (.int .i64 L):=aH.cell 6 _ rfl;have kU:=aH.froz 6 (by simp);have kL:aP.cell? ⟨w9.heap.size,7,none⟩=some (.int .i64 (aA.length:Int)):=aH.cell 7 _ rfl;have kV:=aH.froz 7 (by simp);have kM:aP.cell? ⟨w9.heap.size,8,none⟩=some (.int .i64 0):=aH.cell 8 _ rfl;have kW:=aH.froz 8 (by simp);have kN:aP.cell? ⟨w9.heap.size,9,none⟩=some (.slice a rs.length c):=aH.cell 9 _ rfl;have kX:=aH.froz 9 (by simp);have gN:=aE.cell 0 _ rfl;have jN:=aE.froz 0 (by simp);have gO:=aE.cell 1 _ rfl;have jO:=aE.froz 1 (by simp);have gP:=aE.cell 2 _ rfl;have jP:=aE.froz 2 (by simp);have gQ:=aE.cell 3 _ rfl;have jQ:=aE.froz 3 (by simp);have gR:=aE.cell 4 _ rfl;have jR:=aE.froz 4 (by simp);have gS:=aE.cell 5 _ rfl;have jS:=aE.froz 5 (by simp);have gU:=aE.cell 6 _ rfl;have jT:=aE.froz 6 (by simp);have gV:=aE.cell 7 _ rfl;have jU:=aE.froz 7 (by simp);have gW:=aE.cell 8 _ rfl;have jV:=aE.froz 8 (by simp);have gX:=aE.cell 9 _ rfl;have jW:=aE.froz 9 (by simp);have dL:=aE.cell 10 _ rfl;have g6:=aE.froz 10 (by simp);have dM:=aE.cell 11 _ rfl;have hI:=aE.froz 11 (by simp);have gE:=hid fB;have dI:=hid eU;have iK:w9.heap.size<aP.heap.size:=aH.lt;have cY:=hid (dK.out.trans (aS.mono (by simp;omega)));have gK:=hid aS;clear aH aE fB eU aS))
   have iG:=eJ.out.own.lt g9 rfl
   have eV:∀ g,a3=some ⟨g,0,none⟩->qJS rs≠[]->w9.heap.size<g:=fun g hg cM=>by have:=dI.out g (by subst hg;exact qdd _ _ _ (Xnn cM));simp at this;omega
   have iB:XKU a3 rs.length (some ⟨g9,0,none⟩) (aA.length+3):=by
    cases hb:blk a3 rs.length with
    | none=>exact .inl hb
    | some g =>
     have:=dI.out g hb;simp at this;refine .inr (.inr fun e=>?_);rw [hb,qdd _ _ _ (by omega)] at e
     cases e
     omega
   have cN:Row aP g9 (JFP (qWl q aA++[(true,0,ByteArray.empty),(false,(T+1) % 2,rp),(true,0,ByteArray.empty)])):=by
    rw [xfH];exact (kX5 eJ.out.own).below ((Below.refl _ _).alloc (Nat.le_refl _) _ |>.trans (gK.out.mono (by simp)))
   rw [<-fT.out];have bY:(qWl q aA++[(true,0,ByteArray.empty),(false,(T+1) % 2,rp),(true,0,ByteArray.empty)]).length=aA.length+3:=by simp [xp9]
   refine bodyPost_ret (v:=dnV ⟨0,(n:Int),S,L,T+1,1-H,F+Q,L,(aA.length:Int),0,rs,qWl q aA++[(true,0,ByteArray.empty),(false,(T+1) % 2,rp),(true,0,ByteArray.empty)]⟩ a3 c3 (some ⟨g9,0,none⟩) bQ) (by simp [results,Tryz.results109,go_sem,dnV,bY,xp9,gN,gO,gP,gQ,gR,gS,gU,gV,gW,gX,dL,dM]) rfl ⟨a3,c3,_,bQ,rfl,iD,⟨?_,?_,?_⟩,?_,?_,?_⟩
   ·iterate 12 (refine OwnS.set' ?_ _ (fun g hg cM=>by have:=eV g hg cM;show w.heap.size+1≠g;omega) _)
    exact OwnS.set' gE.out _ (fun g hg cM=>by have:=eV g hg cM;show w9.heap.size≠g;omega) _
   ·refine .inr ⟨g9,rfl,?_⟩
    iterate 12 (refine Row.other ?_ _ (by show w.heap.size+1≠g9;omega) _)
    exact cN.other _ (by show w9.heap.size≠g9;omega) _
   ·show XKU _ _ _ (qWl q aA++_).length
    rw [bY];exact iB
   ·exact fun g hg=>by have:=dI.out g hg;simp at this;omega
   ·exact fun g hg=>by change blk _ (qWl q aA++_).length=_ at hg;rw [bY,qdd _ _ _ (by omega)] at hg;cases hg;omega
   ·iterate 12 (refine Below.setCell ?_ (by show w.heap.size<=w.heap.size+1;omega) _)
    exact (dE.out.trans (cY.out.mono (by omega))).setCell (p:=⟨w9.heap.size,9,none⟩) (by show w.heap.size<=w9.heap.size;omega) _
theorem yPV (W S L T H F R U O:Int) (a:Option Addr) (rs:List Pr) (c:Nat) (w:World) (h:Prs w a rs) (hl:rs.length<=1048576) (hs:∀ x∈rs,x.1.size<=1048576/\x.2.size<=1048576) (aB:z5m W S L T H F rs) :
  Calls Tryz.prog 109 #[QPD W S L T H F R U O a rs.length c] w fun x w'=>vx0 w w' x (kGX W S L T H F rs):=by
 unfold kGX j5U
 by_cases aA:T+1<=1000000000/\F+hv S<=999999000
 case pos =>
  rw [decide_eq_true aA];simp only [if_true];obtain ⟨hW,_⟩:=id aB;obtain ⟨n,rfl⟩:∃ n:Nat,W=(n:Int):=⟨W.toNat,by omega⟩;exact j63 S L T H F R U O n (56-n) a rs c w h hl hs (by omega) (by omega) (by omega) aB aA
 case neg =>
  rw [decide_eq_false aA];simp only [Bool.false_eq_true,if_false];obtain ⟨hW,hS,hL,hT,hH,hF,_⟩:=aB;have hQ:=QU8 hS;have HH:=hid (fun w'=>QQj S w');unfold QPD;obtain ⟨Q,HQ⟩:∃ Q,Hid (Q=hv S):=⟨_,hid rfl⟩;rw [<-HQ.out] at hQ HH aA;clear h hl hs;go_enter Tryz.func109,Tryz.ntmps109
  go_wp2_with (first | (go_at_call 36;refine (HH.out _).mono ?_;rintro e wz ⟨rfl,aC⟩;rw [aC];clear aC wz))
  all_goals
   refine bodyPost_ret (v:=dnV (noD 4) none 0 none 0) (by simp [results,Tryz.results109,go_sem,dnV,noD]) rfl (qJx rfl ?_);exact (((Below.refl _ _).alloc (Nat.le_refl _) _).alloc (by simp) _).alloc (by simp<;>omega) _
end Go.Proofs.YtehbpeinnepdcaaGreatDoor
