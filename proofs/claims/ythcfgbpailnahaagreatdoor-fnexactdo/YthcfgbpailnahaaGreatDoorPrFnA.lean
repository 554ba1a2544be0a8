import Derived.Test.YthcfgbpailnahaaGreatDoorPrG40
set_option maxHeartbeats 40000000
namespace Go.Proofs.YthcfgbpailnahaaGreatDoor
open _root_.ByteArray(empty)
open Tryz
open Go.RowKit
set_option maxRecDepth 4000
set_option linter.all false
set_option maxHeartbeats 4000000
theorem Dy(p:ByteArray)(h:p.size=5):((p.data.toList.getD 0 0).toNat:Int)=QK p/\MR (LF (p.extract 1 5))=PZ p/\0<=QK p/\QK p<=255/\0<=PZ p/\PZ p<=4294967295:=by
 have hl:(LF p).length=5:=by rw[ML,h]
 have hd:p.data.toList.length=5:=h;have rg:=an p;have b1:=WV 1 ((LF p).take 1) (by simp;omega) (λy hy=>rg y (DQ hy));have b2:=WV 4 (((LF p).drop 1).take 4) (by simp;omega) (λy hy=>rg y (EW (DQ hy)));refine⟨?_,?_,b1.1,by have:=b1.2;unfold QK;omega,b2.1,by have:=b2.2;unfold PZ;omega⟩
 ·unfold QK LF
  rw[<-ID];have e:=GG (l:=p.data.toList) (i:=0) (by omega);rw[DY]at e;rw[e];simp only[JY,FE,FD,IU,ub];rfl
 unfold PZ
 rw[da,AT (by omega)];rw[AT (l:=(LF p).drop 1) (by simp;omega)]
theorem pD(s:ByteArray)(a n:Int)(w:World)(k l m:Int)(p:ByteArray)(b:Bool)(HS:∀wx,Calls prog 198 #[.string s,.int .i64 n] wx λe w'=>e=.returned (.tuple #[NH k l m p,.bool b])/\Below wx.heap.size wx w')(aH:p.size<=64)(aD:b=false\/p.size≠5)(aE:Hid (NC s a n=none)):Calls prog 197 #[.string s,.int .i64 a,.int .i64 n] w λe w'=>(∃t h f l b,e=.returned (.tuple #[MV t h f l,.bool b])/\NC s a n=if b=true then some (t,h,f,l) else none)/\Below w.heap.size w w':=by
 have aF:∀o,Below w.heap.size w (w.alloc o):=λo=>(AB _ _).alloc (AA _) _
 cases b
 focus
  focus
  rotate_left
 rotate_left
 focus
  focus
   have aG:((p.size:Int) != 5)=true:=by
    have h:=aD.resolve_left (by simp);simp;omega
  rotate_left
 rotate_left
 all_goals
  clear aD;go_enter func197,ntmps197;go_wp2_with (go_at_call 198;refine(HS _).i ?_;rintro e w2 ⟨rfl,aB⟩;have aA:=LQ ((B4.new w (.int .i64 0) (.int .i64 0) (.int .i64 0) (.int .i64 0) _).I aB);have aC:=LQ ((aF _).j (aB.i (by simp)));clear aB;have c0:=λo=>(aA.o.alloc o).c0;have c1:=λo=>(aA.o.alloc o).c1;have c2:=λo=>(aA.o.alloc o).c2;have c3:=λo=>(aA.o.alloc o).c3;have f0:=λo=>(aA.o.alloc o).f0;have f1:=λo=>(aA.o.alloc o).f1;have f2:=λo=>(aA.o.alloc o).f2;have f3:=λo=>(aA.o.alloc o).f3);refine AJ (v:=.tuple #[MV 0 0 0 0,.bool false]) (by simp[results,results197,go_sem,c0,c1,c2,c3]) rfl ⟨⟨0,0,0,0,false,rfl,by rw[aE.o];rfl⟩,?_⟩;exact((((aC.o.alloc aC.o.size _).setCell (AA _) _).setCell (AA _) _).setCell (AA _) _).setCell (AA _) _
theorem xM(s:ByteArray)(a n:Int)(w:World)(k l m:Int)(p:ByteArray)(hR:MX s n=some (k,l,m,p))(HS:∀wx,Calls prog 198 #[.string s,.int .i64 n] wx λe w'=>e=.returned (.tuple #[NH k l m p,.bool true])/\Below wx.heap.size wx w')(h5:p.size=5):Calls prog 197 #[.string s,.int .i64 a,.int .i64 n] w λe w'=>(∃t h f l b,e=.returned (.tuple #[MV t h f l,.bool b])/\NC s a n=if b=true then some (t,h,f,l) else none)/\Below w.heap.size w w':=by
 have bP:∀o,Below w.heap.size w (w.alloc o):=λo=>(AB _ _).alloc (AA _) _
 obtain⟨_,_,b7,cA,bV,bW,cB⟩:=SR hR
 have aN:Hid (NC s a n=if ON m (QK p) (PZ p) l n=s/\m % 2=a then some (m,QK p,PZ p,l) else none):=by
  show _=_;unfold NC;rw[hR];simp[h5]
 clear hR;obtain⟨e0,e1,g0,g1,g2,g3⟩:=Dy p h5;have gb:=jd p 0 (by omega);obtain⟨H,hH⟩:∃H:Nat,H=(p.data.toList.getD 0 0).toNat:=⟨_,rfl⟩;rw[<-hH]at e0 gb;rw[<-e0]at g0 g1;obtain⟨F,HF⟩:∃F,Hid (F=PZ p):=⟨_,LQ rfl⟩;rw[<-HF.o]at g2 g3 aN e1;rw[<-e0]at aN;have bT:(p.size:Int)=5:=by omega
 have z1:(p.extract 1 5).size<=4:=by simp only[AW];omega
 have bU:IntKind.i64.wrap (H:Int)=(H:Int):=by simp[IntKind.wrap,IntKind.bits,IntKind.signed];omega
 have h0:0<p.size:=by omega
 obtain⟨FM,bC⟩:∃FM,Hid (FM=ON m (H:Int) F l n):=⟨_,LQ rfl⟩;rw[<-bC.o]at aN
 have aO:=λwx=>nH m (H:Int) F l n wx
 rw[<-bC.o]at aO;have E1:=LQ e1;clear hH e1 e0 HF;go_enter func197,ntmps197;go_wp2_with (go_at_call 198;refine(HS _).i ?_;rintro e w2 ⟨rfl,aW⟩;have aF:=LQ ((B4.new w (.int .i64 0) (.int .i64 0) (.int .i64 0) (.int .i64 0) _).I aW);have aM:=LQ ((bP _).j (aW.i (by simp)));clear aW;have c0:=λo=>(aF.o.alloc o).c0;have c1:=λo=>(aF.o.alloc o).c1;have c2:=λo=>(aF.o.alloc o).c2;have c3:=λo=>(aF.o.alloc o).c3;have f0:=λo=>(aF.o.alloc o).f0;have f1:=λo=>(aF.o.alloc o).f1;have f2:=λo=>(aF.o.alloc o).f2;have f3:=λo=>(aF.o.alloc o).f3);have aS:=(B4.new w2 (.int .i64 k) (.int .i64 l) (.int .i64 m) (.string p) 204);have aY:=aF.o.alloc (.cells #[.int .i64 k,.int .i64 l,.int .i64 m,.string p] 204);have aX:=aM.o.alloc aM.o.size (.cells #[.int .i64 k,.int .i64 l,.int .i64 m,.string p] 204);have aR:w.heap.size<w2.heap.size:=aF.o.lt;obtain⟨wp,aV⟩:∃wp,wp=w2.alloc (.cells #[.int .i64 k,.int .i64 l,.int .i64 m,.string p] 204):=⟨_,rfl⟩
 have bI:wp.heap.size=w2.heap.size+1:=by rw[aV];simp
 rw[<-aV]at aS aY aX⊢;clear c0 c1 c2 c3 f0 f1 f2 f3 aV aF aM
 have HT:Hid (∀w',Below wp.heap.size wp w'->w'.cell? ⟨w2.heap.size,1,none⟩=some (.int .i64 l)/\w'.cell? ⟨w2.heap.size,2,none⟩=some (.int .i64 m)/\w'.cell? ⟨w2.heap.size,3,none⟩=some (.string p)/\Below wp.heap.size wp w'):=λw' hb=>⟨(aS.I hb).c1,(aS.I hb).c2,(aS.I hb).c3,hb⟩
 have bE:=LQ aY;have aM:=LQ aX;clear aY aX aS;refine(λHG:Wr ?G=>?main) ⟨?pf⟩
 case main =>
  go_region_held3 (λw'=>w'.cell? ⟨w2.heap.size,1,none⟩=some (.int .i64 l)/\w'.cell? ⟨w2.heap.size,2,none⟩=some (.int .i64 m)/\w'.cell? ⟨w2.heap.size,3,none⟩=some (.string p)/\Below wp.heap.size wp w')
   (first|assumption|exact HT.o _ ((AB _ _).drew)|exact HT.o _ (((AB _ _).drew).alloc (AA _) _)|exact HT.o _ (((AB _ _).alloc (AA _) _).drew)|exact HT.o _ ((AB _ _).alloc (AA _) _))
   (first|(go_at_call 229;refine(kh (p.extract 1 5) F _ z1 E1.o.symm).i ?_;rintro e w6 ⟨rfl,rfl⟩))
  all_goals exact HG.o
 have aB:=(B4.new wp (.int .i64 m) (.int .i64 (H:Int)) (.int .i64 F) (.int .i64 l) 45).drew;have aT:Below wp.heap.size wp (wp.alloc (.cells #[.int .i64 m,.int .i64 (H:Int),.int .i64 F,.int .i64 l] 45)).drew:=((AB _ _).alloc (AA _) _).drew;have aZ:(wp.alloc (.cells #[.int .i64 m,.int .i64 (H:Int),.int .i64 F,.int .i64 l] 45)).drew.heap.size=w2.heap.size+2:=by simp[bI]
 obtain⟨wq,bF⟩:∃wq,wq=(wp.alloc (.cells #[.int .i64 m,.int .i64 (H:Int),.int .i64 F,.int .i64 l] 45)).drew:=⟨_,rfl⟩;rw[bI]at aB;rw[<-bF]at aB aT aZ⊢;clear bF HT;have aH:=LQ (bE.o.I aT);have aE:=LQ (aM.o.j (aT.i (by have:=aM.o.size;omega)));clear aT bE aM
 have HT:Hid (∀w',Below wq.heap.size wq w'->w'.cell? ⟨w2.heap.size+1,0,none⟩=some (.int .i64 m)/\w'.cell? ⟨w2.heap.size+1,1,none⟩=some (.int .i64 (H:Int))/\w'.cell? ⟨w2.heap.size+1,2,none⟩=some (.int .i64 F)/\w'.cell? ⟨w2.heap.size+1,3,none⟩=some (.int .i64 l)/\Below wq.heap.size wq w'):=λw' hb=>⟨(aB.I hb).c0,(aB.I hb).c1,(aB.I hb).c2,(aB.I hb).c3,hb⟩
 have bJ:=LQ aB;have q0:=aB.c0;have q1:=aB.c1;have q2:=aB.c2;have q3:=aB.c3;clear aB;have aJ:¬(w.heap.size=w2.heap.size+1):=by have:=aR;omega
 have bQ:¬(w2.heap.size+1=w.heap.size):=by have:=aR;omega
 have aI:=aH.o;have c0:=aI.c0;have c1:=aI.c1;have c2:=aI.c2;have c3:=aI.c3;have f0:=aI.f0;have f1:=aI.f1;have f2:=aI.f2;have f3:=aI.f3;clear aI
 by_cases aK:FM=s
 ·by_cases ha:m % 2=a
  ·have ht:m.tmod 2=a:=by rw[GC (by omega)];exact ha
   have aG:Hid (NC s a n=some (m,(H:Int),F,l)):=by show _=_;rw[aN.o,AK ⟨aK,ha⟩]
   have aU:=LQ aK;clear aK;rw[aU.o]at aO;go_wp2_with fail
   go_region_law (first|(refine LK (by rfl) 201 #[MV m (H:Int) F l,.int .i64 n] (by go_simp) (aO _) ?_;rintro e w7 ⟨rfl,aD⟩;refine⟨_,rfl,?_⟩;obtain⟨r0,r1,r2,r3,_⟩:=HT.o _ (((AB _ _).drew).j aD);have aA:=aH.o.drew.I aD;have aP:=LQ (aE.o.drew.j (aD.i aE.o.drew.size));clear aD;have c0:=aA.c0;have c1:=aA.c1;have c2:=aA.c2;have c3:=aA.c3;have f0:=aA.f0;have f1:=aA.f1;have f2:=aA.f2;have f3:=aA.f3;clear aA))
   all_goals go_wp2
   all_goals refine AJ (v:=.tuple #[MV m (H:Int) F l,.bool true]) (by simp[results,results197,go_sem,c0,c1,c2,c3,r0,r1,r2,r3,ht]) rfl ⟨⟨m,(H:Int),F,l,true,rfl,by rw[aG.o];rfl⟩,?_⟩
   all_goals exact(((aP.o.setCell (AA _) _).setCell (AA _) _).setCell (AA _) _).setCell (AA _) _
  have ht:¬m.tmod 2=a:=by rw[GC (by omega)];exact ha
  have aG:Hid (NC s a n=none):=by show _=_;rw[aN.o,AE (λh=>ha h.2)]
  have aU:=LQ aK;clear aK;rw[aU.o]at aO;go_wp2_with fail
  go_region_law (first|(refine LK (by rfl) 201 #[MV m (H:Int) F l,.int .i64 n] (by go_simp) (aO _) ?_;rintro e w7 ⟨rfl,aD⟩;refine⟨_,rfl,?_⟩;obtain⟨r0,r1,r2,r3,_⟩:=HT.o _ (((AB _ _).drew).j aD);have aA:=aH.o.drew.I aD;have aP:=LQ (aE.o.drew.j (aD.i aE.o.drew.size));clear aD;have c0:=aA.c0;have c1:=aA.c1;have c2:=aA.c2;have c3:=aA.c3;have f0:=aA.f0;have f1:=aA.f1;have f2:=aA.f2;have f3:=aA.f3;clear aA))
  all_goals go_wp2
  all_goals refine AJ (v:=.tuple #[MV m (H:Int) F l,.bool false]) (by simp[results,results197,go_sem,c0,c1,c2,c3,r0,r1,r2,r3,ht]) rfl ⟨⟨m,(H:Int),F,l,false,rfl,by rw[aG.o];rfl⟩,?_⟩
  all_goals exact(((aP.o.setCell (AA _) _).setCell (AA _) _).setCell (AA _) _).setCell (AA _) _
 have aG:Hid (NC s a n=none):=by show _=_;rw[aN.o,AE (λh=>aK h.1)]
 have hG:(FM.toList == s.toList)=false:=by simp only[EP];intro hh;rw[DF,DF]at hh;exact aK (FA (JC hh))
 clear aK;clear c0 c1 c2 c3 f0 f1 f2 f3;go_wp2_with fail;refine AP (S:=λw'=>w'.cell? ⟨w2.heap.size+1,0,none⟩=some (.int .i64 m)/\w'.cell? ⟨w2.heap.size+1,1,none⟩=some (.int .i64 (H:Int))/\w'.cell? ⟨w2.heap.size+1,2,none⟩=some (.int .i64 F)/\w'.cell? ⟨w2.heap.size+1,3,none⟩=some (.int .i64 l)) (by kernel_rfl) ⟨q0,q1,q2,q3⟩ (λaC=>?_);refine TY 0 (MV m (H:Int) F l) rfl aC ?_;simp only[Act.put,BM,CZ,CI];refine TY 1 (MV m (H:Int) F l) rfl aC ?_;simp only[Act.put,BM,CZ,CI];refine TY 2 (.int .i64 n) rfl aC ?_;simp only[Act.put,BM,CZ,CI];refine TY 4 (.string s) rfl aC ?_;simp only[Act.put,BM,CZ,CI];refine RD 3 rfl (λK hK=>?_);refine LK (by rfl) 201 #[MV m (H:Int) F l,.int .i64 n] (by go_simp) (aO _) ?_
 rintro e w7 ⟨rfl,aD⟩;refine⟨_,rfl,?_⟩;have aA:=aH.o.drew.I aD;have aL:=bJ.o.drew.I aD;have aP:=LQ (aE.o.drew.j (aD.i aE.o.drew.size));clear aD;refine hK.o _ _ ⟨aL.c0,aL.c1,aL.c2,aL.c3⟩ (λ_=>?_);clear hK K aC;rename_i aC;simp only[Act.put,BM,CZ,CI];refine TY 5 (.bool false) rfl aC ?_;simp only[Act.put,BM,CZ,CI];refine TY 6 (.bool false) rfl aC ?_;simp only[Act.put,BM,CZ,CI];refine TK 7 (undef) rfl (IQ ⟨by kernel_rfl,rfl⟩) aC ?_;simp only[Act.put,BM,CZ,CI];refine TK 8 (undef) rfl (IQ ⟨by kernel_rfl,rfl⟩) aC ?_;simp only[Act.put,BM,CZ,CI];refine TK 9 (undef) rfl (IQ ⟨by kernel_rfl,rfl⟩) aC ?_
 simp only[Act.put,BM,CZ,CI];refine TK 10 (undef) rfl (IQ ⟨by kernel_rfl,rfl⟩) aC ?_;simp only[Act.put,BM,CZ,CI];refine TK 11 (undef) rfl (IQ ⟨by kernel_rfl,rfl⟩) aC ?_;simp only[Act.put,BM,CZ,CI];refine TY 12 (.bool false) rfl aC ?_;simp only[Act.put,BM,CZ,CI];refine RD 13 rfl (λK hK=>?_);rw[AK (by kernel_rfl)];have c0:=aA.c0;have c1:=aA.c1;have c2:=aA.c2;have c3:=aA.c3;have f0:=aA.f0;have f1:=aA.f1;have f2:=aA.f2;have f3:=aA.f3;unfold Oper.wp;go_simp
 have aQ:∀i,((((w7.setCell ⟨w.heap.size,0,none⟩ (.int .i64 m)).setCell ⟨w.heap.size,1,none⟩ (.int .i64 (H:Int))).setCell ⟨w.heap.size,2,none⟩ (.int .i64 F)).setCell ⟨w.heap.size,3,none⟩ (.int .i64 l)).cell? ⟨w2.heap.size+1,i,none⟩=w7.cell? ⟨w2.heap.size+1,i,none⟩:=λi=>by
  rw[DE _ _ _ _ aJ,DE _ _ _ _ aJ,DE _ _ _ _ aJ,DE _ _ _ _ aJ]
 refine hK.o _ _ ⟨(aQ _).j aL.c0,(aQ _).j aL.c1,(aQ _).j aL.c2,(aQ _).j aL.c3⟩ (λ_=>?_);clear hK K aC aQ;rename_i aC;refine TY 14 (.bool false) rfl aC ?_;simp only[Act.put,List.getElem_toArray,List.getElem_cons_succ,List.getElem_cons_zero,BM,CZ,CI];refine DN ?_;go_wp2;refine AJ (v:=.tuple #[MV m (H:Int) F l,.bool false]) (by simp[results,results197,go_sem,c0,c1,c2,c3]) rfl ⟨⟨m,(H:Int),F,l,false,rfl,by rw[aG.o];rfl⟩,?_⟩;exact(((aP.o.setCell (AA _) _).setCell (AA _) _).setCell (AA _) _).setCell (AA _) _
theorem Hs(s:ByteArray)(a n:Int)(w:World)(hs:s.size<=1048576):Calls prog 197 #[.string s,.int .i64 a,.int .i64 n] w λe w'=>(∃t h f l b,e=.returned (.tuple #[MV t h f l,.bool b])/\NC s a n=if b=true then some (t,h,f,l) else none)/\Below w.heap.size w w':=by
 have HS:=λwx=>zg s n wx hs
 cases hR:MX s n with
 | none =>
  rw[hR]at HS;exact pD s a n w 0 0 0 ⟨#[]⟩ false HS (by decide) (.inl rfl) (by show _=_;unfold NC;rw[hR])
 | some x =>
  obtain⟨k,l,m,p⟩:=x;rw[hR]at HS
  by_cases h5:p.size=5
  ·exact xM s a n w k l m p hR HS h5
  exact pD s a n w k l m p true HS (SR hR).2.2.2.2.2.2 (.inr h5) (by show _=_;unfold NC;rw[hR];simp[h5])
theorem B4.set4{w:World}{B:Nat}{v0 v1 v2 v3:Value}(h:B4 w B v0 v1 v2 v3)(u0 u1 u2 u3:Value):B4 ((((w.setCell ⟨B,0,none⟩ u0).setCell ⟨B,1,none⟩ u1).setCell ⟨B,2,none⟩ u2).setCell ⟨B,3,none⟩ u3) B u0 u1 u2 u3:=by
 have c0:=h.c0;have c1:=h.c1;have c2:=h.c2;have c3:=h.c3;refine⟨by simp only[AV];exact h.lt,?_,?_,?_,?_,?_,?_,?_,?_⟩
 ·go_simp
 ·go_simp
 ·go_simp
 ·go_simp
 ·simp only[BL];exact h.f0
 ·simp only[BL];exact h.f1
 ·simp only[BL];exact h.f2
 simp only[BL];exact h.f3
def MS(ss:List ByteArray)(ws:List (Int×ByteArray))(n:Int):RtT:=if LS ss ws=true/\1<=n/\n<=8 then bj ((NY ws ss).getD 0 empty) ((NY ws ss).getD 1 empty) n else MJ
@[reducible] def nt(x:RtT):Value:=MV x.1 x.2.1 x.2.2.1 x.2.2.2
theorem mh:∀(ws:List (Int×ByteArray)) (ss:List ByteArray),(∀s∈ss,s.size<=1048576)->(∀x∈ws,x.2.size<=1048576)->∀k,((NY ws ss).getD k empty).size<=1048576
 | [],ss,h,_,k=>by
  show(ss.getD k empty).size<=_
  by_cases hk:k<ss.length
  ·have e:ss.getD k empty=ss[k]:=by simp[List.getD,hk]
   rw[e];exact h _ (KV hk)
  have e:ss.getD k empty=empty:=by simp[List.getD,hk]
  rw[e];decide
 | x::r,ss,h,h',k=>mh r _ (λs hs=>by
   rcases EI hs with h3|h3
   ·exact h s h3
   ·rw[h3];exact h' x (DZ ..)) (λy hy=>h' y (BQ _ hy)) k
theorem Cl(a:Option Addr)(ss:List ByteArray)(c:Nat)(a':Option Addr)(ws:List (Int×ByteArray))(c':Nat)(n:Int)(w:World)(h:Strs w a ss)(h':Wrs w a' ws)(hl:ss.length<=1048576)(dB:ws.length<=1048576)(hs:∀s∈ss,s.size<=1048576)(cJ:∀x∈ws,x.2.size<=1048576)(bI:LS ss ws=true)(hn:1<=n/\n<=8):Calls prog 149 #[LN a ss.length c a' ws.length c',.int .i64 n] w λe w'=>e=.returned (nt (MS ss ws n))/\Below w.heap.size w w':=by
 have aZ:∀o1 o2,Below w.heap.size w ((w.alloc o1).alloc o2):=λo1 o2=>((AB _ _).alloc (AA _) _).alloc (by simp) _
 have hd:decide (1<=n/\n<=8)=true:=AO hn;obtain⟨aF,aI⟩:∃aF,Hid (aF=MS ss ws n):=⟨_,LE rfl⟩;rw[<-aI.o];obtain⟨⟨dQ,cC,cE⟩,dN,hw⟩:=OZ bI;go_enter func149,ntmps149;go_wp2_with fail;refine(UT a ss c a' ws c' _ (h.I (aZ _ _)) (h'.I (aZ _ _)) hl dB hs cJ).i ?_;rw[bI];rintro e w1 ⟨rfl,aM⟩;have HX:=LE ((((Cx.new w (.slice a ss.length c) (.slice a' ws.length c') 44)).I (MB _ (.cells #[.int .i64 0,.int .i64 0,.int .i64 0,.int .i64 0] 45))).I aM);have aU:=LE ((B4.new (w.alloc (.cells #[.slice a ss.length c,.slice a' ws.length c'] 44)) (.int .i64 0) (.int .i64 0) (.int .i64 0) (.int .i64 0) 45).I aM);have aG:=LE ((aZ (.cells #[.slice a ss.length c,.slice a' ws.length c'] 44) (.cells #[.int .i64 0,.int .i64 0,.int .i64 0,.int .i64 0] 45)).j (aM.i (by simp<;>omega)));clear aM;have q0:=HX.o.c0;have q1:=HX.o.c1
 go_wp2_with (first|(go_at_call 57;refine(PV _ _).i ?_;rw[hd];rintro e wz ⟨rfl,cL⟩;rw[cL];clear cL wz))
 refine(gk a ss c a' ws c' _ (h.I aG.o) (h'.I aG.o) cC cE).i ?_;rintro e w2 ⟨g,c1,g',cS,rfl,aP,hg,cU,aN⟩;have aQ:=LE (Below.then aG.o (AA _) aN);have bU:=LE (aU.o.I aN);have bP:=aN.size;have aE:ss.length≠0:=by omega
 have cA:w1.heap.size<=g:=hg g (by unfold blk;rw[AE aE];rfl)
 have cI:Row w2 g (ss.map Value.string):=by
  rcases aP.s with e|⟨b,e,hr⟩
  ·exact absurd (BT List.length e) (by rw[BJ,AR];omega)
  cases e;exact hr
 have cF:LU ws≠[]->g'≠g:=λhc=>by
  have hl:ws.length≠0:=λe=>hc (by rw[AC e];rfl)
  rcases aP.ne with e|e|e
  ·unfold blk at e;rw[AE aE]at e;exact absurd e (by simp)
  ·unfold blk at e;rw[AE hl]at e;exact absurd e (by simp)
  unfold blk at e;rw[AE aE,AE hl]at e;exactλe2=>e (by rw[e2])
 have HY:=LE (jz g g' ss c1 ws cS w2 cI aP.p cF cC cE (λx hx=>by have:=AZ (hw x hx);omega));have dL:w.heap.size<=g:=AL aG.o.size cA;have aY:=aU.o.lt;clear q0 q1 aP hg cU aN cI cF;go_wp2_with fail;refine HY.o.i ?_;rintro e w3 ⟨x,rfl,dU,dV,bJ,bF⟩;have aK:=LE (aQ.o.j (NE bF aQ.o.size (λk hk=>by cases hk;exact dL)));have aL:=LE (bU.o.past (N:=w1.heap.size) aY (NE bF bP (λk hk=>by cases hk;exact cA)));have bE:g<w3.heap.size:=bJ.lt;have aX:=aL.o.lt;rw[AU]at aL aX;have dM:w.heap.size<=w3.heap.size:=aK.o.size;obtain⟨S,HS⟩:∃S:Nat->ByteArray,Hid (S=λk=>(NY ws ss).getD k empty):=⟨_,LE rfl⟩
 have cP:Hid (∀k,(S k).size<=1048576):=λk=>by
  rw[HS.o];exact mh ws ss hs cJ k
 have bV:Hid (∀k,k<ss.length->w3.cell? ⟨g,k,none⟩=some (.string (S k))):=λk hk=>by
  rw[HS.o];exact bJ.cell k _ (by simp[List.getD,ZT,hk])
 have HF:Hid (aF=RP (RP (0,0,1,0) (NC (S 0) 0 n)) (NC (S 1) 1 n)):=by
  show _=_;rw[aI.o,HS.o];unfold MS;rw[AK ⟨bI,hn⟩];rfl
 clear HY bU aU aQ aG bJ bF HX;go_wp2_with fail;have aO:=((B4.new (w3.alloc (.cells #[.slice (some ⟨g,0,none⟩) ss.length c1,.slice (some ⟨x,0,none⟩) 0 0] 44)) (.int .i64 0) (.int .i64 0) (.int .i64 1) (.int .i64 0) 45));have aJ:Below w3.heap.size w3 ((w3.alloc (.cells #[.slice (some ⟨g,0,none⟩) ss.length c1,.slice (some ⟨x,0,none⟩) 0 0] 44)).alloc (.cells #[.int .i64 0,.int .i64 0,.int .i64 1,.int .i64 0] 45)):=((AB _ _).alloc (AA _) _).alloc (by simp) _;have bQ:((w3.alloc (.cells #[.slice (some ⟨g,0,none⟩) ss.length c1,.slice (some ⟨x,0,none⟩) 0 0] 44)).alloc (.cells #[.int .i64 0,.int .i64 0,.int .i64 1,.int .i64 0] 45)).cell? ⟨w3.heap.size,0,none⟩=some (.slice (some ⟨g,0,none⟩) ss.length c1):=by go_simp
 have dH:((w3.alloc (.cells #[.slice (some ⟨g,0,none⟩) ss.length c1,.slice (some ⟨x,0,none⟩) 0 0] 44)).alloc (.cells #[.int .i64 0,.int .i64 0,.int .i64 1,.int .i64 0] 45)).heap.size=w3.heap.size+2:=by simp
 obtain⟨wb,bW⟩:∃wb,wb=((w3.alloc (.cells #[.slice (some ⟨g,0,none⟩) ss.length c1,.slice (some ⟨x,0,none⟩) 0 0] 44)).alloc (.cells #[.int .i64 0,.int .i64 0,.int .i64 1,.int .i64 0] 45)):=⟨_,rfl⟩;rw[AU]at aO;rw[<-bW]at aO aJ bQ dH⊢;have cQ:=LE bQ;have cN:=LE aO
 have aW:Hid (∀k,k<ss.length->wb.cell? ⟨g,k,none⟩=some (.string (S k))):=λk hk=>(aJ.cell (p:=⟨g,k,none⟩) bE).j (bV.o k hk)
 have cO:=LE (aL.o.I aJ);have cM:=LE (aK.o.j (aJ.i aK.o.size));clear bW aO bQ aJ bV aL aK;go_loopw [7] (λi wr=>∃(k:Nat) (b:RtT),k<=2/\i=.int .i64 (k:Int)/\Hid ((k=0->b=(0,0,1,0))/\(k=1->b=RP (0,0,1,0) (NC (S 0) 0 n))/\(k=2->b=aF))/\Below (w3.heap.size+1) wb wr/\B4 wr (w3.heap.size+1) (.int .i64 b.1) (.int .i64 b.2.1) (.int .i64 b.2.2.1) (.int .i64 b.2.2.2)) (λi _=>2-(intOf i).toNat)
 case atStart=>exact⟨0,(0,0,1,0),by omega,rfl,⟨λ_=>rfl,λh=>absurd h (by decide),λh=>absurd h (by decide)⟩,AB _ _,cN.o⟩
 case round =>
  obtain⟨k,⟨b0,b1,b2,b3⟩,hk,rfl,aS,aB,aA⟩:=hrel;have aD:=LE aB;have aH:=LE aA
  by_cases dP:k<2
  ·have cY:k<ss.length:=by omega
   have cZ:(k:Int)<(ss.length:Int):=by omega
   have dF:(k:Int)<2:=by omega
   have x0:wr.cell? ⟨w3.heap.size,0,none⟩=some (.slice (some ⟨g,0,none⟩) ss.length c1):=(aB.cell (p:=⟨w3.heap.size,0,none⟩) (by show w3.heap.size<_;omega)).j cQ.o;have xk:wr.cell? ⟨g,k,none⟩=some (.string (S k)):=(aB.cell (p:=⟨g,k,none⟩) (by show g<_;omega)).j (aW.o k cY);clear aB aA
   have aT:Hid (∀b':RtT,b'=RP (b0,b1,b2,b3) (NC (S k) (k:Int) n)->(k+1=0->b'=(0,0,1,0))/\(k+1=1->b'=RP (0,0,1,0) (NC (S 0) 0 n))/\(k+1=2->b'=aF)):=λb' b7=>by
    refine⟨λh=>absurd h (by omega),λh=>?_,λh=>?_⟩
    ·have cV:k=0:=by omega
     subst cV;rw[b7,aS.o.1 rfl];rfl
    have cW:k=1:=by omega
    subst cW;rw[b7,aS.o.2.1 rfl,HF.o];rfl
   go_wp2_with fail;refine(Hs (S k) (k:Int) n _ (cP.o k)).i ?_;rintro e w5 ⟨⟨t,h9,f,l,bb,rfl,cH⟩,bC⟩;have bT:=LE (aD.o.j (bC.i (by have:=aD.o.size;omega)));have aC:=LE (aH.o.I bC);have aV:=LE cH;clear cH bC aD aH x0 xk;have dR:w3.heap.size+2<=w5.heap.size:=by have:=bT.o.size;omega
   have c0:=λo=>(aC.o.alloc o).c0
   have c1:=λo=>(aC.o.alloc o).c1
   have c2:=λo=>(aC.o.alloc o).c2
   have c3:=λo=>(aC.o.alloc o).c3
   have f0:=λo=>(aC.o.alloc o).f0
   have f1:=λo=>(aC.o.alloc o).f1
   have f2:=λo=>(aC.o.alloc o).f2
   have f3:=λo=>(aC.o.alloc o).f3
   have aR:=LE (λo=>bT.o.alloc (by omega) o)
   cases bb with
   | false =>
    have hm:=aT.o (b0,b1,b2,b3) (by rw[aV.o];rfl);have HM:=LE hm;clear hm;go_wp2;go_roundw
    case rel=>exact⟨k+1,(b0,b1,b2,b3),by omega,by go_num,HM.o,aR.o _,aC.o.alloc _⟩
    case measure=>simp[intOf];omega
   | true =>
    by_cases cB:b0<t
    ·have hm:=aT.o (t,h9,f,l) (by rw[aV.o];simp[RP,cB])
     have HM:=LE hm;clear hm;go_wp2;go_roundw
     case rel=>exact⟨k+1,(t,h9,f,l),by omega,by go_num,HM.o,((((aR.o _).setCell (AA _) _).setCell (AA _) _).setCell (AA _) _).setCell (AA _) _,(aC.o.alloc _).set4 _ _ _ _⟩
     case measure=>simp[intOf];omega
    have hm:=aT.o (b0,b1,b2,b3) (by rw[aV.o];simp[RP,cB])
    have HM:=LE hm;clear hm;go_wp2;go_roundw
    case rel=>exact⟨k+1,(b0,b1,b2,b3),by omega,by go_num,HM.o,aR.o _,aC.o.alloc _⟩
    case measure=>simp[intOf];omega
  have cX:k=2:=by omega
  subst cX;have HE:Hid (aF=(b0,b1,b2,b3)):=(aS.o.2.2 rfl).symm;have hr:=cO.o.past (N:=w3.heap.size+1) (by omega) aB;have c0:=hr.c0;have c1:=hr.c1;have c2:=hr.c2;have c3:=hr.c3;have f0:=hr.f0;have f1:=hr.f1;have f2:=hr.f2;have f3:=hr.f3;have d0:=aA.c0;have d1:=aA.c1;have d2:=aA.c2;have d3:=aA.c3;clear hr aB aA;go_wp2;refine AJ (v:=MV b0 b1 b2 b3) (by simp[results,results149,go_sem,c0,c1,c2,c3]) rfl ⟨by rw[HE.o],?_⟩;have cT:=cM.o.j (aD.o.i (by omega));exact(((cT.setCell (by show _<=w.heap.size+1;omega) _).setCell (by show _<=w.heap.size+1;omega) _).setCell (by show _<=w.heap.size+1;omega) _).setCell (by show _<=w.heap.size+1;omega) _
theorem Ba(a:Option Addr)(ss:List ByteArray)(c:Nat)(a':Option Addr)(ws:List (Int×ByteArray))(c':Nat)(n:Int)(w:World)(h:Strs w a ss)(h':Wrs w a' ws)(hl:ss.length<=1048576)(aE:ws.length<=1048576)(hs:∀s∈ss,s.size<=1048576)(aF:∀x∈ws,x.2.size<=1048576)(aC:¬(LS ss ws=true/\1<=n/\n<=8)):Calls prog 149 #[LN a ss.length c a' ws.length c',.int .i64 n] w λe w'=>e=.returned (MV 0 0 0 0)/\Below w.heap.size w w':=by
 have aB:∀o1 o2,Below w.heap.size w ((w.alloc o1).alloc o2):=λo1 o2=>((AB _ _).alloc (AA _) _).alloc (by simp) _
 cases hok:LS ss ws
 focus
  clear aC;go_enter func149,ntmps149;go_wp2_with fail;refine(UT a ss c a' ws c' _ (h.I (aB _ _)) (h'.I (aB _ _)) hl aE hs aF).i ?_;rw[hok];rintro e w1 ⟨rfl,aA⟩;have hr:=((B4.new (w.alloc (.cells #[.slice a ss.length c,.slice a' ws.length c'] 44)) (.int .i64 0) (.int .i64 0) (.int .i64 0) (.int .i64 0) 45).I aA);rw[AU]at hr;have aD:=LE ((aB (.cells #[.slice a ss.length c,.slice a' ws.length c'] 44) (.cells #[.int .i64 0,.int .i64 0,.int .i64 0,.int .i64 0] 45)).j (aA.i (by simp<;>omega)));clear aA;have c0:=hr.c0;have c1:=hr.c1;have c2:=hr.c2;have c3:=hr.c3;have f0:=hr.f0;have f1:=hr.f1;have f2:=hr.f2;have f3:=hr.f3;clear hr;go_wp2
 rotate_left
 focus
  have hd:decide (1<=n/\n<=8)=false:=AI (λx=>aC ⟨hok,x⟩);clear aC;go_enter func149,ntmps149;go_wp2_with fail;refine(UT a ss c a' ws c' _ (h.I (aB _ _)) (h'.I (aB _ _)) hl aE hs aF).i ?_;rw[hok];rintro e w1 ⟨rfl,aA⟩;have hr:=((B4.new (w.alloc (.cells #[.slice a ss.length c,.slice a' ws.length c'] 44)) (.int .i64 0) (.int .i64 0) (.int .i64 0) (.int .i64 0) 45).I aA);rw[AU]at hr;have aD:=LE ((aB (.cells #[.slice a ss.length c,.slice a' ws.length c'] 44) (.cells #[.int .i64 0,.int .i64 0,.int .i64 0,.int .i64 0] 45)).j (aA.i (by simp<;>omega)));clear aA;have c0:=hr.c0;have c1:=hr.c1;have c2:=hr.c2;have c3:=hr.c3;have f0:=hr.f0;have f1:=hr.f1;have f2:=hr.f2;have f3:=hr.f3;clear hr
  go_wp2_with (first|(go_at_call 57;refine(PV _ _).i ?_;rw[hd];rintro e wz ⟨rfl,aG⟩;rw[aG];clear aG wz))
 rotate_left
 all_goals
  refine AJ (v:=MV 0 0 0 0) (by simp[results,results149,go_sem,c0,c1,c2,c3]) rfl ⟨rfl,?_⟩;exact(((aD.o.setCell (by show _<=w.heap.size+1;omega) _).setCell (by show _<=w.heap.size+1;omega) _).setCell (by show _<=w.heap.size+1;omega) _).setCell (by show _<=w.heap.size+1;omega) _
theorem Ao(a:Option Addr)(ss:List ByteArray)(c:Nat)(a':Option Addr)(ws:List (Int×ByteArray))(c':Nat)(n:Int)(w:World)(h:Strs w a ss)(h':Wrs w a' ws)(hl:ss.length<=1048576)(aA:ws.length<=1048576)(hs:∀s∈ss,s.size<=1048576)(aB:∀x∈ws,x.2.size<=1048576):Calls prog 149 #[LN a ss.length c a' ws.length c',.int .i64 n] w λe w'=>e=.returned (nt (MS ss ws n))/\Below w.heap.size w w':=by
 by_cases hy:LS ss ws=true/\1<=n/\n<=8
 ·exact Cl a ss c a' ws c' n w h h' hl aA hs aB hy.1 hy.2
 have e:MS ss ws n=MJ:=by unfold MS;rw[AE hy]
 rw[e];exact Ba a ss c a' ws c' n w h h' hl aA hs aB hy
