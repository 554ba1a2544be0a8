import Derived.Test.YtehbpeinnepdcaaGreatDoorPrG35
set_option maxHeartbeats 64000000
namespace Go.Proofs.YtehbpeinnepdcaaGreatDoor
open Go.RowKit
set_option maxRecDepth 8000
set_option linter.unusedVariables false
set_option linter.unusedSimpArgs false
theorem xIR (w:World) (b:Nat) (n m:Int) (h:w.cell? ⟨b,0,none⟩=some (.int .u8 n)) (h2:w.cell? ⟨b,1,none⟩=some (.int .u8 m)):(convert 22 9 (.slice (some ⟨b,0,none⟩) 2 2)).run Tryz.prog w=.ok (.string (strOfNums [n,m])) w :=
 run_convert_bytes_arg (P:=Tryz.prog) _ 22 5 Tryz.underlying22 Tryz.underlying5 b 0 2 2 [n,m] rfl (fun i hi=>by
  have:i=0\/i=1:=by omega
  rcases this with rfl | rfl
  ·simpa using h
  ·simpa using h2) 9 Tryz.underlying9
theorem qNT (w:World) (A:Obj) (cs:Array Value) (t:TypeId):∀ j u,cs.toList[j]?=some u->((w.alloc A).alloc (.cells cs t)).cell? ((⟨w.heap.size+1,0,none⟩:Addr).add j)=some u:=by
 have h:=heap_alloc_new (w.alloc A) (.cells cs t);rw [World.size_alloc] at h;exact World.news_of_block h
theorem AnS.fin {w0 w:World} {R:Nat} {a:Option Addr} {n c:Nat} {q:Int} {RB SB:Nat} {y:Value} {rs:List Pr} (h:AnS w0 w R a n c q RB SB y rs):(w.setCell ⟨RB,0,none⟩ y).ownsRow w0.heap.size 78 2 y rs.length (qJS rs)/\Rdr (w.setCell ⟨RB,0,none⟩ y) R a n c q/\w0.grownBy (w.setCell ⟨RB,0,none⟩ y) (some R) :=
 ⟨ownsRow_setCell_other h.x.s.own h.ro _,h.rd.keep h.x.s.lR h.x.s.ga ((Below.refl _ _).setCell h.b0 _),JFC h.x.s.gr _ h.b0 _⟩
theorem kwr (i:Nat) (h:i<=1000):∃ u v:Int,(i:Int).tdiv 10=u/\(i:Int) / 10=u/\(i:Int).tmod 10=v/\(i:Int) % 10=v/\0<=u/\u<=100/\0<=v/\v<=9:=by
 refine ⟨((i / 10:Nat):Int),((i % 10:Nat):Int),?_,by omega,?_,by omega,by omega,by omega,by omega,by omega⟩
 ·rw [Int.tdiv_eq_ediv_of_nonneg (by omega)];omega
 ·rw [Int.tmod_eq_emod_of_nonneg (by omega)];omega
theorem xP2 (R:Nat) (a:Option Addr) (n c:Nat) (p:Int) (w:World) (h:Rdr w R a n c p) (hp:p<99900000):Calls Tryz.prog 49 #[.pointer (some ⟨R,0,none⟩)] w fun e w'=>(∃ y rs,e=.returned (.agg #[y])/\w'.ownsRow w.heap.size 78 2 y rs.length (qJS rs)/\rs.length<=102/\psLe rs 64000 64000)/\Zlg w R a n c p 9000 w':=by
 have p0:=h.p0;obtain ⟨i0,fS,fY,fZ,gD⟩:=q5D q2K;have HI:=hid (And.intro fS (And.intro fY (And.intro fZ gD)));clear fS fY fZ gD
 have D0:AnS w ((w.alloc (.cells #[.slice none 0 0] 31)).alloc (.cells #[.slice none 0 0] 31)) R a n c p w.heap.size (w.heap.size+1) (.slice none 0 0) []:=by
  have eM:=quc w (.cells #[.slice none 0 0] 31);have eN:=quc (w.alloc (.cells #[.slice none 0 0] 31)) (.cells #[.slice none 0 0] 31);have hb:Below w.heap.size w ((w.alloc (.cells #[.slice none 0 0] 31)).alloc (.cells #[.slice none 0 0] 31)):=eM.trans (eN.mono (by simp));refine ⟨⟨⟨(h.below eM).below eN,World.ownsRow_nil _ _ _ _,Qbp _ hb,h.lts.1,h.lts.2⟩,?_,fun e=>(by cases e),by omega⟩,(xER _ _ _).alloc _,fun e=>(by cases e),Nat.le_refl _,by omega⟩;have:=xER (w.alloc (.cells #[.slice none 0 0] 31)) #[.slice none 0 0] 31
  rwa [World.size_alloc] at this
 clear h;go_enter Tryz.func49,Tryz.ntmps49;go_wp2_with fail;refine (ZfV R a n c p 4 _ D0.rd (by omega)).mono ?_;rintro e w1 ⟨⟨v,rfl,v0,v1⟩,eG,eD⟩;have D1:=D0.pick eG eD;clear D0 eG eD;obtain ⟨RB,cO⟩:∃ z,z=w.heap.size:=⟨_,rfl⟩;obtain ⟨SB,cP⟩:∃ z,z=w.heap.size+1:=⟨_,rfl⟩;rw [<-cP,<-cO] at D1;rw [<-cP,<-cO];have HE:=hid (And.intro cO cP);clear cO cP;go_wp2_with fail;refine (ZfV R a n c (p+1) 4 _ D1.rd (by omega)).mono ?_;rintro e w2 ⟨⟨u,rfl,u0,u1⟩,fV,fI⟩;have D2:=D1.pick fV fI;clear D1 fV fI;go_upto_if 17 with fail;go_cut [4] from 15 to 17 (fun nv wx=>∃ N:Int,nv=.int .i64 N/\0<=N/\N<=10/\wx=w2)
 case first =>
  by_cases hu:u=0
  ·subst hu
   go_wp2_with fail;go_meet;exact ⟨10,rfl,by omega,by omega,rfl⟩
  ·go_wp2_with fail
   go_meet;exact ⟨v,rfl,by omega,by omega,rfl⟩
 case rest =>
 obtain ⟨N,rfl,N0,N1,rfl⟩:=hcut;clear u0 u1 v0 v1;go_wp2;go_loopw [4] (fun nv wr=>∃ (m q:Int) (rs:List Pr) (Y:Value) (W:World),W=wr/\nv=.int .i64 m/\0<=m/\m<=10/\p<=q/\q<=p+2+650*(10-m)/\z0q rs=true/\AnS w W R a n c q RB SB Y rs) (fun nv _=>(intOf nv).toNat)
 case atStart=>exact ⟨N,p+1+1,[],_,_,rfl,rfl,N0,N1,by omega,by omega,by decide,D2⟩
 case round =>
  obtain ⟨m,q,rs,y,wr,rfl,rfl,m0,m1,q0,q1,eO,D⟩:=hrel;clear D2;have aO:=Xhq eO;have dU:rs.length<=100:=((ZaP rs).1 eO).1;obtain ⟨ya,yc,rfl,_⟩:=yUy D.x.s.own
  by_cases hm:0<m
  ·have iG:IntKind.i64.wrap (m-1)=m-1:=vRg _ (by omega) (by omega)
   go_upto_region 7 with fail;go_cut [5,6] from 18 to 31 (fun xv cv wx=>∃ (X:Nat) (cd q2:Int) (cU:List Pr) (y2:Value),xv=.pointer (some ⟨X,0,none⟩)/\cv=.int .i64 cd/\q<=q2/\q2<=q+600/\(cd=0->z0q cU=true)/\AnS w wx R a n c q2 RB SB (.slice ya rs.length yc) rs/\Row wx X [y2]/\X≠SB/\wx.ownsRow w.heap.size 78 2 y2 cU.length (qJS cU)/\y2.ownBlock≠some RB/\y2.ownBlock≠some SB)
   case first =>
    refine wp_region_held_drew (S:=fun w'=>w'.cell? ⟨SB,0,none⟩=some (.slice ya rs.length yc)) (by kernel_rfl) (D.drew.x.row.cell 0 _ rfl) (fun aK=>?_);refine TY 0 (.agg #[.slice ya rs.length yc]) rfl aK ?_;simp only [PS];refine TY 1 (.pointer (some ⟨R,0,none⟩)) rfl aK ?_;simp only [PS];refine wpAnyH_ready (rs:=[2,7]) (by kernel_rfl) (by simp) ?_;refine AllReadyH.cons rfl (fun Kq aA=>?_) (AllReadyH.cons rfl (fun Kq aA=>?_) AllReadyH.nil)
    ·refine XRf (by rfl) _ _ (by go_simp) (J88 R a n c q _ D.drew.rd (by omega)) ?_
     rintro e w4 ⟨⟨bv,b,rfl,dR,⟨eM,eN⟩,cQ⟩,⟨q2,bZ,b7,cW⟩,cS⟩;refine ⟨_,rfl,?_⟩;have F2:=D.drew.pick cW cS;obtain ⟨ba,bc,rfl⟩:=q6I dR;clear cW cS;refine aA.out _ _ (F2.x.row.cell 0 _ rfl) (fun aZ=>?_)
     try simp only [PS]
     refine wpAnyH_ready (rs:=[3,7]) (by kernel_rfl) (by simp) ?_;refine AllReadyH.cons rfl (fun Kq aA=>?_) (AllReadyH.cons rfl (fun Kq aA=>?_) AllReadyH.nil)
     ·have cI:=dR
      refine XRf (by rfl) _ _ (by go_simp) (QvR ya rs yc ba b bc _ (zSN F2.x.s.own) (by omega) (fun x hx=>by have:=aO x hx;omega) (Z9J cI) (by omega) (fun x hx=>by have:=cQ x hx;omega)) ?_;have lS:=F2.x.row.lt;have lB:=F2.rb.lt;rintro e w5 ⟨a2,c2,rfl,aG,cZ⟩;refine ⟨_,rfl,?_⟩;have F3:=F2.below cZ
      have n1:(Value.slice a2 (apR rs b).length c2).ownBlock≠some RB:=fun e=>by have:=(aG.lt _ e).1;omega
      have n2:(Value.slice a2 (apR rs b).length c2).ownBlock≠some SB:=fun e=>by have:=(aG.lt _ e).1;omega
      have aL:=QLa aG F2.lt;refine aA.out _ _ (F3.x.row.cell 0 _ rfl) (fun aU=>?_)
      try simp only [PS]
      refine TY 4 (.tuple #[.agg #[.slice a2 (apR rs b).length c2],.int .i64 (apC rs b)]) rfl aU ?_;simp only [PS];refine TY 5 (.agg #[.slice a2 (apR rs b).length c2]) rfl aU ?_;simp only [PS];refine TY 6 (.int .i64 (apC rs b)) rfl aU ?_;simp only [PS];refine RD 7 rfl (fun Kq aA=>?_);go_simp;have F7:=(F3.below (quc _ (.cells #[.slice none 0 0] 31)));have rX:=(xER w5 #[.slice none 0 0] 31);have xS:=F3.x.row.lt;have xR:=F3.rb.lt;have x0:=F3.lt;have xl:=F3.x.s.lR
      have xo:(Value.slice ya rs.length yc).ownBlock≠some w5.heap.size:=fun e=>by have:=(F3.x.s.own.lt _ e).2;omega
      have n3:(Value.slice a2 (apR rs b).length c2).ownBlock≠some w5.heap.size:=fun e=>by have:=(aL.lt _ e).2;omega
      have aL:=aL.alloc (.cells #[.slice none 0 0] 31);obtain ⟨X,aQ⟩:∃ z,z=w5.heap.size:=⟨_,rfl⟩;obtain ⟨wx,aJ⟩:∃ z,z=(w5.alloc (.cells #[.slice none 0 0] 31)):=⟨_,rfl⟩;have cV:X≠SB:=by omega
      have dZ:X≠RB:=by omega
      have eB:w.heap.size<=X:=by omega
      rw [<-aQ] at xo;have fG:R<X:=by omega
      try rw [<-aJ] at F7
      try rw [<-aQ] at F7
      try rw [<-aJ] at rX
      try rw [<-aQ] at rX
      try rw [<-aJ] at aL
      try rw [<-aQ] at aL
      try rw [<-aJ] at n3
      try rw [<-aQ] at n3
      rw [<-aJ,<-aQ];clear aJ aQ;refine aA.out _ _ (F7.x.row.cell 0 _ rfl) (fun bQ=>?_)
      try simp only [PS]
      refine RD 8 rfl (fun Kq aA=>?_);have k0:=rX.cell 0 _ rfl;have k1:=rX.froz 0 (by simp);have k2:=rX.lt;go_simp;have G8:=F7.far X 0 eB cV dZ xo (.slice a2 (apR rs b).length c2);have eJ:=rX.set 0 (by simp) (.slice a2 (apR rs b).length c2);have aW:=ownsRow_setCell_other (a:=⟨X,0,none⟩) aL n3 (.slice a2 (apR rs b).length c2);refine aA.out _ _ (G8.x.row.cell 0 _ rfl) (fun bC=>?_)
      try simp only [PS]
      refine RD 9 rfl (fun Kq aA=>?_);go_simp;refine aA.out _ _ bC (fun _=>?_)
      try simp only [PS]
      refine DN ?_;go_wp2_with fail;go_meet;exact ⟨X,apC rs b,q2,apR rs b,_,rfl,rfl,bZ,b7,Zvz rs b,G8,eJ,cV,aW,n1,n2⟩
     ·go_simp
      have F7:=(F2.below (quc _ (.cells #[.slice none 0 0] 31)));have rX:=(xER w4 #[.slice none 0 0] 31);have xS:=F2.x.row.lt;have xR:=F2.rb.lt;have x0:=F2.lt;have xl:=F2.x.s.lR
      have xo:(Value.slice ya rs.length yc).ownBlock≠some w4.heap.size:=fun e=>by have:=(F2.x.s.own.lt _ e).2;omega
      have dH:=dR.alloc (.cells #[.slice none 0 0] 31);obtain ⟨X,aQ⟩:∃ z,z=w4.heap.size:=⟨_,rfl⟩;obtain ⟨wx,aJ⟩:∃ z,z=(w4.alloc (.cells #[.slice none 0 0] 31)):=⟨_,rfl⟩;have cV:X≠SB:=by omega
      have dZ:X≠RB:=by omega
      have eB:w.heap.size<=X:=by omega
      rw [<-aQ] at xo;have fG:R<X:=by omega
      try rw [<-aJ] at F7
      try rw [<-aQ] at F7
      try rw [<-aJ] at rX
      try rw [<-aQ] at rX
      try rw [<-aJ] at dH
      try rw [<-aQ] at dH
      rw [<-aJ,<-aQ];clear aJ aQ;refine aA.out _ _ (F7.x.row.cell 0 _ rfl) (fun eS=>?_)
      try simp only [PS]
      refine RD 3 rfl (fun Kq aA=>?_);have cI:=dH;refine XRf (by rfl) _ _ (by go_simp) (QvR ya rs yc ba b bc _ (zSN F7.x.s.own) (by omega) (fun x hx=>by have:=aO x hx;omega) (Z9J cI) (by omega) (fun x hx=>by have:=cQ x hx;omega)) ?_;have lS:=F7.x.row.lt;have lB:=F7.rb.lt;rintro e w5 ⟨a2,c2,rfl,aG,cZ⟩;refine ⟨_,rfl,?_⟩;have F3:=F7.below cZ
      have n1:(Value.slice a2 (apR rs b).length c2).ownBlock≠some RB:=fun e=>by have:=(aG.lt _ e).1;omega
      have n2:(Value.slice a2 (apR rs b).length c2).ownBlock≠some SB:=fun e=>by have:=(aG.lt _ e).1;omega
      have aL:=QLa aG F7.lt
      have n3:(Value.slice a2 (apR rs b).length c2).ownBlock≠some X:=fun e=>by have:=(aG.lt _ e).1;have:=rX.lt;omega
      have rX:=rX.below cZ;refine aA.out _ _ (F3.x.row.cell 0 _ rfl) (fun aV=>?_)
      try simp only [PS]
      refine TY 4 (.tuple #[.agg #[.slice a2 (apR rs b).length c2],.int .i64 (apC rs b)]) rfl aV ?_;simp only [PS];refine TY 5 (.agg #[.slice a2 (apR rs b).length c2]) rfl aV ?_;simp only [PS];refine TY 6 (.int .i64 (apC rs b)) rfl aV ?_;simp only [PS];refine RD 8 rfl (fun Kq aA=>?_);have k0:=rX.cell 0 _ rfl;have k1:=rX.froz 0 (by simp);have k2:=rX.lt;go_simp;have G8:=F3.far X 0 eB cV dZ xo (.slice a2 (apR rs b).length c2);have eJ:=rX.set 0 (by simp) (.slice a2 (apR rs b).length c2);have aW:=ownsRow_setCell_other (a:=⟨X,0,none⟩) aL n3 (.slice a2 (apR rs b).length c2);refine aA.out _ _ (G8.x.row.cell 0 _ rfl) (fun bU=>?_)
      try simp only [PS]
      refine RD 9 rfl (fun Kq aA=>?_);go_simp;refine aA.out _ _ bU (fun _=>?_)
      try simp only [PS]
      refine DN ?_;go_wp2_with fail;go_meet;exact ⟨X,apC rs b,q2,apR rs b,_,rfl,rfl,bZ,b7,Zvz rs b,G8,eJ,cV,aW,n1,n2⟩
    ·go_simp
     have F7:=(D.below (quc _ (.cells #[.slice none 0 0] 31))).drew;have rX:=(xER wr #[.slice none 0 0] 31).drew;have xS:=D.x.row.lt;have xR:=D.rb.lt;have x0:=D.lt;have xl:=D.x.s.lR
     have xo:(Value.slice ya rs.length yc).ownBlock≠some wr.heap.size:=fun e=>by have:=(D.x.s.own.lt _ e).2;omega
     obtain ⟨X,aQ⟩:∃ z,z=wr.heap.size:=⟨_,rfl⟩;obtain ⟨wx,aJ⟩:∃ z,z=(wr.alloc (.cells #[.slice none 0 0] 31)).drew:=⟨_,rfl⟩;have cV:X≠SB:=by omega
     have dZ:X≠RB:=by omega
     have eB:w.heap.size<=X:=by omega
     rw [<-aQ] at xo;have fG:R<X:=by omega
     try rw [<-aJ] at F7
     try rw [<-aQ] at F7
     try rw [<-aJ] at rX
     try rw [<-aQ] at rX
     rw [<-aJ,<-aQ];clear aJ aQ;refine aA.out _ _ (F7.x.row.cell 0 _ rfl) (fun cE=>?_)
     try simp only [PS]
     refine RD 2 rfl (fun Kq aA=>?_);refine XRf (by rfl) _ _ (by go_simp) (J88 R a n c q _ F7.rd (by omega)) ?_;rintro e w4 ⟨⟨bv,b,rfl,dR,⟨eM,eN⟩,cQ⟩,⟨q2,bZ,b7,cW⟩,cS⟩;refine ⟨_,rfl,?_⟩;have F2:=F7.pick cW cS;obtain ⟨ba,bc,rfl⟩:=q6I dR;have rX:=rX.grown cS (fun e=>by injection e with e;omega);clear cW cS;refine aA.out _ _ (F2.x.row.cell 0 _ rfl) (fun fE=>?_)
     try simp only [PS]
     refine RD 3 rfl (fun Kq aA=>?_);have cI:=dR;refine XRf (by rfl) _ _ (by go_simp) (QvR ya rs yc ba b bc _ (zSN F2.x.s.own) (by omega) (fun x hx=>by have:=aO x hx;omega) (Z9J cI) (by omega) (fun x hx=>by have:=cQ x hx;omega)) ?_;have lS:=F2.x.row.lt;have lB:=F2.rb.lt;rintro e w5 ⟨a2,c2,rfl,aG,cZ⟩;refine ⟨_,rfl,?_⟩;have F3:=F2.below cZ
     have n1:(Value.slice a2 (apR rs b).length c2).ownBlock≠some RB:=fun e=>by have:=(aG.lt _ e).1;omega
     have n2:(Value.slice a2 (apR rs b).length c2).ownBlock≠some SB:=fun e=>by have:=(aG.lt _ e).1;omega
     have aL:=QLa aG F2.lt
     have n3:(Value.slice a2 (apR rs b).length c2).ownBlock≠some X:=fun e=>by have:=(aG.lt _ e).1;have:=rX.lt;omega
     have rX:=rX.below cZ;refine aA.out _ _ (F3.x.row.cell 0 _ rfl) (fun bH=>?_)
     try simp only [PS]
     refine TY 4 (.tuple #[.agg #[.slice a2 (apR rs b).length c2],.int .i64 (apC rs b)]) rfl bH ?_;simp only [PS];refine TY 5 (.agg #[.slice a2 (apR rs b).length c2]) rfl bH ?_;simp only [PS];refine TY 6 (.int .i64 (apC rs b)) rfl bH ?_;simp only [PS];refine RD 8 rfl (fun Kq aA=>?_);have k0:=rX.cell 0 _ rfl;have k1:=rX.froz 0 (by simp);have k2:=rX.lt;go_simp;have G8:=F3.far X 0 eB cV dZ xo (.slice a2 (apR rs b).length c2);have eJ:=rX.set 0 (by simp) (.slice a2 (apR rs b).length c2);have aW:=ownsRow_setCell_other (a:=⟨X,0,none⟩) aL n3 (.slice a2 (apR rs b).length c2);refine aA.out _ _ (G8.x.row.cell 0 _ rfl) (fun aT=>?_)
     try simp only [PS]
     refine RD 9 rfl (fun Kq aA=>?_);go_simp;refine aA.out _ _ aT (fun _=>?_)
     try simp only [PS]
     refine DN ?_;go_wp2_with fail;go_meet;exact ⟨X,apC rs b,q2,apR rs b,_,rfl,rfl,bZ,b7,Zvz rs b,G8,eJ,cV,aW,n1,n2⟩
   case rest =>
   obtain ⟨X,cd,q2,cU,y2,rfl,rfl,bZ,b7,eX,G,rX,iD,fU,n1,n2⟩:=hcut;clear D;obtain ⟨iJ,iK,rfl,_⟩:=yUy fU
   by_cases fH:cd=0
   ·subst fH
    have k0:=rX.cell 0 _ rfl;have k2:=rX.lt;have s0:=G.x.row.cell 0 _ rfl;have s1:=G.x.row.froz 0 (by simp);have s2:=G.x.row.lt;have G2:=G.put fU n1 n2;go_wp2;exact ⟨⟨m-1,q2,cU,_,_,rfl,rfl,by omega,by omega,by omega,by omega,eX rfl,G2⟩,by simp [intOf];omega⟩
   ·have iE:(cd == 0)=false:=by simp [fH]
    go_wp2;exact ⟨⟨m-1,q2,rs,_,_,rfl,rfl,by omega,by omega,by omega,by omega,eO,G⟩,by simp [intOf];omega⟩
  ·obtain rfl:m=0:=by omega
   go_wp2_with fail;refine (ZfV R a n c (q) 12 _ D.rd (by omega)).mono ?_;rintro e w1 ⟨⟨v,rfl,v0,v1⟩,eG,eD⟩;have D1:=D.pick eG eD;clear eG eD;go_upto_if 34 with fail;go_cut [] from 35 to 82 (fun wx=>∃ (q2:Int) (cU:List Pr) (y2:Value),p<=q2/\q2<=p+8000/\cU.length<=100/\psLe cU 64000 64000/\AnS w wx R a n c q2 RB SB y2 cU)
   case first =>
    by_cases hv:v=0
    ·subst hv
     go_wp2_with fail;refine (ZfV R a n c (q+1) 3 _ D1.rd (by omega)).mono ?_;rintro e w3 ⟨⟨z,rfl,z0,z1⟩,fW,fJ⟩;have D3:=D1.pick fW fJ;clear fW fJ;have gE:IntKind.i64.wrap (100-z)=100-z:=vRg _ (by omega) (by omega);go_wp2;go_loopw [8] (fun iv wr=>∃ (i:Nat) (q:Int) (rs:List Pr) (Y:Value) (W:World),W=wr/\iv=.int .i64 (i:Int)/\i<=rs.length/\rs.length<=100/\p<=q/\q<=p+6600+12*(i:Int)/\psLe rs 64000 64000/\AnS w W R a n c q RB SB Y rs) (fun iv _=>(300-intOf iv).toNat)
     case atStart=>exact ⟨0,q+1+1,rs,_,_,rfl,rfl,Nat.zero_le _,dU,by omega,by omega,aO,D3⟩
     case round =>
      obtain ⟨i,q,rs,y,wr,rfl,rfl,hi,dU,q0,q1,aO,D⟩:=hrel;obtain ⟨ya,yc,rfl,_⟩:=yUy D.x.s.own;have c0:=D.x.row.cell 0 _ rfl;have c1:=D.x.row.froz 0 (by simp);have c2:=D.x.row.lt
      by_cases gM:(rs.length:Int)<100-z
      ·have gJ:IntKind.i64.wrap ((i:Int)+1)=(i:Int)+1:=vRg _ (by omega) (by omega)
       obtain ⟨tu,tv,t1,t2,t3,t4,t5,t6,t7,t8⟩:=kwr i (by omega);have g6:IntKind.i64.wrap (48+tu)=48+tu:=vRg _ (by omega) (by omega);have hI:IntKind.i64.wrap (48+tv)=48+tv:=vRg _ (by omega) (by omega);have iA:IntKind.i64.wrap tu=tu:=vRg _ (by omega) (by omega);have iB:IntKind.u8.wrap (48+tu)=48+tu:=by simp [IntKind.wrap,IntKind.bits,IntKind.signed];omega
       have iC:IntKind.u8.wrap (48+tv)=48+tv:=by simp [IntKind.wrap,IntKind.bits,IntKind.signed];omega
       go_upto_region 15 with fail;clear c0 c1 c2;go_cut [] from 38 to 82 (fun wx=>∃ (KY t:ByteArray) (q2:Int) (yg aH:Nat),KY.size<=64000/\t.size<=64000/\q<=q2/\q2<=q+10/\AnS w wx R a n c q2 RB SB (.slice (some ⟨yg,0,none⟩) (rs.length+[(KY,t)].length) aH) (rs++[(KY,t)]))
       case first =>
        refine yO4 (19) (S:=fun w'=>w'.cell? ⟨SB,0,none⟩=some (.slice ya rs.length yc)) (by kernel_rfl) (D.drew.x.row.cell 0 _ rfl) (fun aK=>?_);refine TYT 0 (.pointer (some ⟨SB,0,none⟩)) rfl aK ?_;simp only [PS];refine TYT 1 (.slice ya rs.length yc) rfl aK ?_;simp only [PS];refine TYT 2 (.int .i64 (i:Int)) rfl aK ?_;simp only [PS];refine TYT 3 (.int .i64 tu) rfl aK ?_;simp only [PS];refine TYT 4 (.int .i64 (48+tu)) rfl aK ?_;simp only [PS];refine TYT 5 (.int .u8 (48+tu)) rfl aK ?_;simp only [PS];refine TYT 6 (.int .i64 (i:Int)) rfl aK ?_;simp only [PS];refine TYT 7 (.int .i64 tv) rfl aK ?_;simp only [PS];refine TYT 8 (.int .i64 (48+tv)) rfl aK ?_;simp only [PS];refine TYT 9 (.int .u8 (48+tv)) rfl aK ?_;simp only [PS];refine TYT 13 (.pointer (some ⟨R,0,none⟩)) rfl aK ?_;simp only [PS];refine kPc (rs:=[10,14]) (by kernel_rfl) (by simp) ?_;refine AllReadyT.cons rfl (fun Kq aA=>?_) (AllReadyT.cons rfl (fun Kq aA=>?_) AllReadyT.nil)
        ·go_simp
         have b8:=(D.below (quc _ (.cells #[.int .u8 (48+tu),.int .u8 (48+tv)] 5))).drew;have rT:=(xER wr #[.int .u8 (48+tu),.int .u8 (48+tv)] 5).drew;have yR:=D.x.s.lR;have y0:=D.lt;obtain ⟨TB,aY⟩:∃ z,z=wr.heap.size:=⟨_,rfl⟩;obtain ⟨wb,aS⟩:∃ z,z=(wr.alloc (.cells #[.int .u8 (48+tu),.int .u8 (48+tv)] 5)).drew:=⟨_,rfl⟩;have eV:R<TB:=by omega
         rw [<-aS] at b8;rw [<-aS,<-aY] at rT;rw [<-aS,<-aY];clear aS aY;refine aA.out _ _ (b8.x.row.cell 0 _ rfl) (fun aZ=>?_)
         try simp only [PS]
         refine kPc (rs:=[11,14]) (by kernel_rfl) (by simp) ?_;refine AllReadyT.cons rfl (fun Kq aA=>?_) (AllReadyT.cons rfl (fun Kq aA=>?_) AllReadyT.nil)
         ·have dE:=xIR _ _ _ _ (rT.cell 0 _ rfl) (rT.cell 1 _ rfl)
          obtain ⟨K0,aM⟩:∃ z,z=strOfNums [48+tu,48+tv]:=⟨_,rfl⟩;have eT:K0.size=2:=by rw [aM,strOfNums_size];rfl
          rw [<-aM] at dE;clear aM;obtain ⟨KY,aX⟩:∃ z,(⟨#[122]⟩:ByteArray)++K0=z:=⟨_,rfl⟩;have dQ:KY.size=3:=by rw [<-aX,ByteArray.size_append];show 1+K0.size=3;omega
          have fA:¬ (9223372036854775807<1+K0.size):=by omega
          go_simp;refine aA.out _ _ aZ (fun _=>?_)
          try simp only [PS]
          refine TYT 12 (.string KY) rfl aZ ?_;simp only [PS];refine RDT 14 rfl (fun Kq aA=>?_);refine XRf (by rfl) _ _ (by go_simp) (xAH R a n c q _ b8.rd (by omega)) ?_;rintro e w5 ⟨⟨t,rfl,ht⟩,⟨q2,bZ,b7,cL⟩,bW⟩;refine ⟨_,rfl,?_⟩;have bY:=b8.pick cL bW;have rT:=rT.grown bW (fun e=>by injection e with e;omega);clear cL bW;refine aA.out _ _ (bY.x.row.cell 0 _ rfl) (fun bQ=>?_)
          try simp only [PS]
          refine TYT 15 (.agg #[.string KY,.string t]) rfl bQ ?_;simp only [PS];refine RDT 16 rfl (fun Kq aA=>?_);go_simp;have cC:=bY.below (quc _ (.cells #[.string KY,.string t] 78));have eL:=bY.lt;refine aA.out _ _ (cC.x.row.cell 0 _ rfl) (fun bC=>?_)
          try simp only [PS]
          refine RDT 17 rfl (fun Kq aA=>?_);refine SAL _ (by rfl) _ _ _ (by rfl) w.heap.size Tryz.underlying29 HI.out rfl (by omega) (.slice ya rs.length yc) rs.length _ (by rfl) cC.x.s.own ⟨w5.heap.size,0,none⟩ 1 1 [.string KY,.string t] (by rfl) rfl (World.news_of_block (heap_alloc_new w5 _)) (zvX _ _) (by simp;omega) (w5.heap.size+1) (by simp) ?_;intro yg aH w9 aE aB aN cT;have aF:w9.ownsRow w.heap.size 78 2 (.slice (some ⟨yg,0,none⟩) (rs++[(KY,t)]).length aH) (rs++[(KY,t)]).length (qJS (rs++[(KY,t)])):=by rw [qTA,List.length_append];exact aE
          obtain ⟨r9,G9⟩:=cC.push aF aB aN (by simp);clear aE aB aN;refine aA.out _ _ (r9.cell 0 _ rfl) (fun eR=>?_)
          try simp only [PS]
          refine TYT 18 (.pointer (some ⟨SB,0,none⟩)) rfl eR ?_;simp only [PS];refine kPc (rs:=[19]) (by kernel_rfl) (by simp) ?_;refine AllReadyT.last rfl (fun Kq aA=>?_);have l0:=r9.cell 0 _ rfl;have l1:=r9.froz 0 (by simp);have l2:=r9.lt;go_simp;refine aA.out _ _ trivial (fun _=>?_)
          try simp only [PS]
          refine kgn (by kernel_rfl) ?_ _;rw [List.length_append] at G9;go_wp2_with fail;go_meet;exact ⟨KY,t,q2,yg,aH,by omega,ht,bZ,b7,G9⟩
         ·refine XRf (by rfl) _ _ (by go_simp) (xAH R a n c q _ b8.rd (by omega)) ?_
          rintro e w5 ⟨⟨t,rfl,ht⟩,⟨q2,bZ,b7,cL⟩,bW⟩;refine ⟨_,rfl,?_⟩;have bY:=b8.pick cL bW;have rT:=rT.grown bW (fun e=>by injection e with e;omega);clear cL bW;refine aA.out _ _ (bY.x.row.cell 0 _ rfl) (fun aV=>?_)
          try simp only [PS]
          refine RDT 11 rfl (fun Kq aA=>?_);have dE:=xIR _ _ _ _ (rT.cell 0 _ rfl) (rT.cell 1 _ rfl);obtain ⟨K0,aM⟩:∃ z,z=strOfNums [48+tu,48+tv]:=⟨_,rfl⟩;have eT:K0.size=2:=by rw [aM,strOfNums_size];rfl
          rw [<-aM] at dE;clear aM;obtain ⟨KY,aX⟩:∃ z,(⟨#[122]⟩:ByteArray)++K0=z:=⟨_,rfl⟩;have dQ:KY.size=3:=by rw [<-aX,ByteArray.size_append];show 1+K0.size=3;omega
          have fA:¬ (9223372036854775807<1+K0.size):=by omega
          go_simp;refine aA.out _ _ aV (fun _=>?_)
          try simp only [PS]
          refine TYT 12 (.string KY) rfl aV ?_;simp only [PS];refine TYT 15 (.agg #[.string KY,.string t]) rfl aV ?_;simp only [PS];refine RDT 16 rfl (fun Kq aA=>?_);go_simp;have cC:=bY.below (quc _ (.cells #[.string KY,.string t] 78));have eL:=bY.lt;refine aA.out _ _ (cC.x.row.cell 0 _ rfl) (fun gH=>?_)
          try simp only [PS]
          refine RDT 17 rfl (fun Kq aA=>?_);refine SAL _ (by rfl) _ _ _ (by rfl) w.heap.size Tryz.underlying29 HI.out rfl (by omega) (.slice ya rs.length yc) rs.length _ (by rfl) cC.x.s.own ⟨w5.heap.size,0,none⟩ 1 1 [.string KY,.string t] (by rfl) rfl (World.news_of_block (heap_alloc_new w5 _)) (zvX _ _) (by simp;omega) (w5.heap.size+1) (by simp) ?_;intro yg aH w9 aE aB aN cT;have aF:w9.ownsRow w.heap.size 78 2 (.slice (some ⟨yg,0,none⟩) (rs++[(KY,t)]).length aH) (rs++[(KY,t)]).length (qJS (rs++[(KY,t)])):=by rw [qTA,List.length_append];exact aE
          obtain ⟨r9,G9⟩:=cC.push aF aB aN (by simp);clear aE aB aN;refine aA.out _ _ (r9.cell 0 _ rfl) (fun cE=>?_)
          try simp only [PS]
          refine TYT 18 (.pointer (some ⟨SB,0,none⟩)) rfl cE ?_;simp only [PS];refine kPc (rs:=[19]) (by kernel_rfl) (by simp) ?_;refine AllReadyT.last rfl (fun Kq aA=>?_);have l0:=r9.cell 0 _ rfl;have l1:=r9.froz 0 (by simp);have l2:=r9.lt;go_simp;refine aA.out _ _ trivial (fun _=>?_)
          try simp only [PS]
          refine kgn (by kernel_rfl) ?_ _;rw [List.length_append] at G9;go_wp2_with fail;go_meet;exact ⟨KY,t,q2,yg,aH,by omega,ht,bZ,b7,G9⟩
        ·refine XRf (by rfl) _ _ (by go_simp) (xAH R a n c q _ D.drew.rd (by omega)) ?_
         rintro e w5 ⟨⟨t,rfl,ht⟩,⟨q2,bZ,b7,cL⟩,bW⟩;refine ⟨_,rfl,?_⟩;have bY:=D.drew.pick cL bW;clear cL bW;refine aA.out _ _ (bY.x.row.cell 0 _ rfl) (fun bH=>?_)
         try simp only [PS]
         refine RDT 10 rfl (fun Kq aA=>?_);go_simp;have b8:=(bY.below (quc _ (.cells #[.int .u8 (48+tu),.int .u8 (48+tv)] 5)));have rT:=(xER w5 #[.int .u8 (48+tu),.int .u8 (48+tv)] 5);have yR:=bY.x.s.lR;have y0:=bY.lt;obtain ⟨TB,aY⟩:∃ z,z=w5.heap.size:=⟨_,rfl⟩;obtain ⟨wb,aS⟩:∃ z,z=(w5.alloc (.cells #[.int .u8 (48+tu),.int .u8 (48+tv)] 5)):=⟨_,rfl⟩;have eV:R<TB:=by omega
         rw [<-aS] at b8;rw [<-aS,<-aY] at rT;rw [<-aS,<-aY];clear aS aY;refine aA.out _ _ (b8.x.row.cell 0 _ rfl) (fun aT=>?_)
         try simp only [PS]
         refine RDT 11 rfl (fun Kq aA=>?_);have dE:=xIR _ _ _ _ (rT.cell 0 _ rfl) (rT.cell 1 _ rfl);obtain ⟨K0,aM⟩:∃ z,z=strOfNums [48+tu,48+tv]:=⟨_,rfl⟩;have eT:K0.size=2:=by rw [aM,strOfNums_size];rfl
         rw [<-aM] at dE;clear aM;obtain ⟨KY,aX⟩:∃ z,(⟨#[122]⟩:ByteArray)++K0=z:=⟨_,rfl⟩;have dQ:KY.size=3:=by rw [<-aX,ByteArray.size_append];show 1+K0.size=3;omega
         have fA:¬ (9223372036854775807<1+K0.size):=by omega
         go_simp;refine aA.out _ _ aT (fun _=>?_)
         try simp only [PS]
         refine TYT 12 (.string KY) rfl aT ?_;simp only [PS];refine TYT 15 (.agg #[.string KY,.string t]) rfl aT ?_;simp only [PS];refine RDT 16 rfl (fun Kq aA=>?_);go_simp;have cC:=b8.below (quc _ (.cells #[.string KY,.string t] 78));have eL:=b8.lt;refine aA.out _ _ (cC.x.row.cell 0 _ rfl) (fun fF=>?_)
         try simp only [PS]
         refine RDT 17 rfl (fun Kq aA=>?_);refine SAL _ (by rfl) _ _ _ (by rfl) w.heap.size Tryz.underlying29 HI.out rfl (by omega) (.slice ya rs.length yc) rs.length _ (by rfl) cC.x.s.own ⟨wb.heap.size,0,none⟩ 1 1 [.string KY,.string t] (by rfl) rfl (World.news_of_block (heap_alloc_new wb _)) (zvX _ _) (by simp;omega) (wb.heap.size+1) (by simp) ?_;intro yg aH w9 aE aB aN cT;have aF:w9.ownsRow w.heap.size 78 2 (.slice (some ⟨yg,0,none⟩) (rs++[(KY,t)]).length aH) (rs++[(KY,t)]).length (qJS (rs++[(KY,t)])):=by rw [qTA,List.length_append];exact aE
         obtain ⟨r9,G9⟩:=cC.push aF aB aN (by simp);clear aE aB aN;refine aA.out _ _ (r9.cell 0 _ rfl) (fun dY=>?_)
         try simp only [PS]
         refine TYT 18 (.pointer (some ⟨SB,0,none⟩)) rfl dY ?_;simp only [PS];refine kPc (rs:=[19]) (by kernel_rfl) (by simp) ?_;refine AllReadyT.last rfl (fun Kq aA=>?_);have l0:=r9.cell 0 _ rfl;have l1:=r9.froz 0 (by simp);have l2:=r9.lt;go_simp;refine aA.out _ _ trivial (fun _=>?_)
         try simp only [PS]
         refine kgn (by kernel_rfl) ?_ _;rw [List.length_append] at G9;go_wp2_with fail;go_meet;exact ⟨KY,t,q2,yg,aH,by omega,ht,bZ,b7,G9⟩
       case rest =>
       obtain ⟨KY,t,q2,yg,aH,dQ,ht,bZ,b7,G⟩:=hcut;clear D;have eW:rs.length+[(KY,t)].length=rs.length+1:=rfl;rw [eW] at G;have fT:(rs++[(KY,t)]).length=rs.length+1:=by simp
       have c0:=G.x.row.cell 0 _ rfl;have c1:=G.x.row.froz 0 (by simp);have c2:=G.x.row.lt;have cF:=xkI (rs++[(KY,t)]) rs.length (by omega);have fQ:(rs++[(KY,t)]).getD rs.length (ByteArray.empty,ByteArray.empty)=(KY,t):=by simp [List.getD]
       rw [fQ] at cF;have cJ:=G.x.s.own;rw [fT] at cJ;have e1:=cJ.cellAt (rs.length*2+1) (by omega);rw [cF.2] at e1;have e2:=cJ.frozenAt (rs.length*2+1);have e3:=(cJ.lt yg rfl).2;have iI:IntKind.i64.wrap (((rs.length+1:Nat):Int)-1)=(rs.length:Int):=by rw [vRg _ (by omega) (by omega)];omega
       have gR:((rs.length+1:Nat):Int)-1=(rs.length:Int):=by omega
       have gS:(rs.length:Int)+1-1=(rs.length:Int):=by omega
       have gV:IntKind.i64.wrap ((rs.length:Int)+1-1)=(rs.length:Int):=by rw [vRg _ (by omega) (by omega)];omega
       have gU:(rs.length:Int)<((rs.length+1:Nat):Int):=by omega
       have gW:(rs.length:Int)<(rs.length:Int)+1:=by omega
       clear cJ cF fQ
       by_cases iH:t.size<=100
       ·have gP:¬ (100<(t.size:Int)):=by omega
        have HG:=hid G;clear G;go_wp2;exact ⟨⟨i+1,q2,rs++[(KY,t)],_,_,rfl,by simp,by simp;omega,by simp;omega,by omega,by omega,aO.snoc _ dQ ht,HG.out⟩,by simp [intOf];omega⟩
       ·have gP:100<(t.size:Int):=by omega
        have eI:(qJS (rs++[(KY,t)])).set (rs.length*2+1) (.string ⟨#[]⟩)=qJS (rs++[(KY,⟨#[]⟩)]):=by
         rw [yrs (rs++[(KY,t)]) rs.length (by omega)]
         congr 1
         simp [List.getD]
        have G':AnS w wc R a n c q2 RB SB (.slice (some ⟨yg,0,none⟩) (rs++[(KY,t)]).length aH) (rs++[(KY,t)]):=by rw [fT];exact G
        have G2:=G'.stored (by omega) (rs.length*2+1) (.string ⟨#[]⟩) (rs++[(KY,⟨#[]⟩)]) (by simp) eI;rw [List.length_append] at G2;have HG:=hid G2;clear G' G2 G eI;go_wp2;exact ⟨⟨i+1,q2,rs++[(KY,⟨#[]⟩)],_,_,rfl,by simp,by simp;omega,by simp;omega,by omega,by omega,aO.snoc _ dQ (Nat.zero_le _),HG.out⟩,by simp [intOf];omega⟩
      ·go_wp2_with fail
       go_meet;exact ⟨q,rs,_,by omega,by omega,dU,aO,D⟩
    ·have gQ:(v == 0)=false:=by simp [hv]
     go_wp2_with fail;go_meet;exact ⟨q+1,rs,_,by omega,by omega,dU,aO,D1⟩
   case rest =>
   clear D1 D aO dU eO q0 q1 v0 v1;obtain ⟨q3,aC,y3,q0,q1,dU,aO,D⟩:=hcut;obtain ⟨ya,yc,rfl,_⟩:=yUy D.x.s.own;go_wp2_with fail;refine (ZfV R a n c (q3) 8 _ D.rd (by omega)).mono ?_;rintro e w4 ⟨⟨v,rfl,v0,v1⟩,cW,cS⟩;have D4:=D.pick cW cS;clear cW cS;clear D
   by_cases hv:v=0
   ·subst hv
    by_cases gL:aC.length=0
    ·have eW:¬ (0<(aC.length:Int)):=by omega
     have gO:aC.length<=102:=by omega
     clear gL;have dL:=D4.x.row.cell 0 _ rfl;have dM:=D4.x.row.froz 0 (by simp);have dN:=D4.x.row.lt;have bJ:=D4.rb.cell 0 _ rfl;have dI:=D4.rb.froz 0 (by simp);have dJ:=D4.rb.lt;have dK:=D4.bs;have dO:=D4.ro;have aD:=hid D4;go_wp2;refine bodyPost_ret (v:=.agg #[(.slice ya aC.length yc)]) (by simp [results,Tryz.results49,go_sem,bJ]) rfl ?_
     first | exact ⟨⟨_,aC,rfl,aD.out.fin.1,by omega,aO⟩,⟨q3+1,by omega,by omega,aD.out.fin.2.1⟩,aD.out.fin.2.2⟩ | exact ⟨⟨_,rfl,aC,aD.out.fin.1,by omega,aO⟩,⟨q3+1,by omega,by omega,aD.out.fin.2.1⟩,aD.out.fin.2.2⟩
    ·have eW:0<(aC.length:Int):=by omega
     obtain ⟨g,cap,gG,_,_⟩:=D4.x.s.own.form (by omega);injection gG with eP _ eQ;subst eP eQ;have c0:=D4.x.row.cell 0 _ rfl;have c1:=D4.x.row.froz 0 (by simp);have c2:=D4.x.row.lt;go_wp2_with fail;refine (ZfV R a n c (q3+1) (aC.length:Int) _ D4.rd (by omega)).mono ?_;rintro e w5 ⟨⟨k',rfl,k0,k1⟩,cL,bW⟩;have D5:=D4.pick cL bW;clear cL bW D4 c0 c1 c2;obtain ⟨k,rfl⟩:∃ x:Nat,k'=(x:Int):=⟨k'.toNat,by omega⟩;have hk:k<aC.length:=by omega
     have iF:(k:Int)<(aC.length:Int):=by omega
     clear k0 k1;go_wp2_with fail;refine (ZfV R a n c (q3+1+1) 4 _ D5.rd (by omega)).mono ?_;rintro e w6 ⟨⟨kk,rfl,gY,gZ⟩,fX,fO⟩;have D6:=D5.pick fX fO;clear fX fO;clear D5;have bG:=xkI aC k hk;have gK:kk=0\/kk=1\/kk=2\/kk=3:=by omega
     clear gY gZ;rcases gK with rfl | rfl | rfl | rfl
     ·go_upto_region 27 with fail
      refine wp_region_held_drew (S:=fun w'=>w'.cell? ⟨SB,0,none⟩=some (.slice (some ⟨g,0,none⟩) aC.length yc)) (by kernel_rfl) (D6.drew.x.row.cell 0 _ rfl) (fun aK=>?_);refine TY 0 (.pointer (some ⟨SB,0,none⟩)) rfl aK ?_;simp only [PS];refine TY 1 (.slice (some ⟨g,0,none⟩) aC.length yc) rfl aK ?_;simp only [PS];refine TY 2 (.int .i64 (k:Int)) rfl aK ?_;simp only [PS];refine TY 3 (.pointer (some ⟨R,0,none⟩)) rfl aK ?_;simp only [PS];refine TY 8 (.pointer (some ⟨R,0,none⟩)) rfl aK ?_;simp only [PS];refine RD 4 rfl (fun Kq aA=>?_);refine XRf (by rfl) _ _ (by go_simp) (ZfV R a n c (q3+1+1+1) 2 _ D6.drew.rd (by omega)) ?_;rintro e w7 ⟨⟨z,rfl,z0,z1⟩,eH,eF⟩;refine ⟨_,rfl,?_⟩;have D7:=D6.drew.pick eH eF;clear eH eF;have gE:IntKind.i64.wrap (20+z)=20+z:=vRg _ (by omega) (by omega);refine aA.out _ _ (D7.x.row.cell 0 _ rfl) (fun aZ=>?_)
      try simp only [PS]
      refine TY 5 (.int .i64 (20+z)) rfl aZ ?_;simp only [PS];refine RD 6 rfl (fun Kq aA=>?_);refine XRf (by rfl) _ _ (by go_simp) (quU ⟨#[122]⟩ (20+z) _ (by decide) (by omega)) ?_;rintro e w8 ⟨⟨t,rfl,ht⟩,eC⟩;refine ⟨_,rfl,?_⟩;have D8:=D7.below eC;clear eC;refine aA.out _ _ (D8.x.row.cell 0 _ rfl) (fun aU=>?_)
      try simp only [PS]
      refine wpAnyH_ready (rs:=[7,9]) (by kernel_rfl) (by simp) ?_;refine AllReadyH.cons rfl (fun Kq aA=>?_) (AllReadyH.cons rfl (fun Kq aA=>?_) AllReadyH.nil)
      ·go_simp
       have D9:=D8.below (quc _ (.cells #[.string ⟨#[]⟩,.string ⟨#[97]⟩,.string t] 9));have rT:=xER w8 #[.string ⟨#[]⟩,.string ⟨#[97]⟩,.string t] 9;have yR:=D8.x.s.lR;have y0:=D8.lt;obtain ⟨TB,aY⟩:∃ z,z=w8.heap.size:=⟨_,rfl⟩;obtain ⟨w9,aR⟩:∃ z,z=w8.alloc (.cells #[.string ⟨#[]⟩,.string ⟨#[97]⟩,.string t] 9):=⟨_,rfl⟩;have eV:R<TB:=by omega
       rw [<-aR] at D9;rw [<-aR,<-aY] at rT;rw [<-aR,<-aY];clear aR aY;refine aA.out _ _ (D9.x.row.cell 0 _ rfl) (fun bQ=>?_)
       try simp only [PS]
       refine RD 9 rfl (fun Kq aA=>?_);refine XRf (by rfl) _ _ (by go_simp) (ZfV R a n c (q3+1+1+1+1) 3 _ D9.rd (by omega)) ?_;rintro e eK ⟨⟨x',rfl,x0,x1⟩,cK,bV⟩;refine ⟨_,rfl,?_⟩;have cY:=D9.pick cK bV;obtain ⟨x,rfl⟩:∃ k:Nat,x'=(k:Int):=⟨x'.toNat,by omega⟩;have gX:x<3:=by omega
       have eZ:(x:Int)<3:=by omega
       clear x0 x1;have rT:=rT.grown bV (fun e=>by injection e with e;omega);have DL:=cY;clear cK bV;refine aA.out _ _ (cY.x.row.cell 0 _ rfl) (fun bC=>?_)
       try simp only [PS]
       refine TY 10 (.pointer (some ⟨TB,x,none⟩)) rfl bC ?_;simp only [PS];refine RD 11 rfl (fun Kq aA=>?_)
       obtain ⟨tx,gI,eY⟩:∃ tx:ByteArray,eK.cell? ⟨TB,x,none⟩=some (.string tx)/\tx.size<=64000:=by
        have hx:x=0\/x=1\/x=2:=by omega
        rcases hx with rfl | rfl | rfl
        ·exact ⟨_,rT.cell 0 _ rfl,by decide⟩
        ·exact ⟨_,rT.cell 1 _ rfl,by decide⟩
        ·exact ⟨_,rT.cell 2 _ rfl,ht⟩
       go_simp;refine aA.out _ _ bC (fun _=>?_)
       try simp only [PS]
       refine TY 12 (.pointer (some ⟨g,k*2,none⟩)) rfl bC ?_;simp only [PS];refine TY 13 (.pointer (some ⟨g,k*2,none⟩)) rfl bC ?_;simp only [PS];refine RD 14 rfl (fun Kq aA=>?_);have u0:=DL.x.s.own.cellAt (k*2) (by omega);rw [bG.1] at u0;have u1:=DL.x.s.own.frozenAt (k*2);have u2:=(DL.x.s.own.lt g rfl).2;have DM:=DL.stored (by omega) (k*2) (.string tx) _ (by simp) (QkY aC k hk tx);go_simp;refine aA.out _ _ (by have h9:=DM.x.row.cell 0 _ rfl;rw [List.length_set] at h9;exact h9) (fun eS=>?_)
       try simp only [PS]
       refine DN ?_;have aI:=aO.set k (tx,(aC.getD k (ByteArray.empty,ByteArray.empty)).2) eY (aO.get k).2;have bI:(aC.set k (tx,(aC.getD k (ByteArray.empty,ByteArray.empty)).2)).length<=102:=by simp;omega
       obtain ⟨cM,aP⟩:∃ z,z=aC.set k (tx,(aC.getD k (ByteArray.empty,ByteArray.empty)).2):=⟨_,rfl⟩;have cH:cM.length=aC.length:=by rw [aP,List.length_set]
       rw [<-aP] at DM aI bI;rw [cH] at DM;have fC:=hid cH;clear aP u0 u1 u2 cH;have dL:=DM.x.row.cell 0 _ rfl;have dM:=DM.x.row.froz 0 (by simp);have dN:=DM.x.row.lt;have bJ:=DM.rb.cell 0 _ rfl;have dI:=DM.rb.froz 0 (by simp);have dJ:=DM.rb.lt;have dK:=DM.bs;have dO:=DM.ro;have aD:=hid DM;go_wp2;refine bodyPost_ret (v:=.agg #[(.slice (some ⟨g,0,none⟩) aC.length yc)]) (by simp [results,Tryz.results49,go_sem,bJ]) rfl ?_
       first | exact ⟨⟨_,cM,rfl,aD.out.fin.1,bI,aI⟩,⟨q3+1+1+1+1+1,by omega,by omega,aD.out.fin.2.1⟩,aD.out.fin.2.2⟩ | exact ⟨⟨_,rfl,cM,aD.out.fin.1,bI,aI⟩,⟨q3+1+1+1+1+1,by omega,by omega,aD.out.fin.2.1⟩,aD.out.fin.2.2⟩
      ·refine XRf (by rfl) _ _ (by go_simp) (ZfV R a n c (q3+1+1+1+1) 3 _ D8.rd (by omega)) ?_
       rintro e eK ⟨⟨x',rfl,x0,x1⟩,cK,bV⟩;refine ⟨_,rfl,?_⟩;have cY:=D8.pick cK bV;obtain ⟨x,rfl⟩:∃ k:Nat,x'=(k:Int):=⟨x'.toNat,by omega⟩;have gX:x<3:=by omega
       have eZ:(x:Int)<3:=by omega
       clear x0 x1;clear cK bV;refine aA.out _ _ (cY.x.row.cell 0 _ rfl) (fun aV=>?_)
       try simp only [PS]
       refine RD 7 rfl (fun Kq aA=>?_);go_simp;have D9:=cY.below (quc _ (.cells #[.string ⟨#[]⟩,.string ⟨#[97]⟩,.string t] 9));have rT:=xER eK #[.string ⟨#[]⟩,.string ⟨#[97]⟩,.string t] 9;have yR:=cY.x.s.lR;have y0:=cY.lt;obtain ⟨TB,aY⟩:∃ z,z=eK.heap.size:=⟨_,rfl⟩;obtain ⟨w9,aR⟩:∃ z,z=eK.alloc (.cells #[.string ⟨#[]⟩,.string ⟨#[97]⟩,.string t] 9):=⟨_,rfl⟩;have eV:R<TB:=by omega
       rw [<-aR] at D9;rw [<-aR,<-aY] at rT;rw [<-aR,<-aY];clear aR aY;have DL:=D9;refine aA.out _ _ (D9.x.row.cell 0 _ rfl) (fun bU=>?_)
       try simp only [PS]
       refine TY 10 (.pointer (some ⟨TB,x,none⟩)) rfl bU ?_;simp only [PS];refine RD 11 rfl (fun Kq aA=>?_)
       obtain ⟨tx,gI,eY⟩:∃ tx:ByteArray,w9.cell? ⟨TB,x,none⟩=some (.string tx)/\tx.size<=64000:=by
        have hx:x=0\/x=1\/x=2:=by omega
        rcases hx with rfl | rfl | rfl
        ·exact ⟨_,rT.cell 0 _ rfl,by decide⟩
        ·exact ⟨_,rT.cell 1 _ rfl,by decide⟩
        ·exact ⟨_,rT.cell 2 _ rfl,ht⟩
       go_simp;refine aA.out _ _ bU (fun _=>?_)
       try simp only [PS]
       refine TY 12 (.pointer (some ⟨g,k*2,none⟩)) rfl bU ?_;simp only [PS];refine TY 13 (.pointer (some ⟨g,k*2,none⟩)) rfl bU ?_;simp only [PS];refine RD 14 rfl (fun Kq aA=>?_);have u0:=DL.x.s.own.cellAt (k*2) (by omega);rw [bG.1] at u0;have u1:=DL.x.s.own.frozenAt (k*2);have u2:=(DL.x.s.own.lt g rfl).2;have DM:=DL.stored (by omega) (k*2) (.string tx) _ (by simp) (QkY aC k hk tx);go_simp;refine aA.out _ _ (by have h9:=DM.x.row.cell 0 _ rfl;rw [List.length_set] at h9;exact h9) (fun cE=>?_)
       try simp only [PS]
       refine DN ?_;have aI:=aO.set k (tx,(aC.getD k (ByteArray.empty,ByteArray.empty)).2) eY (aO.get k).2;have bI:(aC.set k (tx,(aC.getD k (ByteArray.empty,ByteArray.empty)).2)).length<=102:=by simp;omega
       obtain ⟨cM,aP⟩:∃ z,z=aC.set k (tx,(aC.getD k (ByteArray.empty,ByteArray.empty)).2):=⟨_,rfl⟩;have cH:cM.length=aC.length:=by rw [aP,List.length_set]
       rw [<-aP] at DM aI bI;rw [cH] at DM;have fC:=hid cH;clear aP u0 u1 u2 cH;have dL:=DM.x.row.cell 0 _ rfl;have dM:=DM.x.row.froz 0 (by simp);have dN:=DM.x.row.lt;have bJ:=DM.rb.cell 0 _ rfl;have dI:=DM.rb.froz 0 (by simp);have dJ:=DM.rb.lt;have dK:=DM.bs;have dO:=DM.ro;have aD:=hid DM;go_wp2;refine bodyPost_ret (v:=.agg #[(.slice (some ⟨g,0,none⟩) aC.length yc)]) (by simp [results,Tryz.results49,go_sem,bJ]) rfl ?_
       first | exact ⟨⟨_,cM,rfl,aD.out.fin.1,bI,aI⟩,⟨q3+1+1+1+1+1,by omega,by omega,aD.out.fin.2.1⟩,aD.out.fin.2.2⟩ | exact ⟨⟨_,rfl,cM,aD.out.fin.1,bI,aI⟩,⟨q3+1+1+1+1+1,by omega,by omega,aD.out.fin.2.1⟩,aD.out.fin.2.2⟩
     ·go_upto_region 29 with fail
      refine wp_region_held_drew (S:=fun w'=>w'.cell? ⟨SB,0,none⟩=some (.slice (some ⟨g,0,none⟩) aC.length yc)) (by kernel_rfl) (D6.drew.x.row.cell 0 _ rfl) (fun aK=>?_);refine TY 0 (.pointer (some ⟨SB,0,none⟩)) rfl aK ?_;simp only [PS];refine TY 1 (.slice (some ⟨g,0,none⟩) aC.length yc) rfl aK ?_;simp only [PS];refine TY 2 (.int .i64 (k:Int)) rfl aK ?_;simp only [PS];refine TY 3 (.pointer (some ⟨R,0,none⟩)) rfl aK ?_;simp only [PS];refine RD 4 rfl (fun Kq aA=>?_);refine XRf (by rfl) _ _ (by go_simp) (ZfV R a n c (q3+1+1+1) 2 _ D6.drew.rd (by omega)) ?_;rintro e w7 ⟨⟨z,rfl,z0,z1⟩,eH,eF⟩;refine ⟨_,rfl,?_⟩;have D7:=D6.drew.pick eH eF;clear eH eF;have gE:IntKind.i64.wrap (100+z)=100+z:=vRg _ (by omega) (by omega);refine aA.out _ _ (D7.x.row.cell 0 _ rfl) (fun aZ=>?_)
      try simp only [PS]
      refine TY 5 (.int .i64 (100+z)) rfl aZ ?_;simp only [PS];refine RD 6 rfl (fun Kq aA=>?_);refine XRf (by rfl) _ _ (by go_simp) (quU ⟨#[118]⟩ (100+z) _ (by decide) (by omega)) ?_;rintro e w8 ⟨⟨t,rfl,ht⟩,eC⟩;refine ⟨_,rfl,?_⟩;have DL:=D7.below eC;clear eC;refine aA.out _ _ (DL.x.row.cell 0 _ rfl) (fun aU=>?_)
      try simp only [PS]
      refine TY 7 (.pointer (some ⟨g,k*2,none⟩)) rfl aU ?_;simp only [PS];refine TY 8 (.pointer (some ⟨g,k*2+1,none⟩)) rfl aU ?_;simp only [PS];refine RD 9 rfl (fun Kq aA=>?_);have u0:=DL.x.s.own.cellAt (k*2+1) (by omega);rw [bG.2] at u0;have u1:=DL.x.s.own.frozenAt (k*2+1);have u2:=(DL.x.s.own.lt g rfl).2;have DM:=DL.stored (by omega) (k*2+1) (.string t) _ (by simp) (yrs aC k hk t);go_simp;refine aA.out _ _ (by have h9:=DM.x.row.cell 0 _ rfl;rw [List.length_set] at h9;exact h9) (fun bQ=>?_)
      try simp only [PS]
      refine DN ?_;have aI:=aO.set k ((aC.getD k (ByteArray.empty,ByteArray.empty)).1,t) (aO.get k).1 ht;have bI:(aC.set k ((aC.getD k (ByteArray.empty,ByteArray.empty)).1,t)).length<=102:=by simp;omega
      obtain ⟨cM,aP⟩:∃ z,z=aC.set k ((aC.getD k (ByteArray.empty,ByteArray.empty)).1,t):=⟨_,rfl⟩;have cH:cM.length=aC.length:=by rw [aP,List.length_set]
      rw [<-aP] at DM aI bI;rw [cH] at DM;have fC:=hid cH;clear aP u0 u1 u2 cH;have dL:=DM.x.row.cell 0 _ rfl;have dM:=DM.x.row.froz 0 (by simp);have dN:=DM.x.row.lt;have bJ:=DM.rb.cell 0 _ rfl;have dI:=DM.rb.froz 0 (by simp);have dJ:=DM.rb.lt;have dK:=DM.bs;have dO:=DM.ro;have aD:=hid DM;go_wp2;refine bodyPost_ret (v:=.agg #[(.slice (some ⟨g,0,none⟩) aC.length yc)]) (by simp [results,Tryz.results49,go_sem,bJ]) rfl ?_
      first | exact ⟨⟨_,cM,rfl,aD.out.fin.1,bI,aI⟩,⟨q3+1+1+1+1,by omega,by omega,aD.out.fin.2.1⟩,aD.out.fin.2.2⟩ | exact ⟨⟨_,rfl,cM,aD.out.fin.1,bI,aI⟩,⟨q3+1+1+1+1,by omega,by omega,aD.out.fin.2.1⟩,aD.out.fin.2.2⟩
     ·have eU:=aO.get k
      obtain ⟨⟨K1,V1⟩,dV⟩:∃ z,z=aC.getD k (ByteArray.empty,ByteArray.empty):=⟨_,rfl⟩;rw [<-dV] at eU bG;clear dV;go_upto_region 31 with fail;refine yO4 (10) (S:=fun w'=>w'.cell? ⟨SB,0,none⟩=some (.slice (some ⟨g,0,none⟩) aC.length yc)) (by kernel_rfl) (D6.drew.x.row.cell 0 _ rfl) (fun aK=>?_);refine TYT 0 (.pointer (some ⟨SB,0,none⟩)) rfl aK ?_;simp only [PS];refine TYT 1 ((.slice (some ⟨g,0,none⟩) aC.length yc)) rfl aK ?_;simp only [PS];refine TYT 2 (.pointer (some ⟨SB,0,none⟩)) rfl aK ?_;simp only [PS];refine TYT 3 ((.slice (some ⟨g,0,none⟩) aC.length yc)) rfl aK ?_;simp only [PS];refine TYT 4 (.int .i64 (k:Int)) rfl aK ?_;simp only [PS];refine TYT 5 (.pointer (some ⟨g,k*2,none⟩)) rfl aK ?_;simp only [PS];refine RDT 6 rfl (fun Kq aA=>?_);have u0:=D6.drew.x.s.own.cellAt (k*2) (by omega);have u1:=D6.drew.x.s.own.cellAt (k*2+1) (by omega);rw [bG.1] at u0;rw [bG.2] at u1;have u2:=(D6.drew.x.s.own.lt g rfl).2;go_simp;refine aA.out _ _ aK (fun _=>?_)
      try simp only [PS]
      refine RDT 7 rfl (fun Kq aA=>?_);go_simp;have F7:=(D6.below (quc _ (.cells #[.string K1,.string V1] 78))).drew;have eL:=D6.lt;refine aA.out _ _ (F7.x.row.cell 0 _ rfl) (fun aU=>?_)
      try simp only [PS]
      refine RDT 8 rfl (fun Kq aA=>?_);refine SAL _ (by rfl) _ _ _ (by rfl) w.heap.size Tryz.underlying29 HI.out rfl (by omega) (.slice (some ⟨g,0,none⟩) aC.length yc) aC.length _ (by rfl) F7.x.s.own ⟨w6.heap.size,0,none⟩ 1 1 [.string K1,.string V1] (by rfl) rfl (World.news_of_block (heap_alloc_new w6.drew _)) (zvX _ _) (by simp;omega) (w6.heap.size+1) (by simp) ?_;intro yg aH w9 aE aB aN cT;have aF:w9.ownsRow w.heap.size 78 2 (.slice (some ⟨yg,0,none⟩) (aC++[(K1,V1)]).length aH) (aC++[(K1,V1)]).length (qJS (aC++[(K1,V1)])):=by rw [qTA,List.length_append];exact aE
      obtain ⟨r9,G9⟩:=F7.push aF aB aN (by simp);clear aE aB aN;refine aA.out _ _ (r9.cell 0 _ rfl) (fun bQ=>?_)
      try simp only [PS]
      refine TYT 9 (.pointer (some ⟨SB,0,none⟩)) rfl bQ ?_;simp only [PS];refine kPc (rs:=[10]) (by kernel_rfl) (by simp) ?_;refine AllReadyT.last rfl (fun Kq aA=>?_);have l0:=r9.cell 0 _ rfl;have l1:=r9.froz 0 (by simp);have l2:=r9.lt;go_simp;refine aA.out _ _ trivial (fun _=>?_)
      try simp only [PS]
      refine kgn (by kernel_rfl) ?_ _;have aI:=aO.snoc (K1,V1) eU.1 eU.2;have bI:(aC++[(K1,V1)]).length<=102:=by simp;omega
      have cN:AnS w (w9.setCell ⟨SB,0,none⟩ (.slice (some ⟨yg,0,none⟩) (aC.length+1) aH)) R a n c (q3+1+1+1) RB SB (.slice (some ⟨yg,0,none⟩) (aC.length+1) aH) (aC++[(K1,V1)]):=by rw [List.length_append] at G9;exact G9
      clear G9 r9 l0 l1 l2;have dL:=cN.x.row.cell 0 _ rfl;have dM:=cN.x.row.froz 0 (by simp);have dN:=cN.x.row.lt;have bJ:=cN.rb.cell 0 _ rfl;have dI:=cN.rb.froz 0 (by simp);have dJ:=cN.rb.lt;have dK:=cN.bs;have dO:=cN.ro;have aD:=hid cN;go_wp2;refine bodyPost_ret (v:=.agg #[(.slice (some ⟨yg,0,none⟩) (aC.length+1) aH)]) (by simp [results,Tryz.results49,go_sem,bJ]) rfl ?_
      first | exact ⟨⟨_,(aC++[(K1,V1)]),rfl,aD.out.fin.1,bI,aI⟩,⟨q3+1+1+1,by omega,by omega,aD.out.fin.2.1⟩,aD.out.fin.2.2⟩ | exact ⟨⟨_,rfl,(aC++[(K1,V1)]),aD.out.fin.1,bI,aI⟩,⟨q3+1+1+1,by omega,by omega,aD.out.fin.2.1⟩,aD.out.fin.2.2⟩
     ·go_wp2
      go_loopw [11] (fun iv wr=>∃ (i:Nat) (rs:List Pr) (Y:Value) (W:World),W=wr/\iv=.int .i64 (i:Int)/\i<=rs.length/\rs.length<=101/\psLe rs 64000 64000/\AnS w W R a n c (q3+1+1+1) RB SB Y rs) (fun iv _=>(300-intOf iv).toNat)
      case atStart=>exact ⟨0,aC,_,_,rfl,rfl,Nat.zero_le _,by omega,aO,D6⟩
      case round =>
       obtain ⟨i,rs,y,wr,rfl,rfl,hi,gN,aI,D⟩:=hrel;clear D6 bG;obtain ⟨ya,yc,rfl,_⟩:=yUy D.x.s.own;have c0:=D.x.row.cell 0 _ rfl;have c1:=D.x.row.froz 0 (by simp);have c2:=D.x.row.lt
       by_cases gM:(rs.length:Int)<101
       ·have gJ:IntKind.i64.wrap ((i:Int)+1)=(i:Int)+1:=vRg _ (by omega) (by omega)
        obtain ⟨tu,tv,t1,t2,t3,t4,t5,t6,t7,t8⟩:=kwr i (by omega);have g6:IntKind.i64.wrap (48+tu)=48+tu:=vRg _ (by omega) (by omega);have hI:IntKind.i64.wrap (48+tv)=48+tv:=vRg _ (by omega) (by omega);have iA:IntKind.i64.wrap tu=tu:=vRg _ (by omega) (by omega);have iB:IntKind.u8.wrap (48+tu)=48+tu:=by simp [IntKind.wrap,IntKind.bits,IntKind.signed];omega
        have iC:IntKind.u8.wrap (48+tv)=48+tv:=by simp [IntKind.wrap,IntKind.bits,IntKind.signed];omega
        have rT:=xER wr #[.int .u8 (48+tu),.int .u8 (48+tv)] 5;have dE:=xIR _ _ _ _ (rT.cell 0 _ rfl) (rT.cell 1 _ rfl);obtain ⟨K0,aM⟩:∃ z,z=strOfNums [48+tu,48+tv]:=⟨_,rfl⟩;have eT:K0.size=2:=by rw [aM,strOfNums_size];rfl
        rw [<-aM] at dE;clear aM rT;obtain ⟨KY,aX⟩:∃ z,(⟨#[122,122]⟩:ByteArray)++K0=z:=⟨_,rfl⟩;have dQ:KY.size=4:=by rw [<-aX,ByteArray.size_append];show 2+K0.size=4;omega
        have fA:¬ (9223372036854775807<2+K0.size):=by omega
        have F2:=(D.below (quc _ (.cells #[.int .u8 (48+tu),.int .u8 (48+tv)] 5))).below (quc _ (.cells #[.string KY,.string ⟨#[]⟩] 78));have eL:=D.lt;have fB:=hid F2;clear F2
        go_wp2_with (first | (at_builtin;refine WAL _ rfl _ _ 29 rfl w.heap.size Tryz.underlying29 HI.out rfl (by omega) _ rs.length _ rfl fB.out.x.s.own ⟨wr.heap.size+1,0,none⟩ 1 1 [.string KY,.string ⟨#[]⟩] rfl rfl (qNT _ _ _ _) (zvX _ _) (by simp;omega) (wr.heap.size+1+1) (by simp) ?_;intro yg aH w9 aE aB aN cT;have aF:w9.ownsRow w.heap.size 78 2 (.slice (some ⟨yg,0,none⟩) (rs++[((KY,⟨#[]⟩):Pr)]).length aH) (rs++[((KY,⟨#[]⟩):Pr)]).length (qJS (rs++[((KY,⟨#[]⟩):Pr)])):=(by rw [qTA,List.length_append];exact aE);obtain ⟨r9,G9⟩:=fB.out.push aF aB aN (by simp);have l0:=r9.cell 0 _ rfl;have l1:=r9.froz 0 (by simp);have l2:=r9.lt;rw [List.length_append] at G9;have gF:=hid G9;clear aE aB aN aF G9 r9))
        exact ⟨⟨i+1,rs++[((KY,⟨#[]⟩):Pr)],_,_,rfl,by simp,by simp;omega,by simp;omega,aI.snoc _ (by show KY.size<=64000;omega) (Nat.zero_le _),gF.out⟩,by simp [intOf];omega⟩
       ·clear c0 c1 c2
        have dL:=D.x.row.cell 0 _ rfl;have dM:=D.x.row.froz 0 (by simp);have dN:=D.x.row.lt;have bJ:=D.rb.cell 0 _ rfl;have dI:=D.rb.froz 0 (by simp);have dJ:=D.rb.lt;have dK:=D.bs;have dO:=D.ro;have aD:=hid D;go_wp2;refine bodyPost_ret (v:=.agg #[(.slice ya rs.length yc)]) (by simp [results,Tryz.results49,go_sem,bJ]) rfl ?_
        first | exact ⟨⟨_,rs,rfl,aD.out.fin.1,by omega,aI⟩,⟨q3+1+1+1,by omega,by omega,aD.out.fin.2.1⟩,aD.out.fin.2.2⟩ | exact ⟨⟨_,rfl,rs,aD.out.fin.1,by omega,aI⟩,⟨q3+1+1+1,by omega,by omega,aD.out.fin.2.1⟩,aD.out.fin.2.2⟩
   ·have gQ:(v == 0)=false:=by simp [hv]
    have dL:=D4.x.row.cell 0 _ rfl;have dM:=D4.x.row.froz 0 (by simp);have dN:=D4.x.row.lt;have bJ:=D4.rb.cell 0 _ rfl;have dI:=D4.rb.froz 0 (by simp);have dJ:=D4.rb.lt;have dK:=D4.bs;have dO:=D4.ro;have aD:=hid D4;go_wp2;refine bodyPost_ret (v:=.agg #[(.slice ya aC.length yc)]) (by simp [results,Tryz.results49,go_sem,bJ]) rfl ?_
    first | exact ⟨⟨_,aC,rfl,aD.out.fin.1,by omega,aO⟩,⟨q3+1,by omega,by omega,aD.out.fin.2.1⟩,aD.out.fin.2.2⟩ | exact ⟨⟨_,rfl,aC,aD.out.fin.1,by omega,aO⟩,⟨q3+1,by omega,by omega,aD.out.fin.2.1⟩,aD.out.fin.2.2⟩
end Go.Proofs.YtehbpeinnepdcaaGreatDoor
