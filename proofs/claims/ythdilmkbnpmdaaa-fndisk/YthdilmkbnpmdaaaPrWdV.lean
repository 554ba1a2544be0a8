import Derived.Test.YthdilmkbnpmdaaaPrG31
set_option maxHeartbeats 32000000
namespace Go.Proofs.Ythdilmkbnpmdaaa
open Go.RowKit Go.Proofs.Ythdilmkbnpmdaaa.nw
set_option maxRecDepth 8000
set_option linter.unusedVariables false
set_option linter.unusedSimpArgs false
theorem forge_r (R:Nat) (a:Option Addr) (n c:Nat) (p:Int) (w:World) (h:Rdr w R a n c p) (hp:p<99980000):Calls Try.prog 36 #[.pointer (some ⟨R,0,none⟩)] w fun r w'=>WrPost w w' r/\RdTo w R a n c p 60 w':=by
 have p0:=h.p0
 obtain ⟨x,HX⟩:∃ x,Hid (x=(newWo 12 1).doE openE):=⟨_,hid rfl⟩
 have HG:Hid (x.good 12):=by show Wo.good _ _;rw [HX.out];exact (newWo_good (n:=12) (wd:=1) (by omega)).doE openE
 have HU:Hid (x.up=true\/x.S<=0):=by show _\/_;rw [HX.out];exact doE_up (.inr (Int.le_refl 0)) _
 have HW:Hid (x.w=1):=by show _=_;rw [HX.out,doE_w];rfl
 have HM:=hid HG.out.ok.le
 go_enter Try.func36,Try.ntmps36
 go_wp2_with fail
 generalize e_v1:w.alloc _=v1
 obtain ⟨hb,z_v1,b2⟩:=bx1 e_v1
 clear e_v1
 have hE:Below w.heap.size w v1:=hb
 clear hb
 refine (nw_w 12 1 _ (by omega) (by omega)).mono ?_
 rintro e v2 ⟨q0,rfl,F0,hb2⟩
 have s2:=hb2.size
 replace b2:=b2.below hb2
 replace hE:=hE.trans (hb2.mono hE.size)
 have F1:=F0.mono (G:=fun b=>w.heap.size+1<=b) (fun b _ k=>by rcases k with k | k;exact k.elim;omega)
 have CO:=hid (open_do (newWo 12 1) q0 _ v2 F1 (newWo_ok (by omega)))
 rw [<-HX.out] at CO
 clear F0 F1 hb2
 unfold worldW at CO ⊢
 go_wp2_with fail
 refine CO.out.mono ?_
 rintro e v3 ⟨q,rfl,F3,hb3⟩
 have s3:=hb3.size
 replace b2:=b2.below hb3
 replace hE:=hE.trans (hb3.mono hE.size)
 clear hb3 CO
 unfold worldW
 go_upto_region 2 with fail
 generalize e_v4:v3.alloc _=v4
 obtain ⟨hb,z_v4,b3⟩:=bx1 e_v4
 clear e_v4
 replace b2:=b2.below hb
 replace F3:=(F3.mono (G:=fun b=>w.heap.size+1<=b/\b≠v3.heap.size) (fun b hl k=>by rcases k with k | k<;>omega)).below hb
 replace hE:=hE.trans (hb.mono hE.size)
 obtain ⟨B,e_B⟩:∃ B,B=v3.heap.size:=⟨_,rfl⟩
 rw [<-e_B] at b3 F3 ⊢
 have S0:FgS w v4 R a n c p B x q:=⟨h.keep (N:=w.heap.size) h.lts.1 h.lts.2 hE,grown_of_below _ hE,h.lts.1,h.lts.2,b2.now,b3.now,by omega,F3⟩
 clear hb b2 b3 F3 hE e_B z_v4 s3 s2 z_v1 h
 generalize Value.agg _=A0
 generalize Value.agg _=A1
 generalize Value.agg _=A2
 go_wp2_with fail
 go_loopw [4] (fun iv wr=>FgL w R a n c p B x q iv wr) (fun iv _=>60-(intOf iv).toNat)
 case atStart=>exact ⟨0,by omega,rfl,by rw [show p+((0:Nat):Int)=p by omega];exact S0⟩
 case round =>
  obtain ⟨i,hi,rfl,S1⟩:=hrel
  clear S0
  by_cases hlt:i<60
  ·have hlt':(i:Int)<60:=by omega
   go_wp2_with fail
   refine (many_r _ 20 _ (by decide) (by omega)).mono ?_
   rintro e w1 ⟨⟨t,rfl,ht⟩,hb1⟩
   have S2:=S1.below hb1
   clear hb1 S1
   go_wp2_with fail
   refine (pick_r R a n c (p+i) 900 _ S2.rd (by omega)).mono ?_
   rintro e w2 ⟨⟨v',rfl,v0,v1⟩,hr,hg⟩
   have S3:=S2.pick hr hg
   clear hr hg S2
   obtain ⟨v,rfl⟩:∃ k:Nat,v'=(k:Int):=⟨v'.toNat,by omega⟩
   have vl:i+v<1000:=by omega
   have CD:=dec_r 3 (i+v) w2 (by simpa using vl) (by omega)
   rw [Int.natCast_add] at CD
   go_wp2_with fail
   refine CD.mono ?_
   rintro e w3 ⟨rfl,hb3⟩
   have S4:=S3.below hb3
   clear hb3 S3 CD
   have hdl:(decB (i+v)).size<=64000:=by have:=decB_size 2 (i+v) (by simpa using vl);omega
   go_upto_region 6 with fail
   generalize e_v5:w3.alloc _=v5
   obtain ⟨hb,z_v5,bB⟩:=bx1 e_v5
   clear e_v5
   have S5:=S4.below hb
   clear hb S4
   obtain ⟨TX,hTX⟩:∃ T,T=t++decB (i+v):=⟨_,rfl⟩
   have hTs:TX.size<=128000:=by rw [hTX,ByteArray.size_append];omega
   rw [<-hTX] at bB ⊢
   obtain ⟨b,HB⟩:∃ b:List Ch,Hid (b=[(⟨#[107]⟩,TX,false)]):=⟨_,hid rfl⟩
   have hbl:b.length=1:=by rw [HB.out];rfl
   have hbs:∀ y∈b,y.1.size<=1048576/\y.2.1.size<=1048576:=by
    rw [HB.out];intro y hy
    rw [List.mem_singleton.1 hy]
    exact ⟨by show (1:Nat)<=_;omega,by show TX.size<=_;omega⟩
   have hch:Chs v5 (some ⟨w3.heap.size,0,none⟩) b:=by
    rw [HB.out]
    exact Row.chs bB.now
   have HBS:=hid hbs
   clear hbs
   obtain ⟨bb,e_bb⟩:∃ k,k=w3.heap.size:=⟨_,rfl⟩
   rw [<-e_bb] at hch ⊢
   clear hTX bB z_v5 e_bb hTs hdl
   generalize Value.agg _=A3
   have CM:=commit_s x.W x.S x.L x.T x.H x.F x.R x.U x.O q.s x.rs q.cs (some ⟨bb,0,none⟩) b 1 v5 S5.wo.at.h3 HM.out.l3 HM.out.s3 hch (by omega) HBS.out
   rw [hbl] at CM
   obtain ⟨D,hD⟩:∃ D,D=commitD x.W x.S x.L x.T x.H x.F x.R x.U x.O x.rs b:=⟨_,rfl⟩
   rw [<-hD] at CM
   have HD:=hid hD
   clear hD
   have CMH:=hid CM
   clear CM
   refine wp_region_lit ?_
   refine wpList_fieldAt rfl _ _ _ rfl (.pointer (some ⟨B,4,none⟩)) (by go_simp) ?_
   simp only [PS]
   refine wpList_load_mid rfl 79 _ rfl (B) 4 rfl [.int .i64 x.W,.int .i64 x.S,.int .i64 x.L,.int .i64 x.T,.int .i64 x.H,.int .i64 x.F,.int .i64 x.R,.int .i64 x.U,.int .i64 x.O,.slice q.s x.rs.length q.cs] _ (Row.rangeMid (pre:=[.int .i64 x.w,.slice q.a x.ss.length q.c,.slice q.a' x.ws.length q.c',.bool x.up]) (cs:=[.int .i64 x.W,.int .i64 x.S,.int .i64 x.L,.int .i64 x.T,.int .i64 x.H,.int .i64 x.F,.int .i64 x.R,.int .i64 x.U,.int .i64 x.O,.slice q.s x.rs.length q.cs]) (post:=[.slice q.p x.P.length q.cp,.slice q.t x.ts.length q.ct]) S5.r3) Try.underlying79 rfl info_stG ?_
   simp only [PS]
   go_wp2_with fail
   refine CMH.out.mono ?_
   rintro e v6 ⟨oa,oc,ob,oe,rfl,hcap,own,g1,g2,hb6⟩
   have S6:=S5.below hb6
   have hch6:=hch.below hb6
   clear S5 hch hb6 CMH g1 g2 hcap
   unfold dnV
   go_upto_region 7 with fail
   generalize e_v7:v6.alloc _=v7
   obtain ⟨hb,z_v7,bX⟩:=bx1 e_v7
   clear e_v7
   obtain ⟨X,e_X⟩:∃ k,k=v6.heap.size:=⟨_,rfl⟩
   rw [<-e_X] at bX ⊢
   have J0:FgJ w v7 R a n c (p+i+1) B x q X D oa oc ob oe bb b:=⟨S6.below hb,bX.now,(own.below hb).p.ops,hch6.below hb⟩
   clear S6 own hch6 hb bX z_v7 e_X
   generalize Value.agg _=A4
   generalize Value.agg _=A5
   by_cases hC:D.C=0
   ·obtain ⟨at0,d,rest,ho,h0,h1,hd⟩:=commit_first (W:=x.W) (S:=x.S) (L:=x.L) (T:=x.T) (H:=x.H) (F:=x.F) (R:=x.R) (U:=x.U) (O:=x.O) (rs:=x.rs) (b:=b) (by rw [<-HD.out];exact hC)
    rw [<-HD.out] at ho
    have hS:x.S<=(x.ss.length:Int):=by
     rcases HU.out with k | k
     ·rw [HG.out.u k];omega
     ·omega
    obtain ⟨at1,rfl⟩:∃ k:Nat,at0=(k:Int):=⟨at0.toNat,by omega⟩
    have hat:at1<x.ss.length:=by omega
    have hol:0<D.ops.length:=by rw [ho];simp
    have HO:=hid ho
    have HC:=hid hC
    clear ho hC
    obtain ⟨gs,os,old,hqa,hoc,HOLD⟩:=J0.s.wo.at.h1.at hat
    have HQA:=hid hqa
    clear hqa
    have hos:old.size=64:=by
     have:=(diskOk_of HG.out.d).2.1 old (by rw [HOLD.out];simp [List.getD,hat])
     omega
    obtain ⟨go,oo,hob,hoo⟩:∃ go oo,ob=some ⟨go,oo,none⟩/\∀ wx:World,Ops wx ob D.ops->wx.cell? ⟨go,oo+1,none⟩=some (.int .i64 (at1:Int))/\wx.cell? ⟨go,oo+2,none⟩=some (.string d):=by
     obtain ⟨go,oo,_,_,_,e1,_⟩:=J0.o.at hol
     refine ⟨go,oo,e1,fun wx hx=>?_⟩
     obtain ⟨g2,o2,x0,x1,x2,f1,f2,f3,f4,f5⟩:=hx.at hol
     rw [e1] at f1
     cases f1
     have f5:=f5.out
     rw [HO.out] at f5
     simp only [List.getD_cons_zero,Prod.mk.injEq] at f5
     simp only [Nat.zero_mul,Nat.add_zero] at f3 f4
     exact ⟨f3.trans (by rw [f5.2.1]),f4.trans (by rw [f5.2.2])⟩
    have HOO:=hid hoo
    clear hoo
    subst hob
    obtain ⟨oN,e_oN⟩:∃ k,k=D.ops.length:=⟨_,rfl⟩
    have hx0:=J0.r.cell 0 _ rfl
    have hx11:=J0.r.cell 11 _ rfl
    have hq1:=J0.s.r3.cell 1 _ rfl
    have ho1:=(HOO.out _ J0.o).1
    rw [HC.out] at hx0
    rw [HQA.out] at hq1
    have hxl:=J0.r.lt
    have hsl:=J0.s.r3.lt
    have hat':(at1:Int)<(x.ss.length:Int):=by omega
    have hol':(0:Int)<(D.ops.length:Int):=by omega
    go_upto_region 9 with fail
    have HQ:Hid (v7.cell? ⟨B,1,none⟩=some (.slice (some ⟨gs,os,none⟩) x.ss.length q.c)/\v7.cell? ⟨X,11,none⟩=some (.slice (some ⟨go,oo,none⟩) D.ops.length oe)/\v7.cell? ⟨go,oo+1,none⟩=some (.int .i64 (at1:Int))/\v7.cell? ⟨gs,os+at1,none⟩=some (.string old)):=⟨hq1,hx11,ho1,hoc⟩
    clear hx0 hx11 hq1 ho1 hoc
    go_region_held3 (fun w'=>w'.cell? ⟨B,1,none⟩=some (.slice (some ⟨gs,os,none⟩) x.ss.length q.c)/\w'.cell? ⟨X,11,none⟩=some (.slice (some ⟨go,oo,none⟩) D.ops.length oe)/\w'.cell? ⟨go,oo+1,none⟩=some (.int .i64 (at1:Int))/\w'.cell? ⟨gs,os+at1,none⟩=some (.string old))
     (first | assumption | exact HQ.out)
     (fail)
    have J1:=J0.below (Below.refl _ _).drew
    clear J0 HQ
    go_wp2_with fail
    obtain ⟨wo,e_wo⟩:∃ wo:World,wo=v7.drew:=⟨_,rfl⟩
    rw [<-e_wo] at J1 ⊢
    clear e_wo
    go_loopw [8] (fun kv wr=>FgK w R a n c (p+i+1) B x q X D oa oc (some ⟨go,oo,none⟩) oe bb b kv wr) (fun kv _=>60-(intOf kv).toNat)
    case atStart=>exact ⟨10,by omega,by omega,rfl,J1⟩
    case round =>
     obtain ⟨k,hk0,hk1,rfl,J2⟩:=hrel
     clear J1
     by_cases hlk:k<60
     ·have hlk':(k:Int)<60:=by omega
      have HQ:Hid (wr.cell? ⟨X,11,none⟩=some (.slice (some ⟨go,oo,none⟩) D.ops.length oe)/\wr.cell? ⟨go,oo+2,none⟩=some (.string d)):=⟨J2.r.cell 11 _ rfl,(HOO.out _ J2.o).2⟩
      have hk00:(0:Int)<=(k:Int):=by omega
      have hk64:¬ (64:Int)<(k:Int):=by omega
      have hk65:min k 64+(64-k)<=9223372036854775807:=by omega
      have hd1:(k:Int)<=(d.size:Int):=by omega
      have hd2:(k:Int)<=(old.size:Int):=by omega
      have hd3:¬ (9223372036854775807<(d.extract 0 k).size+(old.extract k old.size).size):=by rw [ByteArray.size_extract,ByteArray.size_extract];omega
      have hd4:¬ (9223372036854775807<min k d.size+(old.size-k)):=by omega
      have hd5:¬ (9223372036854775807<k+(old.size-k)):=by omega
      have hxl2:=J2.r.lt
      go_upto_region 13 with fail
      go_cut [9] from 50 to 60 (fun mv wx=>∃ m:ByteArray,mv=.string m/\m.size<=128/\wx=wr.drew)
      case first =>
       refine wp_region_held_drew (S:=fun w'=>w'.cell? ⟨X,11,none⟩=some (.slice (some ⟨go,oo,none⟩) D.ops.length oe)/\w'.cell? ⟨go,oo+2,none⟩=some (.string d)) (by kernel_rfl) (HQ.out) (fun hHe=>?_)
       refine TY 0 (.pointer (some ⟨X,11,none⟩)) rfl hHe ?_
       simp only [PS]
       refine TY 1 (.slice (some ⟨go,oo,none⟩) D.ops.length oe) rfl hHe ?_
       simp only [PS]
       refine TY 2 (.pointer (some ⟨go,oo,none⟩)) rfl hHe ?_
       simp only [PS]
       refine TY 3 (.pointer (some ⟨go,oo+2,none⟩)) rfl hHe ?_
       simp only [PS]
       refine TY 4 (.string d) rfl hHe ?_
       simp only [PS]
       refine TY 5 (.int .i64 (k:Int)) rfl hHe ?_
       simp only [PS]
       refine TY 6 (.string (d.extract 0 k)) rfl hHe ?_
       simp only [PS]
       refine TY 7 (.string old) rfl hHe ?_
       simp only [PS]
       refine TY 8 (.int .i64 (k:Int)) rfl hHe ?_
       simp only [PS]
       refine TY 9 (.string (old.extract k 64)) rfl hHe ?_
       simp only [PS]
       refine TY 10 (.string (d.extract 0 k++old.extract k 64)) rfl hHe ?_
       simp only [PS]
       refine RD 11 rfl (fun Kq hKq=>?_)
       go_simp
       refine hKq.out _ _ hHe (fun _=>?_)
       try simp only [PS]
       refine DN ?_
       go_wp2_with fail
       go_meet
       exact ⟨_,rfl,by rw [ByteArray.size_append,ByteArray.size_extract,ByteArray.size_extract];omega,rfl⟩
      case rest =>
      obtain ⟨mix,rfl,hml,ewd⟩:=hcut
      have J3:=J2.below (Below.refl _ _).drew
      clear J2 HQ
      rw [<-ewd] at J3
      clear ewd
      rename World=>wd
      replace hml:mix.size<=1048576:=by omega
      obtain ⟨pk,pl,pm,pp,ok,hR⟩:=rpV_form (rpRes mix 1)
      have CR:=hid (readpage_s_any mix 1 wd hml)
      rw [hR] at CR
      clear hR
      unfold pageV at CR
      go_wp2_with fail
      refine CR.out.mono ?_
      rintro e w5 ⟨rfl,hb5⟩
      have J4:=J3.below hb5
      clear J3 hb5 CR
      go_upto_region 15 with fail
      generalize e_w6:w5.alloc _=w6
      obtain ⟨hb,z_w6,bP⟩:=bx1 e_w6
      clear e_w6
      have J5:=J4.below hb
      clear hb bP z_w6 J4
      generalize Value.tuple _=A6
      generalize Value.agg _=A7
      cases ok with
      | false =>
       go_wp2_with fail
       go_roundw
       case rel=>exact ⟨k+1,by omega,by omega,by go_num,J5⟩
       case measure=>simp [intOf];omega
      | true =>
       have hx11:=J5.r.cell 11 _ rfl
       have ho2:=(HOO.out _ J5.o).2
       have hxl3:=J5.r.lt
       by_cases hmd:mix=d
       ·subst hmd
        go_wp2_with fail
        go_roundw
        case rel=>exact ⟨k+1,by omega,by omega,by go_num,J5⟩
        case measure=>simp [intOf];omega
       ·have hbq:=bytes_neR hmd
        go_upto_region 16 with fail
        clear hx11 ho2
        refine wp_region_lit ?_
        refine wpList_load_mid rfl 82 _ rfl (B) 0 rfl (wL x q) _ J5.s.r3.range Try.underlying82 rfl info_wo ?_
        simp only [PS]
        go_wp2_with fail
        generalize e_w7:w6.alloc _=w7
        obtain ⟨hb,z_w7,bF⟩:=bx1 e_w7
        clear e_w7
        have J6:=J5.below hb
        clear hb J5
        obtain ⟨y,HY⟩:∃ y,Hid (y=x.doE ⟨2,b,1,[(k:Int)]⟩):=⟨_,hid rfl⟩
        have CDo:=do_s x q ⟨2,b,1,[(k:Int)]⟩ (some ⟨bb,0,none⟩) 1 (some ⟨w6.heap.size,0,none⟩) 1 _ w7 J6.s.wo HG.out.ok J6.b (Row.ints bF.now) ⟨⟨by show b.length<=_;omega,HBS.out⟩,by simp,by simp⟩
        rw [<-HY.out] at CDo
        have eE:eventV ⟨2,b,1,[(k:Int)]⟩ (some ⟨bb,0,none⟩) 1 (some ⟨w6.heap.size,0,none⟩) 1=.agg #[.int .i64 2,.slice (some ⟨bb,0,none⟩) 1 1,.int .i64 1,.slice (some ⟨w6.heap.size,0,none⟩) 1 1]:=by unfold eventV;simp only [hbl];rfl
        rw [eE] at CDo
        clear eE
        unfold worldW at CDo
        have CDH:=hid CDo
        clear CDo
        refine CDH.out.mono ?_
        rintro e w8 ⟨q1,rfl,F1,hb8⟩
        have J7:=J6.below hb8
        have hJ:=J6.s.lB
        have hJ2:=J6.s.r3.lt
        have F2:=F1.mono (G:=fun b=>w.heap.size+1<=b) (fun b _ k=>by rcases k with k | k;exact k.1;omega)
        clear F1 hb8 J6 bF CDH
        unfold worldW
        try simp only [PS]
        refine ‹∀ (a:Act) (w:World),wpList _ _ _ _ a w->_› _ _ ?_
        refine wpList_store_mid rfl 82 _ _ rfl (w.heap.size) 0 (wA y q1) rfl rfl (J7.s.r2.there rfl) info_wo (by kernel_rfl) ?_
        try simp only [PS]
        obtain ⟨r8,hr8,hg8,F8⟩:=J7.s.fin (wL y q1) rfl (F2)
        generalize e_y8:w8.setCells _ _ _=y8 at r8 hr8 hg8 F8 ⊢
        clear e_y8
        try go_wp2
        obtain ⟨z0,z1,z2,z3,z4,z5,z6,z7,z8,z9,z10,z11,z12,z13,z14,z15,z16⟩:=c16 r8
        exact bodyPost_ret (v:=.agg (wA y q1)) (by simp [results,Try.results36,go_sem,z0,z1,z2,z3,z4,z5,z6,z7,z8,z9,z10,z11,z12,z13,z14,z15]) rfl ⟨⟨y,q1,12,rfl,(by rw [HY.out];exact HG.out.doE _),⟨by omega,by omega⟩,by rw [HY.out,doE_w];have:=HW.out;omega,F8⟩,⟨p+i+1,by omega,by omega,hr8⟩,hg8⟩
     ·have hlk':¬ (k:Int)<60:=by omega
      go_wp2_with fail
      go_roundw
      case rel=>exact ⟨i+1,by omega,by go_num,by rw [show p+((i+1:Nat):Int)=p+i+1 by omega];exact J2.s⟩
      case measure=>simp [intOf];omega
   ·have hCb:(D.C == 0)=false:=by simp [hC]
    have qX:=J0.r.cell 0 _ rfl
    have qXl:=J0.r.lt
    go_upto_region 8 with fail
    clear qX qXl
    refine wp_region_lit ?_
    refine wpList_load_mid rfl 82 _ rfl (B) 0 rfl (wL x q) _ J0.s.r3.range Try.underlying82 rfl info_wo ?_
    simp only [PS]
    refine wpList_store_mid rfl 82 _ _ rfl (w.heap.size) 0 (wA x q) rfl rfl (J0.s.r2.there rfl) info_wo (by kernel_rfl) ?_
    try simp only [PS]
    obtain ⟨r8,hr8,hg8,F8⟩:=J0.s.fin (wL x q) rfl (J0.s.wo.mono (fun b _ k=>k.1))
    generalize e_y8:v7.setCells _ _ _=y8 at r8 hr8 hg8 F8 ⊢
    clear e_y8
    try go_wp2
    obtain ⟨z0,z1,z2,z3,z4,z5,z6,z7,z8,z9,z10,z11,z12,z13,z14,z15,z16⟩:=c16 r8
    exact bodyPost_ret (v:=.agg (wA x q)) (by simp [results,Try.results36,go_sem,z0,z1,z2,z3,z4,z5,z6,z7,z8,z9,z10,z11,z12,z13,z14,z15]) rfl ⟨⟨x,q,12,rfl,HG.out,⟨by omega,by omega⟩,by have:=HW.out;omega,F8⟩,⟨p+i+1,by omega,by omega,hr8⟩,hg8⟩
  ·have hlt':¬ (i:Int)<60:=by omega
   go_upto_region 17 with fail
   refine wp_region_lit ?_
   refine wpList_load_mid rfl 82 _ rfl (B) 0 rfl (wL x q) _ S1.r3.range Try.underlying82 rfl info_wo ?_
   simp only [PS]
   refine wpList_store_mid rfl 82 _ _ rfl (w.heap.size) 0 (wA x q) rfl rfl (S1.r2.there rfl) info_wo (by kernel_rfl) ?_
   try simp only [PS]
   obtain ⟨r8,hr8,hg8,F8⟩:=S1.fin (wL x q) rfl (S1.wo.mono (fun b _ k=>k.1))
   generalize e_y8:wr.setCells _ _ _=y8 at r8 hr8 hg8 F8 ⊢
   clear e_y8
   try go_wp2
   obtain ⟨z0,z1,z2,z3,z4,z5,z6,z7,z8,z9,z10,z11,z12,z13,z14,z15,z16⟩:=c16 r8
   exact bodyPost_ret (v:=.agg (wA x q)) (by simp [results,Try.results36,go_sem,z0,z1,z2,z3,z4,z5,z6,z7,z8,z9,z10,z11,z12,z13,z14,z15]) rfl ⟨⟨x,q,12,rfl,HG.out,⟨by omega,by omega⟩,by have:=HW.out;omega,F8⟩,⟨p+i,by omega,by omega,hr8⟩,hg8⟩
end Go.Proofs.Ythdilmkbnpmdaaa
