import Derived.Test.YthdilmkbnpmdaaaPrG38
set_option maxHeartbeats 16000000
namespace Go.Proofs.Ythdilmkbnpmdaaa
open Go.RowKit
set_option maxRecDepth 4000
set_option linter.unusedVariables false
set_option linter.unusedSimpArgs false
structure Rdr (w:World) (R:Nat) (a:Option Addr) (n c:Nat) (p:Int):Prop where
 b:w.cell? ⟨R,0,none⟩=some (.slice a n c)
 pc:w.cell? ⟨R,1,none⟩=some (.int .i64 p)
 f:w.frozen? ⟨R,1,none⟩=false
 bytes:∃ g o,(n=0\/a=some ⟨g,o,none⟩)/\∀ i,i<n->g≠R/\∃ x:Int,w.cell? ⟨g,o+i,none⟩=some (.int .u8 x)/\0<=x/\x<=255
 p0:0<=p
 p1:p<=100000000
 n1:n<=2000
theorem wrap_i64_id (x:Int) (h0:-9223372036854775808<=x) (h1:x<=9223372036854775807):IntKind.i64.wrap x=x:=by
 simp [IntKind.wrap,IntKind.bits,IntKind.signed]
 omega
theorem pick_s (R:Nat) (a:Option Addr) (n c:Nat) (p m:Int) (w:World) (h:Rdr w R a n c p):Calls Try.prog 15 #[.pointer (some ⟨R,0,none⟩),.int .i64 m] w fun e w'=>(∃ v,e=.returned (.int .i64 v)/\0<=v/\(v=0\/v<m))/\(w'=w.setCell ⟨R,1,none⟩ (.int .i64 (p+1))\/w'=(w.setCell ⟨R,1,none⟩ (.int .i64 (p+1))).drew):=by
 have hb:=h.b
 have hp:=h.pc
 have hf:=h.f
 have p0:=h.p0
 have p1:=h.p1
 have n1:=h.n1
 obtain ⟨g,o,ha,hx⟩:=h.bytes
 have HX:=hid hx
 clear h hx
 have hpw:IntKind.i64.wrap (p+1)=p+1:=by simp [IntKind.wrap,IntKind.bits,IntKind.signed];omega
 by_cases hm:m<1
 ·go_enter Try.func15,Try.ntmps15
  go_wp2
  go_ret
  exact ⟨⟨0,rfl,by omega,.inl rfl⟩,.inl rfl⟩
 ·by_cases hn:n=0
  ·subst hn
   go_enter Try.func15,Try.ntmps15
   go_wp2
   go_ret
   exact ⟨⟨0,rfl,by omega,.inl rfl⟩,.inl rfl⟩
  ·obtain rfl:a=some ⟨g,o,none⟩:=ha.resolve_left hn
   have hn0:¬ ((n:Int)=0):=by omega
   by_cases hk:p<(n:Int)
   ·obtain ⟨k,rfl⟩:∃ k:Nat,p=(k:Int):=⟨p.toNat,by omega⟩
    obtain ⟨hgR,x,hxc,hx0,hx1⟩:=HX.out k (by omega)
    have hxs:(w.setCell ⟨R,1,none⟩ (.int .i64 ((k:Int)+1))).cell? ⟨g,o+k,none⟩=some (.int .u8 x):=(World.cell?_setCell_far _ _ _ _ (fun e=>hgR e.symm)).trans hxc
    go_enter Try.func15,Try.ntmps15
    go_wp2
    go_ret
    exact ⟨⟨x % m,rfl,Int.emod_nonneg _ (by omega),.inr (Int.emod_lt_of_pos _ (by omega))⟩,.inl rfl⟩
   ·obtain ⟨k,rfl⟩:∃ k:Nat,p=(k:Int):=⟨p.toNat,by omega⟩
    obtain ⟨i1,hi1⟩:∃ i1:Nat,(k:Int) % (n:Int)=(i1:Int):=⟨k % n,by simp⟩
    obtain ⟨i2,hi2⟩:∃ i2:Nat,((k:Int)*7+3) % (n:Int)=(i2:Int):=⟨(k*7+3) % n,by simp⟩
    have l1:i1<n:=by have:=Int.emod_lt_of_pos (k:Int) (b:=(n:Int)) (by omega);omega
    have l2:i2<n:=by have:=Int.emod_lt_of_pos ((k:Int)*7+3) (b:=(n:Int)) (by omega);omega
    obtain ⟨hgR,x,hxc,hx0,hx1⟩:=HX.out i1 l1
    obtain ⟨_,y,hyc,hy0,hy1⟩:=HX.out i2 l2
    have hxs:(w.setCell ⟨R,1,none⟩ (.int .i64 ((k:Int)+1))).cell? ⟨g,o+i1,none⟩=some (.int .u8 x):=(World.cell?_setCell_far _ _ _ _ (fun e=>hgR e.symm)).trans hxc
    have hys:(w.setCell ⟨R,1,none⟩ (.int .i64 ((k:Int)+1))).cell? ⟨g,o+i2,none⟩=some (.int .u8 y):=(World.cell?_setCell_far _ _ _ _ (fun e=>hgR e.symm)).trans hyc
    obtain ⟨q,hq⟩:∃ q:Int,(k:Int) / (n:Int)=q:=⟨_,rfl⟩
    have hq0:0<=q:=by rw [<-hq];exact Int.ediv_nonneg (by omega) (by omega)
    have hq1:q<=(k:Int):=by rw [<-hq];exact Int.ediv_le_self _ (by omega)
    have hi1t:(k:Int).tmod (n:Int)=(i1:Int):=by rw [Int.tmod_eq_emod_of_nonneg (by omega)];exact hi1
    have hi2t:((k:Int)*7+3).tmod (n:Int)=(i2:Int):=by rw [Int.tmod_eq_emod_of_nonneg (by omega)];exact hi2
    have hqt:(k:Int).tdiv (n:Int)=q:=by rw [Int.tdiv_eq_ediv_of_nonneg (by omega)];exact hq
    have l1i:(i1:Int)<(n:Int):=by omega
    have l2i:(i2:Int)<(n:Int):=by omega
    have w1:IntKind.i64.wrap ((k:Int)*7)=(k:Int)*7:=by simp [IntKind.wrap,IntKind.bits,IntKind.signed];omega
    have w2:IntKind.i64.wrap ((k:Int)*7+3)=(k:Int)*7+3:=by simp [IntKind.wrap,IntKind.bits,IntKind.signed];omega
    clear HX hi1 hi2 hq
    go_enter Try.func15,Try.ntmps15
    go_wp2
    have hbs:(w.setCell ⟨R,1,none⟩ (.int .i64 ((k:Int)+1))).cell? ⟨R,0,none⟩=some (.slice (some ⟨g,o,none⟩) n c):=by go_simp
    have HS0:=hid (And.intro hbs (And.intro hxs hys))
    go_region_held3 (fun w'=>w'.cell? ⟨R,0,none⟩=some (.slice (some ⟨g,o,none⟩) n c)/\w'.cell? ⟨g,o+i1,none⟩=some (.int .u8 x)/\w'.cell? ⟨g,o+i2,none⟩=some (.int .u8 y))
     (first | assumption | exact HS0.out)
     (fail)
    obtain ⟨V,hV⟩:∃ V,IntKind.i64.wrap (IntKind.i64.wrap (IntKind.i64.wrap (IntKind.i64.wrap (IntKind.i64.wrap x*131)+IntKind.i64.wrap (IntKind.i64.wrap y*1117))+IntKind.i64.wrap ((k:Int)*29))+IntKind.i64.wrap (IntKind.i64.wrap q*53))=V:=⟨_,rfl⟩
    have hVe:V=x*131+y*1117+(k:Int)*29+q*53:=by
     rw [<-hV,wrap_i64_id x (by omega) (by omega),wrap_i64_id y (by omega) (by omega),wrap_i64_id q (by omega) (by omega),wrap_i64_id (x*131) (by omega) (by omega),wrap_i64_id (y*1117) (by omega) (by omega),wrap_i64_id ((k:Int)*29) (by omega) (by omega),wrap_i64_id (q*53) (by omega) (by omega),wrap_i64_id (x*131+y*1117) (by omega) (by omega),wrap_i64_id (x*131+y*1117+(k:Int)*29) (by omega) (by omega),wrap_i64_id (x*131+y*1117+(k:Int)*29+q*53) (by omega) (by omega)]
    rw [hV]
    have hV0:0<=V:=by omega
    have hV1:V<=1000000000000:=by omega
    clear hV hVe
    obtain ⟨VN,rfl⟩:∃ VN:Nat,V=(VN:Int):=⟨V.toNat,by omega⟩
    have hxr:bits .xor .i64 (VN:Int) ((VN:Int) / 64)=((VN ^^^ (VN / 64):Nat):Int):=by
     have e:((VN:Int) / 64)=((VN / 64:Nat):Int):=by omega
     rw [e]
     exact bits_xor_i64_nat VN (VN / 64) (by omega) (by omega)
    obtain ⟨Z,hZ⟩:∃ Z:Nat,VN ^^^ (VN / 64)=Z:=⟨_,rfl⟩
    rw [hZ] at hxr
    have hzm:((Z:Int)).tmod m=(Z:Int) % m:=Int.tmod_eq_emod_of_nonneg (by omega)
    go_wp2
    go_ret
    refine ⟨⟨(Z:Int) % m,?_,Int.emod_nonneg _ (by omega),.inr (Int.emod_lt_of_pos _ (by omega))⟩,.inr rfl⟩
    first | rfl | (rw [<-hzm];rfl) | (simp [hzm])
end Go.Proofs.Ythdilmkbnpmdaaa
