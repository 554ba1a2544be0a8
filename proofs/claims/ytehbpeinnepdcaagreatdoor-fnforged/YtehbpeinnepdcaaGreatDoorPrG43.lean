import Derived.Laws.Bits64b
import Derived.Test.YtehbpeinnepdcaaGreatDoorPrG36
set_option maxHeartbeats 16000000
set_option maxRecDepth 8000
set_option linter.unusedVariables false
set_option linter.unusedSimpArgs false
namespace Go.Proofs.YtehbpeinnepdcaaGreatDoor
open Go.RowKit
theorem qG7 (a b:Nat) (ha:a<4611686018427387904) (hb:b<4611686018427387904) :
  bits .xor .i64 (a:Int) (b:Int)=((a ^^^ b:Nat):Int):=by
 have hx:a ^^^ b<2 ^ 62:=Nat.xor_lt_two_pow (by omega) (by omega)
 have h1:(BitVec.ofInt 64 (a:Int)).toNat=a:=by
  rw [BitVec.ofInt_natCast,BitVec.toNat_ofNat];exact Nat.mod_eq_of_lt (by omega)
 have h2:(BitVec.ofInt 64 (b:Int)).toNat=b:=by
  rw [BitVec.ofInt_natCast,BitVec.toNat_ofNat];exact Nat.mod_eq_of_lt (by omega)
 show IntKind.i64.wrap ((BitVec.ofInt 64 (a:Int) ^^^ BitVec.ofInt 64 (b:Int)).toNat:Int)=_;rw [BitVec.toNat_xor,h1,h2];simp [IntKind.wrap,IntKind.bits,IntKind.signed];omega
structure Rdr (w:World) (R:Nat) (a:Option Addr) (n c:Nat) (p:Int):Prop where
 b:w.cell? ⟨R,0,none⟩=some (.slice a n c)
 pc:w.cell? ⟨R,1,none⟩=some (.int .i64 p)
 f:w.frozen? ⟨R,1,none⟩=false
 bytes:∃ g o,(n=0\/a=some ⟨g,o,none⟩)/\∀ i,i<n->g≠R/\∃ x:Int,w.cell? ⟨g,o+i,none⟩=some (.int .u8 x)/\0<=x/\x<=255
 p0:0<=p
 p1:p<=100000000
 n1:n<=2000
theorem vRg (x:Int) (h0:-9223372036854775808<=x) (h1:x<=9223372036854775807):IntKind.i64.wrap x=x:=by
 simp [IntKind.wrap,IntKind.bits,IntKind.signed];omega
theorem xEt (R:Nat) (a:Option Addr) (n c:Nat) (p m:Int) (w:World) (h:Rdr w R a n c p):Calls Tryz.prog 11 #[.pointer (some ⟨R,0,none⟩),.int .i64 m] w fun e w'=>(∃ v,e=.returned (.int .i64 v)/\0<=v/\(v=0\/v<m))/\(w'=w.setCell ⟨R,1,none⟩ (.int .i64 (p+1))\/w'=(w.setCell ⟨R,1,none⟩ (.int .i64 (p+1))).drew):=by
 have hb:=h.b;have hp:=h.pc;have hf:=h.f;have p0:=h.p0;have p1:=h.p1;have n1:=h.n1;obtain ⟨g,o,ha,hx⟩:=h.bytes;have HX:=hid hx;clear h hx;have aT:IntKind.i64.wrap (p+1)=p+1:=by simp [IntKind.wrap,IntKind.bits,IntKind.signed];omega
 by_cases hm:m<1
 ·go_enter Tryz.func11,Tryz.ntmps11
  go_wp2;go_ret;exact ⟨⟨0,rfl,by omega,.inl rfl⟩,.inl rfl⟩
 ·by_cases hn:n=0
  ·subst hn
   go_enter Tryz.func11,Tryz.ntmps11;go_wp2;go_ret;exact ⟨⟨0,rfl,by omega,.inl rfl⟩,.inl rfl⟩
  ·obtain rfl:a=some ⟨g,o,none⟩:=ha.resolve_left hn
   have aS:¬ ((n:Int)=0):=by omega
   by_cases hk:p<(n:Int)
   ·obtain ⟨k,rfl⟩:∃ k:Nat,p=(k:Int):=⟨p.toNat,by omega⟩
    obtain ⟨aA,x,aB,aL,aM⟩:=HX.out k (by omega);have aE:(w.setCell ⟨R,1,none⟩ (.int .i64 ((k:Int)+1))).cell? ⟨g,o+k,none⟩=some (.int .u8 x):=(World.cell?_setCell_far _ _ _ _ (fun e=>aA e.symm)).trans aB;go_enter Tryz.func11,Tryz.ntmps11;go_wp2;go_ret;exact ⟨⟨x % m,rfl,Int.emod_nonneg _ (by omega),.inr (Int.emod_lt_of_pos _ (by omega))⟩,.inl rfl⟩
   ·obtain ⟨k,rfl⟩:∃ k:Nat,p=(k:Int):=⟨p.toNat,by omega⟩
    obtain ⟨i1,aC⟩:∃ i1:Nat,(k:Int) % (n:Int)=(i1:Int):=⟨k % n,by simp⟩;obtain ⟨i2,aD⟩:∃ i2:Nat,((k:Int)*7+3) % (n:Int)=(i2:Int):=⟨(k*7+3) % n,by simp⟩;have l1:i1<n:=by have:=Int.emod_lt_of_pos (k:Int) (b:=(n:Int)) (by omega);omega
    have l2:i2<n:=by have:=Int.emod_lt_of_pos ((k:Int)*7+3) (b:=(n:Int)) (by omega);omega
    obtain ⟨aA,x,aB,aL,aM⟩:=HX.out i1 l1;obtain ⟨_,y,aO,aX,aY⟩:=HX.out i2 l2;have aE:(w.setCell ⟨R,1,none⟩ (.int .i64 ((k:Int)+1))).cell? ⟨g,o+i1,none⟩=some (.int .u8 x):=(World.cell?_setCell_far _ _ _ _ (fun e=>aA e.symm)).trans aB;have aP:(w.setCell ⟨R,1,none⟩ (.int .i64 ((k:Int)+1))).cell? ⟨g,o+i2,none⟩=some (.int .u8 y):=(World.cell?_setCell_far _ _ _ _ (fun e=>aA e.symm)).trans aO;obtain ⟨q,hq⟩:∃ q:Int,(k:Int) / (n:Int)=q:=⟨_,rfl⟩;have aU:0<=q:=by rw [<-hq];exact Int.ediv_nonneg (by omega) (by omega)
    have aV:q<=(k:Int):=by rw [<-hq];exact Int.ediv_le_self _ (by omega)
    have aJ:(k:Int).tmod (n:Int)=(i1:Int):=by rw [Int.tmod_eq_emod_of_nonneg (by omega)];exact aC
    have aK:((k:Int)*7+3).tmod (n:Int)=(i2:Int):=by rw [Int.tmod_eq_emod_of_nonneg (by omega)];exact aD
    have aW:(k:Int).tdiv (n:Int)=q:=by rw [Int.tdiv_eq_ediv_of_nonneg (by omega)];exact hq
    have aZ:(i1:Int)<(n:Int):=by omega
    have bC:(i2:Int)<(n:Int):=by omega
    have w1:IntKind.i64.wrap ((k:Int)*7)=(k:Int)*7:=by simp [IntKind.wrap,IntKind.bits,IntKind.signed];omega
    have w2:IntKind.i64.wrap ((k:Int)*7+3)=(k:Int)*7+3:=by simp [IntKind.wrap,IntKind.bits,IntKind.signed];omega
    clear HX aC aD hq;go_enter Tryz.func11,Tryz.ntmps11;go_wp2;have aI:(w.setCell ⟨R,1,none⟩ (.int .i64 ((k:Int)+1))).cell? ⟨R,0,none⟩=some (.slice (some ⟨g,o,none⟩) n c):=by go_simp
    have aG:=hid (And.intro aI (And.intro aE aP))
    go_region_held3 (fun w'=>w'.cell? ⟨R,0,none⟩=some (.slice (some ⟨g,o,none⟩) n c)/\w'.cell? ⟨g,o+i1,none⟩=some (.int .u8 x)/\w'.cell? ⟨g,o+i2,none⟩=some (.int .u8 y))
     (first | assumption | exact aG.out)
     (fail)
    obtain ⟨V,hV⟩:∃ V,IntKind.i64.wrap (IntKind.i64.wrap (IntKind.i64.wrap (IntKind.i64.wrap (IntKind.i64.wrap x*131)+IntKind.i64.wrap (IntKind.i64.wrap y*1117))+IntKind.i64.wrap ((k:Int)*29))+IntKind.i64.wrap (IntKind.i64.wrap q*53))=V:=⟨_,rfl⟩
    have aH:V=x*131+y*1117+(k:Int)*29+q*53:=by
     rw [<-hV,vRg x (by omega) (by omega),vRg y (by omega) (by omega),vRg q (by omega) (by omega),vRg (x*131) (by omega) (by omega),vRg (y*1117) (by omega) (by omega),vRg ((k:Int)*29) (by omega) (by omega),vRg (q*53) (by omega) (by omega),vRg (x*131+y*1117) (by omega) (by omega),vRg (x*131+y*1117+(k:Int)*29) (by omega) (by omega),vRg (x*131+y*1117+(k:Int)*29+q*53) (by omega) (by omega)]
    rw [hV];have aQ:0<=V:=by omega
    have aR:V<=1000000000000:=by omega
    clear hV aH;obtain ⟨VN,rfl⟩:∃ VN:Nat,V=(VN:Int):=⟨V.toNat,by omega⟩
    have aN:bits .xor .i64 (VN:Int) ((VN:Int) / 64)=((VN ^^^ (VN / 64):Nat):Int):=by
     have e:((VN:Int) / 64)=((VN / 64:Nat):Int):=by omega
     rw [e];exact qG7 VN (VN / 64) (by omega) (by omega)
    obtain ⟨Z,hZ⟩:∃ Z:Nat,VN ^^^ (VN / 64)=Z:=⟨_,rfl⟩;rw [hZ] at aN;have aF:((Z:Int)).tmod m=(Z:Int) % m:=Int.tmod_eq_emod_of_nonneg (by omega);go_wp2;go_ret;refine ⟨⟨(Z:Int) % m,?_,Int.emod_nonneg _ (by omega),.inr (Int.emod_lt_of_pos _ (by omega))⟩,.inr rfl⟩
    first | rfl | (rw [<-aF];rfl) | (simp [aF])
end Go.Proofs.YtehbpeinnepdcaaGreatDoor
