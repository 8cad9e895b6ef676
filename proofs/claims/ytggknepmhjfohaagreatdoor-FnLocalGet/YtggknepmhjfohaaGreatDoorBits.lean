/- Go's bit operations on an int that is not negative, as those of natural numbers. -/
import Derived.Laws.BitsAllLaws
set_option linter.unusedSimpArgs false
set_option linter.unusedVariables false
namespace Go
theorem ge(n:Nat)(h:n<9223372036854775808):IntKind.i64.wrap (n:Int)=(n:Int):=by
 simp[IntKind.wrap,IntKind.bits,IntKind.signed];omega
theorem lE(a b:Nat)(c:a<9223372036854775808)(hb:b<9223372036854775808):bits .and .i64 (a:Int) (b:Int)=((a &&& b:Nat):Int):=by
 have d:a &&& b<2 ^ 63:=Nat.and_lt_two_pow _ (by omega);show IntKind.i64.wrap ((BitVec.ofInt 64 (a:Int) &&& BitVec.ofInt 64 (b:Int)).toNat:Int)=_;rw[BitVec.toNat_and,ofInt_u64 a (by omega),ofInt_u64 b (by omega)];exact ge _ (by omega)
theorem kF(a b:Nat)(c:a<9223372036854775808)(hb:b<9223372036854775808):bits .or .i64 (a:Int) (b:Int)=((a ||| b:Nat):Int):=by
 have d:a ||| b<2 ^ 63:=Nat.or_lt_two_pow (by omega) (by omega);show IntKind.i64.wrap ((BitVec.ofInt 64 (a:Int) ||| BitVec.ofInt 64 (b:Int)).toNat:Int)=_;rw[BitVec.toNat_or,ofInt_u64 a (by omega),ofInt_u64 b (by omega)];exact ge _ (by omega)
theorem lG(a b:Nat)(c:a<9223372036854775808)(hb:b<9223372036854775808):bits .xor .i64 (a:Int) (b:Int)=((a ^^^ b:Nat):Int):=by
 have d:a ^^^ b<2 ^ 63:=Nat.xor_lt_two_pow (by omega) (by omega);show IntKind.i64.wrap ((BitVec.ofInt 64 (a:Int) ^^^ BitVec.ofInt 64 (b:Int)).toNat:Int)=_;rw[BitVec.toNat_xor,ofInt_u64 a (by omega),ofInt_u64 b (by omega)];exact ge _ (by omega)
theorem yj(n:Int)(b:0<=n)(c:n<9223372036854775808):bits .and .i64 n 65535=n%65536:=by
 obtain⟨a,rfl⟩:=Int.eq_ofNat_of_zero_le b;have:=lE a 65535 (by omega) (by omega);rw[show((65535:Nat):Int)=65535 from rfl]at this;rw[this,nat_mask16];omega
theorem lF(n:Int)(b:0<=n)(c:n<9223372036854775808):bits .and .i64 n 1=n%2:=by
 obtain⟨a,rfl⟩:=Int.eq_ofNat_of_zero_le b;have:=lE a 1 (by omega) (by omega);rw[show((1:Nat):Int)=1 from rfl]at this;rw[this,nat_mask1];omega
theorem yk(i:Nat)(x y:Int)(c:0<=x)(e:x<9223372036854775808)(h2:0<=y)(d:y<2 ^ i)(f:y<9223372036854775808)(h:x%2 ^ i=0):bits .or .i64 x y=x+y:=by
 obtain⟨a,rfl⟩:=Int.eq_ofNat_of_zero_le c;obtain⟨b,rfl⟩:=Int.eq_ofNat_of_zero_le h2;rw[kF a b (by omega) (by omega),nat_join i a b (by exact_mod_cast h) (by exact_mod_cast d)];omega
end Go
