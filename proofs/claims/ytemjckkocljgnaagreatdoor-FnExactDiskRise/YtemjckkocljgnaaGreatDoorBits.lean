/- Go's bit operations on an int that is not negative, as those of natural numbers. -/
import Derived.Laws.BitsAllLaws
namespace Go
theorem i64_wrap_nat (n:Nat) (h:n<9223372036854775808):IntKind.i64.wrap (n:Int)=(n:Int):=by
 simp [IntKind.wrap,IntKind.bits,IntKind.signed]; omega
theorem i64_and_nat (a b:Nat) (ha:a<9223372036854775808) (hb:b<9223372036854775808):bits .and .i64 (a:Int) (b:Int)=((a &&& b:Nat):Int):=by
 have hx:a &&& b<2 ^ 63:=Nat.and_lt_two_pow _ (by omega)
 show IntKind.i64.wrap ((BitVec.ofInt 64 (a:Int) &&& BitVec.ofInt 64 (b:Int)).toNat:Int)=_
 rw [BitVec.toNat_and,ofInt_u64 a (by omega),ofInt_u64 b (by omega)]
 exact i64_wrap_nat _ (by omega)
theorem i64_or_nat (a b:Nat) (ha:a<9223372036854775808) (hb:b<9223372036854775808):bits .or .i64 (a:Int) (b:Int)=((a ||| b:Nat):Int):=by
 have hx:a ||| b<2 ^ 63:=Nat.or_lt_two_pow (by omega) (by omega)
 show IntKind.i64.wrap ((BitVec.ofInt 64 (a:Int) ||| BitVec.ofInt 64 (b:Int)).toNat:Int)=_
 rw [BitVec.toNat_or,ofInt_u64 a (by omega),ofInt_u64 b (by omega)]
 exact i64_wrap_nat _ (by omega)
theorem i64_xor_nat (a b:Nat) (ha:a<9223372036854775808) (hb:b<9223372036854775808):bits .xor .i64 (a:Int) (b:Int)=((a ^^^ b:Nat):Int):=by
 have hx:a ^^^ b<2 ^ 63:=Nat.xor_lt_two_pow (by omega) (by omega)
 show IntKind.i64.wrap ((BitVec.ofInt 64 (a:Int) ^^^ BitVec.ofInt 64 (b:Int)).toNat:Int)=_
 rw [BitVec.toNat_xor,ofInt_u64 a (by omega),ofInt_u64 b (by omega)]
 exact i64_wrap_nat _ (by omega)
theorem i64_and_low (n:Int) (h0:0≤n) (h1:n<9223372036854775808):bits .and .i64 n 65535=n%65536:=by
 obtain ⟨a,rfl⟩:=Int.eq_ofNat_of_zero_le h0
 have:=i64_and_nat a 65535 (by omega) (by omega)
 rw [show ((65535:Nat):Int)=65535 from rfl] at this
 rw [this,nat_mask16]; omega
theorem i64_and_one (n:Int) (h0:0≤n) (h1:n<9223372036854775808):bits .and .i64 n 1=n%2:=by
 obtain ⟨a,rfl⟩:=Int.eq_ofNat_of_zero_le h0
 have:=i64_and_nat a 1 (by omega) (by omega)
 rw [show ((1:Nat):Int)=1 from rfl] at this
 rw [this,nat_mask1]; omega
end Go
