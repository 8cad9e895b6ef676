/- Texts. -/
import Derived.Laws.BitsAllLaws
import Derived.Deep.RegionLawGrows
import Derived.Lib.SplitLaws
set_option linter.all false
/- Of what the proof is made: 4 texts, one behind the other. -/
namespace Corb
def rv:Nat->Nat->Nat
 | 0,_=>0
 | k+1,n=>2*rv k n+n/2 ^ k%2
def Qb(k n:Nat):rv k n<2 ^ k:=by
 induction k with
 | zero=>simp[rv]
 | succ k ih=>simp only[rv,Nat.pow_succ];omega
def Uq(k n i:Nat):(rv k n).testBit i=(decide (i<k)&&n.testBit (k-1-i)):=by
 induction k generalizing i with
 | zero=>simp[rv]
 | succ k ih=>
  cases i with
  | zero=>
   simp only[rv,Nat.testBit_zero];rw[show(2*rv k n+n/2 ^ k%2)%2=n/2 ^ k%2 by omega];simp[Nat.testBit_eq_decide_div_mod_eq]
  | succ i=>
   have:(2*rv k n+n/2 ^ k%2)/2=rv k n:=by omega
   simp only[rv];rw[Nat.testBit_succ,this,ih i];rw[show k+1-1-(i+1)=k-1-i by omega]
   congr 1
   simp
def xH(k:Nat)(h:k<=16):2 ^ k<=65536:=Nat.pow_le_pow_right (n:=2) (by omega) h
def mG(n k:Nat):n/2 ^ k/2=n/2 ^ (k+1):=by
 rw[Nat.div_div_eq_div_mul,Nat.pow_succ]
end Corb
namespace Corb
def leS:Nat->Nat->List UInt8
 | 0,_=>[]
 | k+1,V=>leS k V++[UInt8.ofNat (V/2 ^ (8*k)%256)]
def aB(k V:Nat):(leS k V).length=k:=by
 induction k with
 | zero=>rfl
 | succ k ih=>simp[leS,ih]
def Lf(k V W:Nat)(h:V%2 ^ (8*k)=W%2 ^ (8*k)):leS k V=leS k W:=by
 induction k with
 | zero=>rfl
 | succ k ih=>
  have e:2 ^ (8*(k+1))=2 ^ (8*k)*256:=by rw[show 8*(k+1)=8*k+8 by omega,Nat.pow_add]
  rw[e]at h;have b:V%2 ^ (8*k)=W%2 ^ (8*k):=by
   have a:=congrArg (· % 2 ^ (8*k)) h;simpa[Nat.mod_mul_right_mod]using a
  have h2:V/2 ^ (8*k)%256=W/2 ^ (8*k)%256:=by
   have a:=congrArg (· / 2 ^ (8*k)) h;simpa[Nat.mod_mul_right_div_self]using a
  simp only[leS];rw[ih b,h2]
def vm(k V x m:Nat)(a:8*k<=m):leS k (V+x*2 ^ m)=leS k V:=by
 apply Lf;have e:x*2 ^ m=2 ^ (8*k)*(x*2 ^ (m-8*k)):=by
  rw[Nat.mul_left_comm,←Nat.pow_add,show 8*k+(m-8*k)=m by omega]
 rw[e,Nat.add_mul_mod_self_left]
def AC(V x m q:Nat)(a:8*q<=m):(V+x*2 ^ m)/2 ^ (8*q)=V/2 ^ (8*q)+x*2 ^ (m-8*q):=by
 have e:x*2 ^ m=2 ^ (8*q)*(x*2 ^ (m-8*q)):=by
  rw[Nat.mul_left_comm,←Nat.pow_add,show 8*q+(m-8*q)=m by omega]
 rw[e,Nat.add_mul_div_left _ _ (Nat.two_pow_pos _)]
def add_lt(V x m:Nat)(b:V<2 ^ m)(a:x<=1):V+x*2 ^ m<2 ^ (m+1):=by
 rw[Nat.pow_succ];have:x*2 ^ m<=1*2 ^ m:=Nat.mul_le_mul_right _ a;omega
def Bf(V m q:Nat)(a:V<2 ^ m)(hq:8*q<=m):V/2 ^ (8*q)<2 ^ (m-8*q):=by
 rw[Nat.div_lt_iff_lt_mul (Nat.two_pow_pos _),←Nat.pow_add];rw[show m-8*q+8*q=m by omega];exact a
def Es(n k:Nat):n%2 ^ (k+1)=n%2 ^ k+n/2 ^ k%2*2 ^ k:=by
 rw[Nat.mod_pow_succ,Nat.mul_comm]
def Ji(k V j:Nat)(h:j<k):(leS k V).getD j 0=UInt8.ofNat (V/2 ^ (8*j)%256):=by
 induction k with
 | zero=>omega
 | succ k ih=>
  simp only[leS];by_cases a:j<k
  . have:=ih a;simp only[List.getD]at this ⊢;rw[List.getElem?_append_left (by rw[aB];exact a)];exact this
  .
   have:j=k:=by omega
   subst this;simp[List.getD,aB]
def Si(k V x m:Nat)(f:k=m/8)(d:x<=1)(c:V<2 ^ m) :
  leS (k+1) (V+x*2 ^ m)=(leS (k+1) V).set k (UInt8.ofNat (V/2 ^ (8*k)+x*2 ^ (m%8))):=by
 have a:8*k<=m:=by omega
 simp only[leS];rw[vm k V x m a,AC V x m k a,show m-8*k=m%8 by omega];have b:V/2 ^ (8*k)<2 ^ (m%8):=by
  have:=Bf V m k c a;rwa[show m-8*k=m%8 by omega]at this
 have h2:V/2 ^ (8*k)+x*2 ^ (m%8)<2 ^ (m%8+1):=add_lt _ _ _ b d;have e:2 ^ (m%8+1)<=2 ^ 8:=Nat.pow_le_pow_right (by omega) (by omega);rw[Nat.mod_eq_of_lt (by omega)];rw[List.set_append_right _ _ (by rw[aB];exact Nat.le_refl _),aB];simp
def Sg(k V:Nat)(a:V<2 ^ (8*k)):leS (k+1) V=leS k V++[0]:=by
 simp only[leS];rw[Nat.div_eq_of_lt a];rfl
def jh:Nat×Nat->List (Nat×Nat)->Nat×Nat
 | s,[]=>s
 | s,p :: l=>jh (s.1+p.1*2 ^ s.2,s.2+p.2) l
def ou(s:Nat×Nat)(l m:List (Nat×Nat)):jh s (l++m)=jh (jh s l) m:=by
 induction l generalizing s with
 | nil=>rfl
 | cons p l ih=>exact ih _
def PP(V m n b:Nat)(c:V<2 ^ m)(a:n<2 ^ b):V+n*2 ^ m<2 ^ (m+b):=by
 rw[Nat.pow_add];have:(n+1)*2 ^ m<=2 ^ b*2 ^ m:=Nat.mul_le_mul_right _ a;rw[Nat.add_mul]at this;rw[Nat.mul_comm (2 ^ m)];omega
end Corb
namespace Corb
def sh(n:Nat):Nat:=if n%2=1 then(n/2) ^^^ 3988292384 else n/2
def shN:Nat->Nat->Nat
 | 0,x=>x
 | k+1,x=>shN k (sh x)
def JC(a b x:Nat):shN (a+b) x=shN b (shN a x):=by
 induction a generalizing x with
 | zero=>simp[shN]
 | succ a ih=>rw[show a+1+b=(a+b)+1 by omega];simp[shN,ih]
def zL(k x:Nat):shN (k+1) x=sh (shN k x):=by
 rw[JC k 1 x];rfl
def UW(x:Nat)(h:x<4294967296):sh x<4294967296:=by
 unfold sh
 split
 . exact Nat.xor_lt_two_pow (n:=32) (by omega) (by omega)
 . omega
def xR(k x:Nat)(h:x<4294967296):shN k x<4294967296:=by
 induction k generalizing x with
 | zero=>exact h
 | succ k ih=>exact ih _ (UW x h)
def FT(x y:Nat):(x ^^^ y)/2=(x/2) ^^^ (y/2):=by
 apply Nat.eq_of_testBit_eq;intro i;simp[Nat.testBit_xor,Nat.testBit_div_two]
def FU(x y:Nat):(x ^^^ y)%2=(x%2+y%2)%2:=by
 have h:=Nat.xor_mod_two_pow (a:=x) (b:=y) (n:=1);simp only[Nat.pow_one]at h;rw[h];rcases Nat.mod_two_eq_zero_or_one x with c|c<;>rcases Nat.mod_two_eq_zero_or_one y with d|d<;>simp[c,d]
def Iv(x:Nat):sh x=(x/2) ^^^ (if x%2=1 then 3988292384 else 0):=by
 unfold sh;split<;>simp
def Ur(x y:Nat):sh (x ^^^ y)=sh x ^^^ sh y:=by
 rw[Iv,Iv x,Iv y,FT,FU];rcases Nat.mod_two_eq_zero_or_one x with a|a<;>rcases Nat.mod_two_eq_zero_or_one y with b|b<;>simp[a,b]
 . ac_rfl
 . ac_rfl
 . rw[show(x/2 ^^^ 3988292384 ^^^ (y/2 ^^^ 3988292384))=(x/2 ^^^ y/2) ^^^ (3988292384 ^^^ 3988292384) by ac_rfl];simp
def SK(k x y:Nat):shN k (x ^^^ y)=shN k x ^^^ shN k y:=by
 induction k generalizing x y with
 | zero=>rfl
 | succ k ih=>simp[shN,Ur,ih]
def Md(k:Nat):sh (2*k)=k:=by
 unfold sh;rw[if_neg (by omega)];omega
def SQ(x:Nat):x=(x%16) ^^^ (2*(2*(2*(2*(x/16))))):=by
 apply Nat.eq_of_testBit_eq;intro i;have b:x%16=x%2 ^ 4:=rfl;have h2:2*(2*(2*(2*(x/16))))=2 ^ 4*(x/2 ^ 4):=by omega
 rw[b,h2,Nat.testBit_xor,Nat.testBit_mod_two_pow,Nat.testBit_two_pow_mul,Nat.testBit_div_two_pow];by_cases a:i<4
 . simp[a,show ¬ 4<=i by omega]
 . simp[a,show i-4+4=i by omega,show 4<=i by omega]
def U3(x:Nat):shN 4 x=shN 4 (x%16) ^^^ (x/16):=by
 conv=>lhs;rw[SQ x]
 rw[SK]
 congr 1
 simp[shN,Md]
def fold(c:Nat)(l:List UInt8):Nat:=l.foldl (fun c b=>shN 8 (c ^^^ b.toNat)) c
@[simp] theorem UN (c:Nat):fold c []=c:=rfl
theorem KL(c:Nat)(b:UInt8)(l:List UInt8):fold c (b :: l)=fold (shN 8 (c ^^^ b.toNat)) l:=rfl
def DF(c:Nat)(l m:List UInt8):fold c (l++m)=fold (fold c l) m:=by
 unfold fold;rw[List.foldl_append]
def Au(b:UInt8):b.toNat<256:=b.toNat_lt
def Tf(c:Nat)(b:UInt8)(h:c<4294967296):c ^^^ b.toNat<4294967296:=
 Nat.xor_lt_two_pow (n:=32) h (by have:=Au b;omega)
def AX(c:Nat)(l:List UInt8)(h:c<4294967296):fold c l<4294967296:=by
 induction l generalizing c with
 | nil=>exact h
 | cons b l ih=>rw[KL];exact ih _ (xR _ _ (Tf c b h))
def full:Nat:=4294967295
def aE(c:Nat)(l:List UInt8):Nat:=fold (c ^^^ full) l ^^^ full
def ig(c:Nat)(l:List UInt8)(h:c<4294967296):aE c l<4294967296:=
 Nat.xor_lt_two_pow (n:=32) (AX _ _ (Nat.xor_lt_two_pow (n:=32) h (by decide))) (by decide)
end Corb
namespace Corb
def UE(p:Nat×Nat)(b:UInt8):Nat×Nat:=((p.1+b.toNat)%65521,(p.2+(p.1+b.toNat)%65521)%65521)
def UD(p:Nat×Nat)(l:List UInt8):Nat×Nat:=l.foldl UE p
@[simp] theorem UB (p:Nat×Nat):UD p []=p:=rfl
end Corb
set_option linter.all false
namespace Go
def iI(n:Nat)(h:n<9223372036854775808):IntKind.i64.wrap (n:Int)=(n:Int):=by
 simp[IntKind.wrap,IntKind.bits,IntKind.signed];omega
def nS(a b:Nat)(c:a<9223372036854775808)(hb:b<9223372036854775808):bits .and .i64 (a:Int) (b:Int)=((a &&& b:Nat):Int):=by
 have d:a &&& b<2 ^ 63:=Nat.and_lt_two_pow _ (by omega);show IntKind.i64.wrap ((BitVec.ofInt 64 (a:Int) &&& BitVec.ofInt 64 (b:Int)).toNat:Int)=_;rw[BitVec.toNat_and,ofInt_u64 a (by omega),ofInt_u64 b (by omega)];exact iI _ (by omega)
def mP(a b:Nat)(c:a<9223372036854775808)(hb:b<9223372036854775808):bits .or .i64 (a:Int) (b:Int)=((a ||| b:Nat):Int):=by
 have d:a ||| b<2 ^ 63:=Nat.or_lt_two_pow (by omega) (by omega);show IntKind.i64.wrap ((BitVec.ofInt 64 (a:Int) ||| BitVec.ofInt 64 (b:Int)).toNat:Int)=_;rw[BitVec.toNat_or,ofInt_u64 a (by omega),ofInt_u64 b (by omega)];exact iI _ (by omega)
def nU(a b:Nat)(c:a<9223372036854775808)(hb:b<9223372036854775808):bits .xor .i64 (a:Int) (b:Int)=((a ^^^ b:Nat):Int):=by
 have d:a ^^^ b<2 ^ 63:=Nat.xor_lt_two_pow (by omega) (by omega);show IntKind.i64.wrap ((BitVec.ofInt 64 (a:Int) ^^^ BitVec.ofInt 64 (b:Int)).toNat:Int)=_;rw[BitVec.toNat_xor,ofInt_u64 a (by omega),ofInt_u64 b (by omega)];exact iI _ (by omega)
def DV(n:Int)(b:0<=n)(c:n<9223372036854775808):bits .and .i64 n 65535=n%65536:=by
 obtain⟨a,rfl⟩:=Int.eq_ofNat_of_zero_le b;have:=nS a 65535 (by omega) (by omega);rw[show((65535:Nat):Int)=65535 from rfl]at this;rw[this,nat_mask16];omega
def nT(n:Int)(b:0<=n)(c:n<9223372036854775808):bits .and .i64 n 1=n%2:=by
 obtain⟨a,rfl⟩:=Int.eq_ofNat_of_zero_le b;have:=nS a 1 (by omega) (by omega);rw[show((1:Nat):Int)=1 from rfl]at this;rw[this,nat_mask1];omega
def DW(i:Nat)(x y:Int)(c:0<=x)(e:x<9223372036854775808)(h2:0<=y)(d:y<2 ^ i)(f:y<9223372036854775808)(h:x%2 ^ i=0):bits .or .i64 x y=x+y:=by
 obtain⟨a,rfl⟩:=Int.eq_ofNat_of_zero_le c;obtain⟨b,rfl⟩:=Int.eq_ofNat_of_zero_le h2;rw[mP a b (by omega) (by omega),nat_join i a b (by exact_mod_cast h) (by exact_mod_cast d)];omega
end Go
namespace Go
def aL{P:Program}{ops:Array Oper}{o:Oper}{a:Act}{w:World}{K:Act->World->Prop}{Q:Exit->Act->World->Prop}{E:Prop}
  (F:o.guard=none) (s x:Operand) (t:TypeId) (g:o.op=Op.call { callee:=Callee.builtin Builtin.append,args:=#[s,x],argTypes:=#[t,t] })
  (base:Nat) (e:TypeId) (i:TypeInfo) (z:Value) (size bytes:Nat) (p:P.underlying t=some (.slice e)) (h2:P.info? e=some i) (q:i.zero=some z) (r:i.size=size) (y:i.bytes=bytes) (A:z.cells.size=size) (B:0<size)
  (v:Value) (n:Nat) (xs:List Value) (H:a.eval s=v) (b:w.ownsRow base e size v n xs)
  (ad:Addr) (m c:Nat) (news:List Value) (J:a.eval x = .slice (some ad) m c) (G:news.length=m*size) (D:∀j u,news[j]?=some u->w.cell? (ad.add j)=some u) (f:∀u∈news,u.oneCell'=true)
  (h:n+m<=maxLen) (k:(n+m)*bytes<=140737488355328) (l:base<=w.heap.size)
  (C:∀v' w',w'.ownsRow base e size v' (n+m) (xs++news)->w.grownBy w' v.ownBlock->(v' = .slice none 0 0<->v = .slice none 0 0/\m=0)->K (a.put o.dst v') w') :
  if Region.wanted o (yielded ops a.tmps)=true then Oper.wp P o a w K Q else E:=by
 have I:Region.wanted o (yielded ops a.tmps)=true:=by simp[Region.wanted,F]
 rw[if_pos I];obtain⟨v',w',d,L,M,N⟩:=run_append_own (P:=P) w base t o.type e i z size bytes p h2 q r y A B v n xs b ad m c news G D f h k l;unfold Oper.wp;simp[execOp,g,resolve,invoke,builtin,H,J,d,Result.andThen];exact C v' w' L M N
def kg{P:Program}{ops:Array Oper}{o:Oper}{a:Act}{w:World}{K:Act->World->Prop}{Q:Exit->Act->World->Prop}{E:Prop}(d:Nat)(_:o.dst=some d)(h:if Region.wanted o (yielded ops a.tmps)=true then Oper.wp P o a w K Q else E):if Region.wanted o (yielded ops a.tmps)=true then Oper.wp P o a w K Q else E:=h
end Go
namespace Go.Proofs.YtfannoajibacnaaGreatDoor
open Go
instance:Coe Int Value:=⟨fun x=>.int .i64 x⟩
instance:Coe Nat Value:=⟨fun x=>.int .i64 (x:Int)⟩
instance:Coe ByteArray Value:=⟨.string⟩
instance:Coe Nat (Option Addr):=⟨fun x=>some ⟨x,0,none⟩⟩
instance:Coe Unit (Array Value):=⟨fun _=>#[.string ⟨#[]⟩,.int .i64 0,.int .i64 0,.int .i64 0,.int .i64 0,.int .i64 0,.int .i64 0,.string ⟨#[]⟩]⟩
def a0a := @Nat.le_refl
def a0b := @And.intro
def a0d := @if_pos
def a0e := @if_neg
def a0f := @Option.bind_some
def a0g := @Nat.zero_le
def a0h := @Nat.lt_of_lt_of_le
def a0i := @List.length_append
def a0j := @Nat.lt_succ_self
def a0k := @Bool.and_eq_true
def a0l := @Option.some.injEq
def a0m := @decide_eq_false
def a0n := @Int.toNat_natCast
def a0o := @World.ownsRow.alloc
def a0p := @info_parts
def a0r := @Int.eq_ofNat_of_zero_le
def a0s := @Nat.le_of_lt
def a0t := @List.take_of_length_le
def a0u := @List.length_take
def a0v := @decide_eq_true_eq
def a0w := @wpList_append_own
def a0x := @bodyPost_ret
def a0y := @List.length_replicate
def a0z := @World.ownsRow.lt
def a0A := @Addr.mk.injEq
def a0B := @decide_eq_true
def a0C := @List.length_cons
def a0D := @List.map_cons
def a0E := @Nat.le_trans
def a0G := @Nat.zero_add
def a0H := @ByteArray.size_append
def a0I := @List.append_assoc
def a0J := @Or.inl
def a0K := @List.map_append
def a0L := @Value.slice.injEq
def a0N := @List.sum_cons
def a0O := @List.length_map
def a0P := @Nat.pow_le_pow_right
def a0Q := @and_true
def a0R := @Prod.mk.injEq
def a0S := @World.ownsRow_lit
def a0T := @Nat.pow_add
def a0U := @List.length_nil
def a0V := @IntKind.wrap_i64
def a0W := @List.flatMap_cons
def a0X := @beq_eq_false_iff_ne
def a0Y := @if_true
def a0Z := @Nat.mod_lt
def a00 := @List.length_set
def a02 := @List.mem_cons
def a03 := @List.mem_append
def a04 := @List.length_drop
def a05 := @List.append_nil
def a06 := @Nat.le_succ
def a07 := @Bool.false_eq_true
def a08 := @if_false
def a09 := @List.mem_singleton
def a1a := @List.nil_append
def a1b := @World.ownsRow_nil
def a1c := @List.all_eq_true
def a1d := @Nat.add_zero
def a1e := @List.take_succ_eq_append_getElem
def a1f := @World.ownsRow.cellAt
def a1g := @Nat.mod_eq_of_lt
def a1j := @Nat.mul_comm
def a1l := @List.length_singleton
def a1m := @Bool.or_eq_true
def a1n := @List.take_append_of_le_length
def a1o := @Nat.lt_or_ge
def a1p := @Nat.two_pow_pos
def a1q := @List.cons_append
def a1r := @Nat.min_eq_left
def a1s := @Nat.mod_one
def a1t := @Nat.add_sub_cancel_left
def a1u := @ints_oneCell
def a1v := @or_false
def a1x := @Nat.pow_succ
def a1y := @Nat.add_mul
def a1z := @List.take_append_drop
def a1A := @Option.some.inj
def a1B := @List.flatMap_append
def a1D := @List.not_mem_nil
def a1E := @Int.lt_or_le
def a1F := @World.ownsRow.cells
def a1G := @Int.natCast_mul
def a1H := @Array.toList_append
def a1I := @List.map_nil
def a1J := @wpList_make_full
def a1K := @Option.getD_some
def a1L := @List.drop_zero
def a1M := @List.getElem_of_mem
def a1P := @Nat.ne_of_lt
def a1Q := @Nat.xor_lt_two_pow
def a1R := @Nat.mul_assoc
def a1S := @Lib.toList_data
def a1T := @run_underlying
def a1U := @true_and
def a1V := @World.ownsRow.kept
def a1W := @List.drop_drop
def a1X := @run_callFunc_extern
def a1Y := @Nat.div_div_eq_div_mul
def a1Z := @Nat.div_eq_of_lt
def a12 := @Nat.div_le_self
def a13 := @Nat.ne_of_gt
def a14 := @Int.tmod_eq_emod_of_nonneg
def a15 := @Array.length_toList
def a18 := @List.all_append
def a19 := @List.all_cons
def a2a := @Nat.add_assoc
def a2b := @List.append_inj
def a2c := @ByteArray.data_append
def a2d := @Option.bind_none
def a2e := @ByteArray.size_extract
def a2f := @Nat.mul_le_mul_right
def a2g := @List.getElem_mem
def a2h := @Bool.eq_iff_iff
def a2i := @decide_eq_true_iff
def a2j := @Array.size_append
def a2k := @List.ext_getElem
def a2l := @List.mem_of_mem_take
def a2n := @Nat.eq_zero_or_pos
def a2o := @List.flatMap_nil
def a2p := @List.append_cancel_left
def a2q := @Bool.false_or
def a2r := @Nat.mul_add
def a2s := @List.eq_nil_of_length_eq_zero
def a2t := @Nat.mul_le_mul
def a2u := @World.ownsRow.stored
def a2v := @UInt8.toNat_lt
def a2w := @Nat.zero_lt_succ
def a2x := @List.Perm.refl
def a2y := @List.take_length
def a2z := @Bool.or_eq_false_iff
def a2A := @beq_iff_eq
def a2B := @List.map_singleton
def a2D := @ByteArray.append_assoc
def a2F := @Nat.add_comm
def a2G := @List.getD_cons_succ
def a2H := @u32_xor_nat
def a2I := @List.mem_map_of_mem
def a2L := @Int.le_refl
def a2M := @List.size_toArray
def a2N := @Sem.run_bind
def a2O := @World.ownsRow.frozenAt
def a2P := @Nat.one_mul
def a2Q := @List.drop_append
def a2R := @List.drop_of_length_le
def a2S := @List.mem_map
def a2T := @List.eraseIdx_eq_take_drop_succ
def a2U := @Bool.and_eq_false_iff
def a2V := @decide_eq_false_iff_not
def a2W := @Nat.lt_irrefl
def a2X := @List.take_take
def a2Y := @List.drop_eq_nil_of_le
def a2Z := @List.all_nil
def a26 := @Bool.and_true
def a27 := @Bool.not_eq_true
def a28 := @List.drop_eq_getElem_cons
def a29 := @Bool.true_and
def a3d := @growslice_fits
def a3f := @List.replicate_succ'
def a3g := @Nat.sub_zero
def a3h := @UInt8.toNat_ofNat'
def a3i := @Nat.sub_self
def a3k := @List.sum_nil
def a3l := @List.replicate_zero
def a3m := @Int.toNat_of_nonneg
def a3n := @results_none
def a3o := @List.take_add
def a3p := @Bool.true_or
def a3r := @List.count_le_length
def a3u := @Nat.mod_mul_right_div_self
def a3x := @List.take_left'
def a3y := @of_decide_eq_true
def a3I := @Nat.min_eq_right
def a3J := @Int.natCast_nonneg
def a3O := @grownCap_le_maxLen
def a3P := @run_firstCells_none
def a3Q := @Sem.run_pure
def a3R := @Obj.cells.injEq
def a3S := @Nat.add_sub_cancel
def a3T := @List.range_succ
def a3X := @List.Perm.swap
def a3Y := @List.nodup_append
def a3Z := @List.pairwise_cons
def a30 := @List.drop_take
def a32 := @List.all_eq_false
def a33 := @Option.map_some
def a35 := @List.take_zero
def okB(b:UInt8):Bool:=decide (97<=b.toNat)&&decide (b.toNat<=122) || (decide (48<=b.toNat)&&decide (b.toNat<=57) || (b.toNat == 46 || (b.toNat == 45 || b.toNat == 95)))
def gx(p:List UInt8):Bool:=p.all okB&&(decide (1<=p.length)&&(decide (p.length<=10)&&(!(p == [46])&&!(p == [46,46]))))
def dW:List UInt8->List UInt8->List (List UInt8)
 | cur,[]=>[cur]
 | cur,b :: l=>if b=47 then cur :: dW [] l else dW (cur++[b]) l
def py(l:List UInt8):List (List UInt8):=dW [] l
def fC(l:List UInt8):Bool:=(py l).all gx&&decide ((py l).length<=4)
def ahead(cur:List UInt8):List (List UInt8)->List (List UInt8)
 | []=>[cur]
 | h :: t=>(cur++h) :: t
theorem pX:∀(l cur:List UInt8),dW cur l=ahead cur (dW [] l)
 | [],cur=>by simp[dW,ahead]
 | b :: l,cur=>by
  unfold dW;by_cases h:b=47
  . simp[h,ahead]
  .
   rw[a0e h,a0e h,pX l (cur++[b]),pX l ([]++[b])];cases a:dW [] l with
   | nil=>simp[ahead]
   | cons h t=>simp[ahead]
def I6(l a:List UInt8):dW a l≠[]:=by
 induction l generalizing a with
 | nil=>simp[dW]
 | cons b l ih=>unfold dW;split<;>simp[ih]
theorem oM:∀(l cur:List UInt8) (b:UInt8),dW cur (l++[b])=if b=47 then dW cur l++[[]]else(dW cur l).dropLast++[(dW cur l).getLastD []++[b]]
 | [],cur,b=>by
  by_cases h:b=47<;>simp[dW,h]
 | c :: l,cur,b=>by
  rw[a1q];unfold dW;by_cases h:c=47
  .
   rw[a0d h,a0d h,oM l [] b];have a:=I6 l []
   split
   . simp
   .
    cases d:dW [] l with
    | nil=>exact absurd d a
    | cons x t=>simp
  . rw[a0e h,a0e h,oM l (cur++[c]) b]
theorem qT:∀(l cur:List UInt8),(dW cur l).length<=l.length+1
 | [],cur=>by simp[dW]
 | b :: l,cur=>by
  unfold dW
  split
  . have:=qT l [];simp;omega
  . have:=qT l (cur++[b]);simp;omega
def index_one(c b:UInt8)(l:List UInt8)(h:¬ b=c):Lib.index (b :: l) [c]=if Lib.index l [c] == -1 then -1 else Lib.index l [c]+1:=by
 rw[Lib.index];have:([c].isPrefixOf (b :: l))=false:=by simp only[List.isPrefixOf,a26,a0X,ne_eq];exact fun e=>h e.symm
 rw[this];simp
def wn(c:UInt8)(l:List UInt8):Lib.index (c :: l) [c]=0:=by
 rw[Lib.index];simp[List.isPrefixOf]
theorem ua(c:UInt8):∀(l:List UInt8),Lib.count l [c]≠0->∃k:Nat,Lib.index l [c]=k
 | [],h=>by
  rw[Lib.count_one]at h;simp at h
 | b :: l,h=>by
  by_cases e:b=c
  . subst e;exact⟨0,wn b l⟩
  .
   rw[Lib.count_cons_ne b c l e]at h;obtain⟨k,a⟩:=ua c l h;refine⟨k+1,?_⟩;rw[index_one c b l e,a];have:¬ ((k:Int) == -1)=true:=by simp
   rw[a0e this];omega
def Fi(c b:UInt8)(l:List UInt8)(h:¬ b=c)(n:Nat)(d:n=Lib.count l [c]):Lib.splitK [c] 0 n (b :: l)=ahead [b] (Lib.splitK [c] 0 n l):=by
 cases n with
 | zero=>simp[Lib.splitK,ahead]
 | succ n=>
  obtain⟨k,a⟩:=ua c l (by omega);have e1:Lib.index (b :: l) [c]=((k+1:Nat):Int):=by
   rw[index_one c b l h,a];have:¬ ((k:Int) == -1)=true:=by simp
   rw[a0e this];omega
  have n1:¬ (Lib.index (b :: l) [c] == -1)=true:=by rw[e1];simp;omega
  have n2:¬ (Lib.index l [c] == -1)=true:=by rw[a];simp
  rw[Lib.splitK,a0e n1,e1,Lib.splitK,a0e n2,a];simp[ahead]
theorem tE:∀(l:List UInt8),Lib.splitK [47] 0 (Lib.count l [47]) l=dW [] l
 | []=>by
  have:Lib.count [] [47]=0:=by rw[Lib.count_one];rfl
  rw[this];simp[Lib.splitK,dW]
 | b :: l=>by
  by_cases h:b=47
  . subst h;rw[Lib.count_cons_eq,a2F,Lib.splitK,wn];simp[dW,tE l]
  . rw[Lib.count_cons_ne b 47 l h,Fi 47 b l h _ rfl,tE l,dW,a0e h,pX l ([]++[b])];simp
def EV:List UInt8:=[97,98,99,100,101,102,103,104,105,106,107,108,109,110,111,112,113,114,115,116,117,118,119,120,121,122,48,49,50,51,52,53,54,55,56,57,46,45,95]
def PH:((List.range 256).all fun n=>decide (Lib.indexByte EV n.toUInt8<0) == !okB n.toUInt8)=true:=by decide +kernel
def SC(b:UInt8):decide (Lib.indexByte EV b<0)=!okB b:=by
 have:=a1c.1 PH b.toNat (List.mem_range.2 b.toNat_lt);simpa using this
