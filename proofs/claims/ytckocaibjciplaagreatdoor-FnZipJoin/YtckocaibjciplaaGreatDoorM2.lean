/- Texts. -/
import Derived.Laws.BitsAllLaws
import Derived.Deep.RegionLawGrows
import Derived.Lib.SplitLaws
set_option linter.all false
namespace Go
def gV(n:Nat)(h:n<9223372036854775808):IntKind.i64.wrap (n:Int)=(n:Int):=by
 simp[IntKind.wrap,IntKind.bits,IntKind.signed];omega
def mL(a b:Nat)(c:a<9223372036854775808)(hb:b<9223372036854775808):bits .and .i64 (a:Int) (b:Int)=((a &&& b:Nat):Int):=by
 have d:a &&& b<2 ^ 63:=Nat.and_lt_two_pow _ (by omega);show IntKind.i64.wrap ((BitVec.ofInt 64 (a:Int) &&& BitVec.ofInt 64 (b:Int)).toNat:Int)=_;rw[BitVec.toNat_and,ofInt_u64 a (by omega),ofInt_u64 b (by omega)];exact gV _ (by omega)
def lN(a b:Nat)(c:a<9223372036854775808)(hb:b<9223372036854775808):bits .or .i64 (a:Int) (b:Int)=((a ||| b:Nat):Int):=by
 have d:a ||| b<2 ^ 63:=Nat.or_lt_two_pow (by omega) (by omega);show IntKind.i64.wrap ((BitVec.ofInt 64 (a:Int) ||| BitVec.ofInt 64 (b:Int)).toNat:Int)=_;rw[BitVec.toNat_or,ofInt_u64 a (by omega),ofInt_u64 b (by omega)];exact gV _ (by omega)
def mN(a b:Nat)(c:a<9223372036854775808)(hb:b<9223372036854775808):bits .xor .i64 (a:Int) (b:Int)=((a ^^^ b:Nat):Int):=by
 have d:a ^^^ b<2 ^ 63:=Nat.xor_lt_two_pow (by omega) (by omega);show IntKind.i64.wrap ((BitVec.ofInt 64 (a:Int) ^^^ BitVec.ofInt 64 (b:Int)).toNat:Int)=_;rw[BitVec.toNat_xor,ofInt_u64 a (by omega),ofInt_u64 b (by omega)];exact gV _ (by omega)
def Bc(n:Int)(b:0<=n)(c:n<9223372036854775808):bits .and .i64 n 65535=n%65536:=by
 obtain⟨a,rfl⟩:=Int.eq_ofNat_of_zero_le b;have:=mL a 65535 (by omega) (by omega);rw[show((65535:Nat):Int)=65535 from rfl]at this;rw[this,nat_mask16];omega
def mM(n:Int)(b:0<=n)(c:n<9223372036854775808):bits .and .i64 n 1=n%2:=by
 obtain⟨a,rfl⟩:=Int.eq_ofNat_of_zero_le b;have:=mL a 1 (by omega) (by omega);rw[show((1:Nat):Int)=1 from rfl]at this;rw[this,nat_mask1];omega
def Be(i:Nat)(x y:Int)(c:0<=x)(e:x<9223372036854775808)(h2:0<=y)(d:y<2 ^ i)(f:y<9223372036854775808)(h:x%2 ^ i=0):bits .or .i64 x y=x+y:=by
 obtain⟨a,rfl⟩:=Int.eq_ofNat_of_zero_le c;obtain⟨b,rfl⟩:=Int.eq_ofNat_of_zero_le h2;rw[lN a b (by omega) (by omega),nat_join i a b (by exact_mod_cast h) (by exact_mod_cast d)];omega
end Go
namespace Go
def aP{P:Program}{ops:Array Oper}{o:Oper}{a:Act}{w:World}{K:Act->World->Prop}{Q:Exit->Act->World->Prop}{E:Prop}
  (F:o.guard=none) (s x:Operand) (t:TypeId) (g:o.op=Op.call { callee:=Callee.builtin Builtin.append,args:=#[s,x],argTypes:=#[t,t] })
  (base:Nat) (e:TypeId) (i:TypeInfo) (z:Value) (size bytes:Nat) (p:P.underlying t=some (.slice e)) (h2:P.info? e=some i) (q:i.zero=some z) (r:i.size=size) (y:i.bytes=bytes) (A:z.cells.size=size) (B:0<size)
  (v:Value) (n:Nat) (xs:List Value) (H:a.eval s=v) (b:w.ownsRow base e size v n xs)
  (ad:Addr) (m c:Nat) (news:List Value) (J:a.eval x = .slice (some ad) m c) (G:news.length=m*size) (D:∀j u,news[j]?=some u->w.cell? (ad.add j)=some u) (f:∀u∈news,u.oneCell'=true)
  (h:n+m<=maxLen) (k:(n+m)*bytes<=140737488355328) (l:base<=w.heap.size)
  (C:∀v' w',w'.ownsRow base e size v' (n+m) (xs++news)->w.grownBy w' v.ownBlock->(v' = .slice none 0 0<->v = .slice none 0 0/\m=0)->K (a.put o.dst v') w') :
  if Region.wanted o (yielded ops a.tmps)=true then Oper.wp P o a w K Q else E:=by
 have I:Region.wanted o (yielded ops a.tmps)=true:=by simp[Region.wanted,F]
 rw[if_pos I];obtain⟨v',w',d,L,M,N⟩:=run_append_own (P:=P) w base t o.type e i z size bytes p h2 q r y A B v n xs b ad m c news G D f h k l;unfold Oper.wp;simp[execOp,g,resolve,invoke,builtin,H,J,d,Result.andThen];exact C v' w' L M N
def ju{P:Program}{ops:Array Oper}{o:Oper}{a:Act}{w:World}{K:Act->World->Prop}{Q:Exit->Act->World->Prop}{E:Prop}(d:Nat)(_:o.dst=some d)(h:if Region.wanted o (yielded ops a.tmps)=true then Oper.wp P o a w K Q else E):if Region.wanted o (yielded ops a.tmps)=true then Oper.wp P o a w K Q else E:=h
end Go
namespace Go.Proofs.YtckocaibjciplaaGreatDoor
open Go
instance:Coe Int Value:=⟨fun x=>.int .i64 x⟩
instance:Coe Nat Value:=⟨fun x=>.int .i64 (x:Int)⟩
instance:Coe ByteArray Value:=⟨.string⟩
instance:Coe Nat (Option Addr):=⟨fun x=>some ⟨x,0,none⟩⟩
instance:Coe Unit (Array Value):=⟨fun _=>#[.string ⟨#[]⟩,.int .i64 0,.int .i64 0,.int .i64 0,.int .i64 0,.int .i64 0,.int .i64 0,.string ⟨#[]⟩]⟩
def a0a := @Nat.le_refl
def a0b := @And.intro
def a0d := @if_pos
def a0e := @if_neg
def a0f := @Option.bind_some
def a0g := @Nat.zero_le
def a0h := @Nat.lt_succ_self
def a0i := @List.length_append
def a0j := @Option.some.injEq
def a0k := @Bool.and_eq_true
def a0l := @Nat.lt_of_lt_of_le
def a0m := @decide_eq_false
def a0n := @World.ownsRow.alloc
def a0o := @Int.toNat_natCast
def a0p := @Int.eq_ofNat_of_zero_le
def a0r := @info_parts
def a0s := @Nat.le_of_lt
def a0t := @decide_eq_true_eq
def a0u := @List.take_of_length_le
def a0v := @wpList_append_own
def a0w := @List.length_replicate
def a0x := @List.length_take
def a0y := @decide_eq_true
def a0z := @World.ownsRow.lt
def a0A := @Addr.mk.injEq
def a0B := @List.length_cons
def a0C := @List.map_cons
def a0E := @Nat.le_trans
def a0F := @bodyPost_ret
def a0G := @ByteArray.size_append
def a0H := @Nat.zero_add
def a0I := @Or.inl
def a0J := @List.map_append
def a0K := @List.append_assoc
def a0L := @Value.slice.injEq
def a0M := @List.length_map
def a0O := @and_true
def a0P := @List.sum_cons
def a0Q := @Nat.pow_le_pow_right
def a0R := @Prod.mk.injEq
def a0S := @Nat.pow_add
def a0T := @List.length_nil
def a0U := @World.ownsRow_lit
def a0V := @if_true
def a0W := @IntKind.wrap_i64
def a0Y := @Nat.mod_lt
def a0Z := @List.mem_cons
def a00 := @List.flatMap_cons
def a01 := @List.mem_append
def a02 := @Nat.le_succ
def a03 := @Bool.false_eq_true
def a04 := @if_false
def a05 := @List.append_nil
def a06 := @List.mem_singleton
def a07 := @beq_eq_false_iff_ne
def a08 := @List.nil_append
def a09 := @List.length_drop
def a1a := @World.ownsRow_nil
def a1b := @List.all_eq_true
def a1c := @Nat.add_zero
def a1d := @Nat.mod_eq_of_lt
def a1e := @List.take_succ_eq_append_getElem
def a1g := @World.ownsRow.cellAt
def a1h := @Nat.mul_comm
def a1j := @List.length_singleton
def a1k := @Bool.or_eq_true
def a1l := @Nat.two_pow_pos
def a1m := @List.cons_append
def a1n := @Nat.mod_one
def a1o := @Nat.lt_or_ge
def a1p := @ints_oneCell
def a1q := @or_false
def a1r := @Nat.pow_succ
def a1s := @Option.some.inj
def a1t := @true_and
def a1u := @Nat.min_eq_left
def a1v := @Nat.add_sub_cancel_left
def a1x := @List.not_mem_nil
def a1y := @Int.lt_or_le
def a1z := @Int.natCast_mul
def a1A := @Array.toList_append
def a1B := @wpList_make_full
def a1C := @Option.getD_some
def a1G := @Nat.ne_of_lt
def a1H := @Nat.add_mul
def a1I := @Nat.xor_lt_two_pow
def a1J := @Nat.mul_assoc
def a1K := @Lib.toList_data
def a1L := @List.map_nil
def a1M := @World.ownsRow.kept
def a1N := @List.drop_zero
def a1O := @List.getElem_of_mem
def a1P := @List.take_append_of_le_length
def a1Q := @List.drop_drop
def a1R := @run_callFunc_extern
def a1T := @Nat.div_div_eq_div_mul
def a1U := @Nat.div_eq_of_lt
def a1V := @List.take_append_drop
def a1W := @run_underlying
def a1X := @Nat.div_le_self
def a1Y := @World.ownsRow.cells
def a1Z := @Nat.ne_of_gt
def a10 := @Int.tmod_eq_emod_of_nonneg
def a12 := @Array.length_toList
def a13 := @List.length_set
def a16 := @List.all_append
def a17 := @List.all_cons
def a18 := @Nat.add_assoc
def a19 := @List.append_inj
def a2a := @ByteArray.data_append
def a2b := @Option.bind_none
def a2c := @ByteArray.size_extract
def a2e := @decide_eq_true_iff
def a2f := @List.mem_of_mem_take
def a2h := @Nat.eq_zero_or_pos
def a2i := @List.flatMap_nil
def a2j := @List.append_cancel_left
def a2k := @Bool.false_or
def a2l := @Nat.mul_le_mul_right
def a2m := @Nat.mul_add
def a2n := @List.getElem_mem
def a2o := @Bool.eq_iff_iff
def a2p := @List.eq_nil_of_length_eq_zero
def a2q := @Nat.mul_le_mul
def a2r := @Array.size_append
def a2s := @List.ext_getElem
def a2t := @UInt8.toNat_lt
def a2u := @Nat.zero_lt_succ
def a2v := @List.Perm.refl
def a2w := @List.take_length
def a2x := @Bool.or_eq_false_iff
def a2y := @List.map_singleton
def a2A := @ByteArray.append_assoc
def a2C := @List.getD_cons_succ
def a2D := @u32_xor_nat
def a2E := @List.mem_map_of_mem
def a2H := @Int.le_refl
def a2I := @List.size_toArray
def a2J := @Sem.run_bind
def a2K := @List.mem_map
def a2L := @List.drop_of_length_le
def a2M := @List.flatMap_append
def a2N := @Bool.and_eq_false_iff
def a2O := @decide_eq_false_iff_not
def a2P := @Nat.lt_irrefl
def a2Q := @List.drop_eq_nil_of_le
def a2R := @List.all_nil
def a2W := @Bool.and_true
def a2X := @Nat.add_comm
def a2Y := @Bool.not_eq_true
def a2Z := @List.drop_eq_getElem_cons
def a20 := @List.cons.injEq
def a22 := @Bool.true_and
def a26 := @World.ownsRow.stored
def a28 := @List.replicate_succ'
def a29 := @Nat.sub_zero
def a3a := @UInt8.toNat_ofNat'
def a3c := @List.drop_append
def a3d := @List.replicate_zero
def a3e := @Int.toNat_of_nonneg
def a3f := @results_none
def a3g := @List.take_add
def a3h := @List.take_take
def a3i := @Bool.true_or
def a3k := @List.count_le_length
def a3n := @Nat.mod_mul_right_div_self
def a3q := @of_decide_eq_true
def a3A := @Nat.min_eq_right
def a3B := @Int.natCast_nonneg
def a3F := @growslice_fits
def a3G := @Sem.run_pure
def a3H := @World.ownsRow.frozenAt
def a3I := @Obj.cells.injEq
def a3K := @Nat.add_sub_cancel
def a3L := @List.range_succ
def a3P := @List.sum_nil
def a3Q := @List.Perm.swap
def a3R := @List.nodup_append
def a3S := @Nat.sub_self
def a3T := @List.drop_take
def a3U := @List.all_eq_false
def a3V := @beq_iff_eq
def a3W := @Option.map_some
def a3X := @List.take_zero
def okB(b:UInt8):Bool:=decide (97<=b.toNat)&&decide (b.toNat<=122) || (decide (48<=b.toNat)&&decide (b.toNat<=57) || (b.toNat == 46 || (b.toNat == 45 || b.toNat == 95)))
def fQ(p:List UInt8):Bool:=p.all okB&&(decide (1<=p.length)&&(decide (p.length<=10)&&(!(p == [46])&&!(p == [46,46]))))
def dB:List UInt8->List UInt8->List (List UInt8)
 | cur,[]=>[cur]
 | cur,b :: l=>if b=47 then cur :: dB [] l else dB (cur++[b]) l
def oe(l:List UInt8):List (List UInt8):=dB [] l
def ln(l:List UInt8):Bool:=(oe l).all fQ&&decide ((oe l).length<=4)
def ahead(cur:List UInt8):List (List UInt8)->List (List UInt8)
 | []=>[cur]
 | h :: t=>(cur++h) :: t
theorem oL:∀(l cur:List UInt8),dB cur l=ahead cur (dB [] l)
 | [],cur=>by simp[dB,ahead]
 | b :: l,cur=>by
  unfold dB;by_cases h:b=47
  . simp[h,ahead]
  .
   rw[a0e h,a0e h,oL l (cur++[b]),oL l ([]++[b])];cases a:dB [] l with
   | nil=>simp[ahead]
   | cons h t=>simp[ahead]
def Gc(l a:List UInt8):dB a l≠[]:=by
 induction l generalizing a with
 | nil=>simp[dB]
 | cons b l ih=>unfold dB;split<;>simp[ih]
theorem ny:∀(l cur:List UInt8) (b:UInt8),dB cur (l++[b])=if b=47 then dB cur l++[[]]else(dB cur l).dropLast++[(dB cur l).getLastD []++[b]]
 | [],cur,b=>by
  by_cases h:b=47<;>simp[dB,h]
 | c :: l,cur,b=>by
  rw[a1m];unfold dB;by_cases h:c=47
  .
   rw[a0d h,a0d h,ny l [] b];have a:=Gc l []
   split
   . simp
   .
    cases d:dB [] l with
    | nil=>exact absurd d a
    | cons x t=>simp
  . rw[a0e h,a0e h,ny l (cur++[c]) b]
theorem pE:∀(l cur:List UInt8),(dB cur l).length<=l.length+1
 | [],cur=>by simp[dB]
 | b :: l,cur=>by
  unfold dB
  split
  . have:=pE l [];simp;omega
  . have:=pE l (cur++[b]);simp;omega
def index_one(c b:UInt8)(l:List UInt8)(h:¬ b=c):Lib.index (b :: l) [c]=if Lib.index l [c] == -1 then -1 else Lib.index l [c]+1:=by
 rw[Lib.index];have:([c].isPrefixOf (b :: l))=false:=by simp only[List.isPrefixOf,a2W,a07,ne_eq];exact fun e=>h e.symm
 rw[this];simp
def uC(c:UInt8)(l:List UInt8):Lib.index (c :: l) [c]=0:=by
 rw[Lib.index];simp[List.isPrefixOf]
theorem sj(c:UInt8):∀(l:List UInt8),Lib.count l [c]≠0->∃k:Nat,Lib.index l [c]=k
 | [],h=>by
  rw[Lib.count_one]at h;simp at h
 | b :: l,h=>by
  by_cases e:b=c
  . subst e;exact⟨0,uC b l⟩
  .
   rw[Lib.count_cons_ne b c l e]at h;obtain⟨k,a⟩:=sj c l h;refine⟨k+1,?_⟩;rw[index_one c b l e,a];have:¬ ((k:Int) == -1)=true:=by simp
   rw[a0e this];omega
def CQ(c b:UInt8)(l:List UInt8)(h:¬ b=c)(n:Nat)(d:n=Lib.count l [c]):Lib.splitK [c] 0 n (b :: l)=ahead [b] (Lib.splitK [c] 0 n l):=by
 cases n with
 | zero=>simp[Lib.splitK,ahead]
 | succ n=>
  obtain⟨k,a⟩:=sj c l (by omega);have e1:Lib.index (b :: l) [c]=((k+1:Nat):Int):=by
   rw[index_one c b l h,a];have:¬ ((k:Int) == -1)=true:=by simp
   rw[a0e this];omega
  have n1:¬ (Lib.index (b :: l) [c] == -1)=true:=by rw[e1];simp;omega
  have n2:¬ (Lib.index l [c] == -1)=true:=by rw[a];simp
  rw[Lib.splitK,a0e n1,e1,Lib.splitK,a0e n2,a];simp[ahead]
theorem rJ:∀(l:List UInt8),Lib.splitK [47] 0 (Lib.count l [47]) l=dB [] l
 | []=>by
  have:Lib.count [] [47]=0:=by rw[Lib.count_one];rfl
  rw[this];simp[Lib.splitK,dB]
 | b :: l=>by
  by_cases h:b=47
  . subst h;rw[Lib.count_cons_eq,a2X,Lib.splitK,uC];simp[dB,rJ l]
  . rw[Lib.count_cons_ne b 47 l h,CQ 47 b l h _ rfl,rJ l,dB,a0e h,oL l ([]++[b])];simp
def Cs:List UInt8:=[97,98,99,100,101,102,103,104,105,106,107,108,109,110,111,112,113,114,115,116,117,118,119,120,121,122,48,49,50,51,52,53,54,55,56,57,46,45,95]
def MW:((List.range 256).all fun n=>decide (Lib.indexByte Cs n.toUInt8<0) == !okB n.toUInt8)=true:=by decide +kernel
def PI(b:UInt8):decide (Lib.indexByte Cs b<0)=!okB b:=by
 have:=a1b.1 MW b.toNat (List.mem_range.2 b.toNat_lt);simpa using this
