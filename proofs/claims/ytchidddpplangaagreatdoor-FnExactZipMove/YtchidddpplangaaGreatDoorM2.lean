/- Of what the proof is made: 3 texts, one behind the other. -/
import Derived.Laws.BitsAllLaws
import Derived.Deep.RegionLawGrows
import Derived.Lib.Split
import Derived.Lib.SplitLaws
import Derived.Lib.IndexLaws
import Derived.KernelRfl
set_option linter.unusedSimpArgs false
set_option linter.unusedVariables false
namespace Go
theorem gr(n:Nat)(h:n<9223372036854775808):IntKind.i64.wrap (n:Int)=(n:Int):=by
 simp[IntKind.wrap,IntKind.bits,IntKind.signed];omega
theorem mh(a b:Nat)(c:a<9223372036854775808)(hb:b<9223372036854775808):bits .and .i64 (a:Int) (b:Int)=((a &&& b:Nat):Int):=by
 have d:a &&& b<2 ^ 63:=Nat.and_lt_two_pow _ (by omega);show IntKind.i64.wrap ((BitVec.ofInt 64 (a:Int) &&& BitVec.ofInt 64 (b:Int)).toNat:Int)=_;rw[BitVec.toNat_and,ofInt_u64 a (by omega),ofInt_u64 b (by omega)];exact gr _ (by omega)
theorem lk(a b:Nat)(c:a<9223372036854775808)(hb:b<9223372036854775808):bits .or .i64 (a:Int) (b:Int)=((a ||| b:Nat):Int):=by
 have d:a ||| b<2 ^ 63:=Nat.or_lt_two_pow (by omega) (by omega);show IntKind.i64.wrap ((BitVec.ofInt 64 (a:Int) ||| BitVec.ofInt 64 (b:Int)).toNat:Int)=_;rw[BitVec.toNat_or,ofInt_u64 a (by omega),ofInt_u64 b (by omega)];exact gr _ (by omega)
theorem rl(a b:Nat)(c:a<9223372036854775808)(hb:b<9223372036854775808):bits .xor .i64 (a:Int) (b:Int)=((a ^^^ b:Nat):Int):=by
 have d:a ^^^ b<2 ^ 63:=Nat.xor_lt_two_pow (by omega) (by omega);show IntKind.i64.wrap ((BitVec.ofInt 64 (a:Int) ^^^ BitVec.ofInt 64 (b:Int)).toNat:Int)=_;rw[BitVec.toNat_xor,ofInt_u64 a (by omega),ofInt_u64 b (by omega)];exact gr _ (by omega)
theorem zP(n:Int)(b:0<=n)(c:n<9223372036854775808):bits .and .i64 n 65535=n%65536:=by
 obtain⟨a,rfl⟩:=Int.eq_ofNat_of_zero_le b;have:=mh a 65535 (by omega) (by omega);rw[show((65535:Nat):Int)=65535 from rfl]at this;rw[this,nat_mask16];omega
theorem mj(n:Int)(b:0<=n)(c:n<9223372036854775808):bits .and .i64 n 1=n%2:=by
 obtain⟨a,rfl⟩:=Int.eq_ofNat_of_zero_le b;have:=mh a 1 (by omega) (by omega);rw[show((1:Nat):Int)=1 from rfl]at this;rw[this,nat_mask1];omega
theorem zQ(i:Nat)(x y:Int)(c:0<=x)(e:x<9223372036854775808)(h2:0<=y)(d:y<2 ^ i)(f:y<9223372036854775808)(h:x%2 ^ i=0):bits .or .i64 x y=x+y:=by
 obtain⟨a,rfl⟩:=Int.eq_ofNat_of_zero_le c;obtain⟨b,rfl⟩:=Int.eq_ofNat_of_zero_le h2;rw[lk a b (by omega) (by omega),nat_join i a b (by exact_mod_cast h) (by exact_mod_cast d)];omega
end Go
namespace Go
theorem aL{P:Program}{ops:Array Oper}{o:Oper}{a:Act}{w:World}{K:Act->World->Prop}{Q:Exit->Act->World->Prop}{E:Prop}
  (F:o.guard=none) (s x:Operand) (t:TypeId) (g:o.op=Op.call { callee:=Callee.builtin Builtin.append,args:=#[s,x],argTypes:=#[t,t] })
  (base:Nat) (e:TypeId) (i:TypeInfo) (z:Value) (size bytes:Nat) (p:P.underlying t=some (.slice e)) (h2:P.info? e=some i) (q:i.zero=some z) (r:i.size=size) (y:i.bytes=bytes) (A:z.cells.size=size) (B:0<size)
  (v:Value) (n:Nat) (xs:List Value) (H:a.eval s=v) (b:w.ownsRow base e size v n xs)
  (ad:Addr) (m c:Nat) (news:List Value) (J:a.eval x = .slice (some ad) m c) (G:news.length=m*size) (D:∀j u,news[j]?=some u->w.cell? (ad.add j)=some u) (f:∀u∈news,u.oneCell'=true)
  (h:n+m<=maxLen) (k:(n+m)*bytes<=140737488355328) (l:base<=w.heap.size)
  (C:∀v' w',w'.ownsRow base e size v' (n+m) (xs++news)->w.grownBy w' v.ownBlock->(v' = .slice none 0 0<->v = .slice none 0 0/\m=0)->K (a.put o.dst v') w') :
  if Region.wanted o (yielded ops a.tmps)=true then Oper.wp P o a w K Q else E:=by
 have I:Region.wanted o (yielded ops a.tmps)=true:=by simp[Region.wanted,F]
 rw[if_pos I];obtain⟨v',w',d,L,M,N⟩:=run_append_own (P:=P) w base t o.type e i z size bytes p h2 q r y A B v n xs b ad m c news G D f h k l;unfold Oper.wp;simp[execOp,g,resolve,invoke,builtin,H,J,d,Result.andThen];exact C v' w' L M N
theorem ja{P:Program}{ops:Array Oper}{o:Oper}{a:Act}{w:World}{K:Act->World->Prop}{Q:Exit->Act->World->Prop}{E:Prop}(d:Nat)(_:o.dst=some d)(h:if Region.wanted o (yielded ops a.tmps)=true then Oper.wp P o a w K Q else E):if Region.wanted o (yielded ops a.tmps)=true then Oper.wp P o a w K Q else E:=h
end Go
namespace Go.Proofs.YtchidddpplangaaGreatDoor
open Go
set_option linter.defProp false
def a0a := @Nat.le_refl
def a0b := @And.intro
def a0d := @if_neg
def a0e := @if_pos
def a0f := @Option.bind_some
def a0g := @Nat.zero_le
def a0h := @decide_eq_false
def a0i := @Nat.lt_succ_self
def a0j := @List.length_append
def a0k := @World.ownsRow.alloc
def a0l := @Option.some.injEq
def a0m := @Nat.lt_of_lt_of_le
def a0n := @Bool.and_eq_true
def a0o := @info_parts
def a0p := @Int.toNat_natCast
def a0r := @wpList_append_own
def a0s := @List.length_take
def a0t := @Int.eq_ofNat_of_zero_le
def a0u := @List.take_of_length_le
def a0v := @decide_eq_true
def a0w := @decide_eq_true_eq
def a0x := @List.length_replicate
def a0y := @World.ownsRow.lt
def a0z := @Nat.le_of_lt
def a0A := @Or.inl
def a0B := @Addr.mk.injEq
def a0D := @List.length_cons
def a0E := @Nat.le_trans
def a0F := @bodyPost_ret
def a0G := @Nat.zero_add
def a0H := @List.map_cons
def a0I := @List.map_append
def a0J := @Value.slice.injEq
def a0K := @List.length_map
def a0L := @List.append_assoc
def a0M := @List.sum_cons
def a0N := @Nat.pow_le_pow_right
def a0P := @and_true
def a0R := @ByteArray.size_append
def a0S := @List.length_nil
def a0T := @List.mem_append
def a0U := @List.mem_cons
def a0V := @List.flatMap_cons
def a0W := @Nat.pow_add
def a0X := @if_true
def a0Y := @Nat.mod_lt
def a0Z := @IntKind.wrap_i64
def a00 := @World.ownsRow_nil
def a01 := @Bool.false_eq_true
def a02 := @if_false
def a03 := @beq_eq_false_iff_ne
def a04 := @List.length_drop
def a05 := @World.ownsRow_lit
def a06 := @Nat.le_succ
def a07 := @List.mem_singleton
def a08 := @Prod.mk.injEq
def a09 := @World.ownsRow.cellAt
def a1a := @List.all_eq_true
def a1b := @List.take_succ_eq_append_getElem
def a1c := @List.append_nil
def a1d := @List.length_set
def a1h := @Nat.min_eq_left
def a1j := @Nat.mod_one
def a1k := @Nat.lt_or_ge
def a1l := @ints_oneCell
def a1m := @Nat.mod_eq_of_lt
def a1n := @List.take_append_drop
def a1o := @List.length_singleton
def a1q := @or_false
def a1r := @Nat.two_pow_pos
def a1s := @Nat.mul_comm
def a1t := @Nat.add_mul
def a1u := @Int.lt_or_le
def a1v := @Int.natCast_mul
def a1w := @wpList_make_full
def a1x := @Option.getD_some
def a1y := @Bool.or_eq_true
def a1z := @List.getElem_of_mem
def a1C := @List.not_mem_nil
def a1E := @Nat.ne_of_lt
def a1F := @Nat.xor_lt_two_pow
def a1G := @List.nil_append
def a1H := @Lib.toList_data
def a1I := @Option.some.inj
def a1J := @Nat.add_zero
def a1K := @World.ownsRow.cells
def a1L := @Array.toList_append
def a1M := @World.ownsRow.stored
def a1N := @World.ownsRow.kept
def a1O := @Nat.zero_lt_succ
def a1R := @List.drop_drop
def a1S := @run_callFunc_extern
def a1T := @run_underlying
def a1V := @Nat.div_le_self
def a1W := @Array.length_toList
def a1X := @List.map_nil
def a1Y := @List.all_append
def a1Z := @List.all_cons
def a10 := @Nat.add_sub_cancel_left
def a12 := @List.flatMap_append
def a13 := @List.take_append_of_le_length
def a14 := @List.append_inj
def a15 := @Option.bind_none
def a16 := @Nat.pow_succ
def a17 := @Nat.mul_le_mul_right
def a18 := @List.cons_append
def a19 := @List.getElem_mem
def a2a := @Bool.eq_iff_iff
def a2b := @Int.tmod_eq_emod_of_nonneg
def a2c := @Array.size_append
def a2d := @List.mem_of_mem_take
def a2f := @ByteArray.data_append
def a2g := @List.append_cancel_left
def a2h := @Bool.false_or
def a2i := @Nat.div_div_eq_div_mul
def a2j := @World.ownsRow.frozenAt
def a2k := @List.drop_zero
def a2l := @List.Perm.refl
def a2m := @Nat.eq_zero_or_pos
def a2n := @Bool.or_eq_false_iff
def a2o := @List.flatMap_nil
def a2p := @List.map_singleton
def a2r := @Nat.div_eq_of_lt
def a2s := @Nat.add_comm
def a2t := @Nat.mul_add
def a2u := @Nat.mul_assoc
def a2v := @List.getD_cons_succ
def a2w := @u32_xor_nat
def a2x := @decide_eq_true_iff
def a2A := @List.eq_nil_of_length_eq_zero
def a2B := @List.size_toArray
def a2C := @Sem.run_bind
def a2D := @List.ext_getElem
def a2G := @Nat.one_mul
def a2H := @List.mem_map
def a2I := @UInt8.toNat_lt
def a2K := @Bool.and_eq_false_iff
def a2L := @decide_eq_false_iff_not
def a2M := @List.all_nil
def a2N := @beq_iff_eq
def a2Q := @ByteArray.size_extract
def a2T := @Bool.and_true
def a2U := @Bool.not_eq_true
def a2V := @List.mem_map_of_mem
def a20 := @Nat.min_eq_right
def a22 := @growslice_fits
def a24 := @List.replicate_succ'
def a28 := @List.sum_nil
def a29 := @Int.le_refl
def a3a := @List.replicate_zero
def a3b := @Nat.min_le_right
def a3c := @results_none
def a3d := @List.take_add
def a3e := @List.take_take
def a3f := @Bool.true_or
def a3h := @List.count_le_length
def a3m := @List.drop_eq_getElem_cons
def a3n := @of_decide_eq_true
def a3w := @Bool.true_and
def a3x := @Int.natCast_nonneg
def a3C := @grownCap_le_maxLen
def a3E := @run_firstCells_none
def a3F := @Sem.run_pure
def a3G := @Obj.cells.injEq
def a3H := @Nat.add_sub_cancel
def a3I := @List.range_succ
def a3J := @List.drop_of_length_le
def a3K := @List.eraseIdx_eq_take_drop_succ
def a3M := @List.Perm.swap
def a3N := @List.nodup_append
def a3O := @Nat.lt_irrefl
def a3P := @List.drop_take
def a3Q := @List.all_eq_false
def a3R := @Option.map_some
def a3S := @List.take_zero
def a3T := @Nat.ne_of_gt
def okB(b:UInt8):Bool:=decide (97<=b.toNat)&&decide (b.toNat<=122) || (decide (48<=b.toNat)&&decide (b.toNat<=57) || (b.toNat == 46 || (b.toNat == 45 || b.toNat == 95)))
def fD(p:List UInt8):Bool:=p.all okB&&(decide (1<=p.length)&&(decide (p.length<=10)&&(!(p == [46])&&!(p == [46,46]))))
def dr:List UInt8->List UInt8->List (List UInt8)
 | cur,[]=>[cur]
 | cur,b :: l=>if b=47 then cur :: dr [] l else dr (cur++[b]) l
def nE(l:List UInt8):List (List UInt8):=dr [] l
def gu(l:List UInt8):Bool:=(nE l).all fD&&decide ((nE l).length<=4)
def ahead(cur:List UInt8):List (List UInt8)->List (List UInt8)
 | []=>[cur]
 | h :: t=>(cur++h) :: t
theorem nW:∀(l cur:List UInt8),dr cur l=ahead cur (dr [] l)
 | [],cur=>by simp[dr,ahead]
 | b :: l,cur=>by
  unfold dr;by_cases h:b=47
  . simp[h,ahead]
  .
   rw[a0d h,a0d h,nW l (cur++[b]),nW l ([]++[b])];cases a:dr [] l with
   | nil=>simp[ahead]
   | cons h t=>simp[ahead]
theorem ED(l a:List UInt8):dr a l≠[]:=by
 induction l generalizing a with
 | nil=>simp[dr]
 | cons b l ih=>unfold dr;split<;>simp[ih]
theorem mX:∀(l cur:List UInt8) (b:UInt8),dr cur (l++[b])=if b=47 then dr cur l++[[]]else(dr cur l).dropLast++[(dr cur l).getLastD []++[b]]
 | [],cur,b=>by
  by_cases h:b=47<;>simp[dr,h]
 | c :: l,cur,b=>by
  rw[a18];unfold dr;by_cases h:c=47
  .
   rw[a0e h,a0e h,mX l [] b];have a:=ED l []
   split
   . simp
   .
    cases d:dr [] l with
    | nil=>exact absurd d a
    | cons x t=>simp
  . rw[a0d h,a0d h,mX l (cur++[c]) b]
theorem oP:∀(l cur:List UInt8),(dr cur l).length<=l.length+1
 | [],cur=>by simp[dr]
 | b :: l,cur=>by
  unfold dr
  split
  . have:=oP l [];simp;omega
  . have:=oP l (cur++[b]);simp;omega
theorem index_one(c b:UInt8)(l:List UInt8)(h:¬ b=c):Lib.index (b :: l) [c]=if Lib.index l [c] == -1 then -1 else Lib.index l [c]+1:=by
 rw[Lib.index];have:([c].isPrefixOf (b :: l))=false:=by simp only[List.isPrefixOf,a2T,a03,ne_eq];exact fun e=>h e.symm
 rw[this];simp
theorem tE(c:UInt8)(l:List UInt8):Lib.index (c :: l) [c]=0:=by
 rw[Lib.index];simp[List.isPrefixOf]
theorem rn(c:UInt8):∀(l:List UInt8),Lib.count l [c]≠0->∃k:Nat,Lib.index l [c]=k
 | [],h=>by
  rw[Lib.count_one]at h;simp at h
 | b :: l,h=>by
  by_cases e:b=c
  . subst e;exact⟨0,tE b l⟩
  .
   rw[Lib.count_cons_ne b c l e]at h;obtain⟨k,a⟩:=rn c l h;refine⟨k+1,?_⟩;rw[index_one c b l e,a];have:¬ ((k:Int) == -1)=true:=by simp
   rw[a0d this];omega
theorem Bl(c b:UInt8)(l:List UInt8)(h:¬ b=c)(n:Nat)(d:n=Lib.count l [c]):Lib.splitK [c] 0 n (b :: l)=ahead [b] (Lib.splitK [c] 0 n l):=by
 cases n with
 | zero=>simp[Lib.splitK,ahead]
 | succ n=>
  obtain⟨k,a⟩:=rn c l (by omega);have e1:Lib.index (b :: l) [c]=((k+1:Nat):Int):=by
   rw[index_one c b l h,a];have:¬ ((k:Int) == -1)=true:=by simp
   rw[a0d this];omega
  have n1:¬ (Lib.index (b :: l) [c] == -1)=true:=by rw[e1];simp;omega
  have n2:¬ (Lib.index l [c] == -1)=true:=by rw[a];simp
  rw[Lib.splitK,a0d n1,e1,Lib.splitK,a0d n2,a];simp[ahead]
theorem qN:∀(l:List UInt8),Lib.splitK [47] 0 (Lib.count l [47]) l=dr [] l
 | []=>by
  have:Lib.count [] [47]=0:=by rw[Lib.count_one];rfl
  rw[this];simp[Lib.splitK,dr]
 | b :: l=>by
  by_cases h:b=47
  . subst h;rw[Lib.count_cons_eq,a2s,Lib.splitK,tE];simp[dr,qN l]
  . rw[Lib.count_cons_ne b 47 l h,Bl 47 b l h _ rfl,qN l,dr,a0d h,nW l ([]++[b])];simp
def Ba:List UInt8:=[97,98,99,100,101,102,103,104,105,106,107,108,109,110,111,112,113,114,115,116,117,118,119,120,121,122,48,49,50,51,52,53,54,55,56,57,46,45,95]
theorem KH:((List.range 256).all fun n=>decide (Lib.indexByte Ba n.toUInt8<0) == !okB n.toUInt8)=true:=by decide +kernel
theorem MM(b:UInt8):decide (Lib.indexByte Ba b<0)=!okB b:=by
 have:=a1a.1 KH b.toNat (List.mem_range.2 b.toNat_lt);simpa using this
end Go.Proofs.YtchidddpplangaaGreatDoor
