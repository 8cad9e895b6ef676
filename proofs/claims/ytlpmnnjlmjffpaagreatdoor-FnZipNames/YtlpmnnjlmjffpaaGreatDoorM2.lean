/- Of what the proof is made: 3 texts, one behind the other. -/
import Derived.Laws.BitsAllLaws
import Derived.Deep.RegionLawGrows
import Derived.Lib.Split
import Derived.Lib.SplitLaws
import Derived.Lib.IndexLaws
import Derived.KernelRfl
set_option linter.unusedSimpArgs false
set_option linter.unusedVariables false
namespace Go
theorem fW(n:Nat)(h:n<9223372036854775808):IntKind.i64.wrap (n:Int)=(n:Int):=by
 simp[IntKind.wrap,IntKind.bits,IntKind.signed];omega
theorem lC(a b:Nat)(c:a<9223372036854775808)(hb:b<9223372036854775808):bits .and .i64 (a:Int) (b:Int)=((a &&& b:Nat):Int):=by
 have d:a &&& b<2 ^ 63:=Nat.and_lt_two_pow _ (by omega);show IntKind.i64.wrap ((BitVec.ofInt 64 (a:Int) &&& BitVec.ofInt 64 (b:Int)).toNat:Int)=_;rw[BitVec.toNat_and,ofInt_u64 a (by omega),ofInt_u64 b (by omega)];exact fW _ (by omega)
theorem nn(a b:Nat)(c:a<9223372036854775808)(hb:b<9223372036854775808):bits .or .i64 (a:Int) (b:Int)=((a ||| b:Nat):Int):=by
 have d:a ||| b<2 ^ 63:=Nat.or_lt_two_pow (by omega) (by omega);show IntKind.i64.wrap ((BitVec.ofInt 64 (a:Int) ||| BitVec.ofInt 64 (b:Int)).toNat:Int)=_;rw[BitVec.toNat_or,ofInt_u64 a (by omega),ofInt_u64 b (by omega)];exact fW _ (by omega)
theorem qx(a b:Nat)(c:a<9223372036854775808)(hb:b<9223372036854775808):bits .xor .i64 (a:Int) (b:Int)=((a ^^^ b:Nat):Int):=by
 have d:a ^^^ b<2 ^ 63:=Nat.xor_lt_two_pow (by omega) (by omega);show IntKind.i64.wrap ((BitVec.ofInt 64 (a:Int) ^^^ BitVec.ofInt 64 (b:Int)).toNat:Int)=_;rw[BitVec.toNat_xor,ofInt_u64 a (by omega),ofInt_u64 b (by omega)];exact fW _ (by omega)
theorem yJ(n:Int)(b:0<=n)(c:n<9223372036854775808):bits .and .i64 n 65535=n%65536:=by
 obtain⟨a,rfl⟩:=Int.eq_ofNat_of_zero_le b;have:=lC a 65535 (by omega) (by omega);rw[show((65535:Nat):Int)=65535 from rfl]at this;rw[this,nat_mask16];omega
theorem qw(n:Int)(b:0<=n)(c:n<9223372036854775808):bits .and .i64 n 1=n%2:=by
 obtain⟨a,rfl⟩:=Int.eq_ofNat_of_zero_le b;have:=lC a 1 (by omega) (by omega);rw[show((1:Nat):Int)=1 from rfl]at this;rw[this,nat_mask1];omega
end Go
namespace Go
theorem aK{P:Program}{ops:Array Oper}{o:Oper}{a:Act}{w:World}{K:Act->World->Prop}{Q:Exit->Act->World->Prop}{E:Prop}
  (F:o.guard=none) (s x:Operand) (t:TypeId) (g:o.op=Op.call { callee:=Callee.builtin Builtin.append,args:=#[s,x],argTypes:=#[t,t] })
  (base:Nat) (e:TypeId) (i:TypeInfo) (z:Value) (size bytes:Nat) (p:P.underlying t=some (.slice e)) (h2:P.info? e=some i) (q:i.zero=some z) (r:i.size=size) (y:i.bytes=bytes) (A:z.cells.size=size) (B:0<size)
  (v:Value) (n:Nat) (xs:List Value) (H:a.eval s=v) (b:w.ownsRow base e size v n xs)
  (ad:Addr) (m c:Nat) (news:List Value) (J:a.eval x = .slice (some ad) m c) (G:news.length=m*size) (D:∀j u,news[j]?=some u->w.cell? (ad.add j)=some u) (f:∀u∈news,u.oneCell'=true)
  (h:n+m<=maxLen) (k:(n+m)*bytes<=140737488355328) (l:base<=w.heap.size)
  (C:∀v' w',w'.ownsRow base e size v' (n+m) (xs++news)->w.grownBy w' v.ownBlock->(v' = .slice none 0 0<->v = .slice none 0 0/\m=0)->K (a.put o.dst v') w') :
  if Region.wanted o (yielded ops a.tmps)=true then Oper.wp P o a w K Q else E:=by
 have I:Region.wanted o (yielded ops a.tmps)=true:=by simp[Region.wanted,F]
 rw[if_pos I];obtain⟨v',w',d,L,M,N⟩:=run_append_own (P:=P) w base t o.type e i z size bytes p h2 q r y A B v n xs b ad m c news G D f h k l;unfold Oper.wp;simp[execOp,g,resolve,invoke,builtin,H,J,d,Result.andThen];exact C v' w' L M N
theorem ip{P:Program}{ops:Array Oper}{o:Oper}{a:Act}{w:World}{K:Act->World->Prop}{Q:Exit->Act->World->Prop}{E:Prop}(d:Nat)(_:o.dst=some d)(h:if Region.wanted o (yielded ops a.tmps)=true then Oper.wp P o a w K Q else E):if Region.wanted o (yielded ops a.tmps)=true then Oper.wp P o a w K Q else E:=h
end Go
namespace Go.Proofs.YtlpmnnjlmjffpaaGreatDoor
open Go
set_option linter.defProp false
def a0a := @Nat.le_refl
def a0b := @And.intro
def a0d := @if_neg
def a0e := @if_pos
def a0f := @Option.bind_some
def a0g := @Nat.zero_le
def a0h := @Bool.and_eq_true
def a0i := @decide_eq_false
def a0j := @Nat.lt_of_lt_of_le
def a0k := @Option.some.injEq
def a0l := @Int.toNat_natCast
def a0m := @List.length_append
def a0n := @World.ownsRow.alloc
def a0o := @decide_eq_true_eq
def a0p := @Nat.lt_succ_self
def a0r := @Int.eq_ofNat_of_zero_le
def a0s := @Or.inl
def a0t := @bodyPost_ret
def a0u := @ByteArray.size_append
def a0v := @List.length_take
def a0w := @info_parts
def a0x := @wpList_append_own
def a0y := @decide_eq_true
def a0z := @List.length_replicate
def a0A := @List.take_of_length_le
def a0B := @List.length_cons
def a0C := @Nat.le_of_lt
def a0D := @World.ownsRow.lt
def a0E := @List.map_cons
def a0F := @Addr.mk.injEq
def a0G := @Nat.le_trans
def a0H := @List.append_assoc
def a0J := @Nat.zero_add
def a0K := @Nat.pow_le_pow_right
def a0L := @Value.slice.injEq
def a0N := @List.sum_cons
def a0O := @Prod.mk.injEq
def a0P := @Nat.pow_add
def a0Q := @List.length_nil
def a0R := @if_true
def a0T := @IntKind.wrap_i64
def a0U := @Nat.mod_eq_of_lt
def a0V := @beq_eq_false_iff_ne
def a0W := @Nat.mod_lt
def a0X := @List.length_drop
def a0Y := @World.ownsRow_lit
def a0Z := @Bool.false_eq_true
def a00 := @if_false
def a02 := @Option.some.inj
def a03 := @and_true
def a04 := @World.ownsRow.cellAt
def a05 := @List.all_eq_true
def a06 := @List.map_append
def a07 := @List.flatMap_cons
def a08 := @Nat.lt_or_ge
def a09 := @List.mem_singleton
def a1a := @List.mem_cons
def a1b := @List.mem_append
def a1c := @Option.getD_some
def a1d := @List.take_append_of_le_length
def a1e := @Nat.le_succ
def a1h := @List.append_inj
def a1i := @List.nil_append
def a1k := @List.append_nil
def a1l := @Nat.add_zero
def a1m := @Nat.min_eq_left
def a1n := @Array.toList_append
def a1o := @List.length_map
def a1p := @ByteArray.size_extract
def a1q := @Nat.mul_comm
def a1r := @List.take_succ_eq_append_getElem
def a1s := @Nat.pow_succ
def a1t := @Nat.two_pow_pos
def a1u := @Nat.mod_one
def a1v := @List.take_length
def a1w := @ByteArray.data_append
def a1x := @Nat.ne_of_lt
def a1y := @Nat.add_mul
def a1z := @List.length_singleton
def a1A := @World.ownsRow_nil
def a1B := @Bool.or_eq_true
def a1C := @Nat.add_sub_cancel_left
def a1D := @List.drop_zero
def a1E := @List.take_append_drop
def a1F := @Lib.toList_data
def a1G := @Int.lt_or_le
def a1H := @Int.natCast_mul
def a1I := @List.length_set
def a1L := @or_false
def a1M := @List.drop_drop
def a1N := @List.append_cancel_left
def a1O := @Nat.xor_lt_two_pow
def a1P := @Nat.mul_assoc
def a1Q := @List.getElem_mem
def a1R := @List.eq_nil_of_length_eq_zero
def a1S := @Nat.ne_of_gt
def a1T := @true_and
def a1U := @Nat.add_assoc
def a1V := @Nat.zero_lt_succ
def a1Y := @List.not_mem_nil
def a1Z := @run_callFunc_extern
def a10 := @Nat.div_div_eq_div_mul
def a11 := @Nat.div_eq_of_lt
def a12 := @List.cons_append
def a13 := @run_underlying
def a14 := @Int.tmod_eq_emod_of_nonneg
def a15 := @World.ownsRow.stored
def a16 := @World.ownsRow.kept
def a17 := @List.all_append
def a18 := @List.all_cons
def a19 := @wpList_make_full
def a2a := @ints_oneCell
def a2b := @Option.bind_none
def a2d := @Nat.mul_le_mul_right
def a2e := @Bool.eq_iff_iff
def a2f := @Nat.div_le_self
def a2g := @World.ownsRow.cells
def a2i := @List.map_nil
def a2j := @Nat.sub_self
def a2k := @List.getElem_of_mem
def a2m := @Bool.false_or
def a2n := @ByteArray.append_assoc
def a2o := @dif_pos
def a2p := @Nat.add_comm
def a2q := @Nat.mul_add
def a2r := @Nat.mul_le_mul
def a2s := @Array.length_toList
def a2t := @World.ownsRow.frozenAt
def a2w := @List.mem_of_mem_take
def a2x := @Nat.eq_zero_or_pos
def a2B := @u32_xor_nat
def a2D := @decide_eq_true_iff
def a2G := @Nat.mul_one
def a2H := @List.ext_getElem
def a2I := @Nat.one_mul
def a2J := @List.drop_append
def a2K := @Nat.sub_zero
def a2L := @List.mem_map
def a2M := @List.flatMap_nil
def a2N := @List.all_nil
def a2O := @List.take_take
def a2P := @List.drop_eq_nil_of_le
def a2S := @Bool.and_true
def a2T := @Bool.not_eq_true
def a2U := @List.getD_cons_succ
def a2V := @List.drop_eq_getElem_cons
def a2W := @List.mem_map_of_mem
def a2X := @of_decide_eq_true
def a22 := @Int.le_refl
def a23 := @Nat.min_eq_right
def a24 := @Array.size_append
def a26 := @Sem.run_bind
def a27 := @List.replicate_succ'
def a28 := @List.flatMap_append
def a29 := @UInt8.toNat_ofNat'
def a3b := @List.replicate_zero
def a3c := @Nat.min_le_right
def a3d := @Int.toNat_of_nonneg
def a3e := @List.drop_take
def a3f := @List.take_add
def a3g := @Bool.true_or
def a3h := @beq_iff_eq
def a3i := @List.count_le_length
def a3j := @List.drop_left'
def a3n := @Nat.mod_mul_right_div_self
def a3q := @List.take_left'
def a3z := @Bool.true_and
def a3A := @Int.natCast_nonneg
def a3F := @Obj.cells.injEq
def a3H := @List.drop_of_length_le
def a3J := @UInt8.toNat_lt
def a3K := @List.take_add_one
def a3M := @List.drop_append_of_le_length
def a3N := @List.all_eq_false
def a3O := @Nat.lt_trichotomy
def a3P := @Option.map_some
def a3Q := @Nat.lt_irrefl
def a3V := @Lib.indexByte_some
def okB(b:UInt8):Bool:=decide (97<=b.toNat)&&decide (b.toNat<=122) || (decide (48<=b.toNat)&&decide (b.toNat<=57) || (b.toNat == 46 || (b.toNat == 45 || b.toNat == 95)))
def fj(p:List UInt8):Bool:=p.all okB&&(decide (1<=p.length)&&(decide (p.length<=10)&&(!(p == [46])&&!(p == [46,46]))))
def dj:List UInt8->List UInt8->List (List UInt8)
 | cur,[]=>[cur]
 | cur,b :: l=>if b=47 then cur :: dj [] l else dj (cur++[b]) l
def mP(l:List UInt8):List (List UInt8):=dj [] l
def j8(l:List UInt8):Bool:=(mP l).all fj&&decide ((mP l).length<=4)
def ahead(cur:List UInt8):List (List UInt8)->List (List UInt8)
 | []=>[cur]
 | h :: t=>(cur++h) :: t
theorem nh:∀(l cur:List UInt8),dj cur l=ahead cur (dj [] l)
 | [],cur=>by simp[dj,ahead]
 | b :: l,cur=>by
  unfold dj;by_cases h:b=47
  . simp[h,ahead]
  .
   rw[a0d h,a0d h,nh l (cur++[b]),nh l ([]++[b])];cases a:dj [] l with
   | nil=>simp[ahead]
   | cons h t=>simp[ahead]
theorem DR(l a:List UInt8):dj a l≠[]:=by
 induction l generalizing a with
 | nil=>simp[dj]
 | cons b l ih=>unfold dj;split<;>simp[ih]
theorem me:∀(l cur:List UInt8) (b:UInt8),dj cur (l++[b])=if b=47 then dj cur l++[[]]else(dj cur l).dropLast++[(dj cur l).getLastD []++[b]]
 | [],cur,b=>by
  by_cases h:b=47<;>simp[dj,h]
 | c :: l,cur,b=>by
  rw[a12];unfold dj;by_cases h:c=47
  .
   rw[a0e h,a0e h,me l [] b];have a:=DR l []
   split
   . simp
   .
    cases d:dj [] l with
    | nil=>exact absurd d a
    | cons x t=>simp
  . rw[a0d h,a0d h,me l (cur++[c]) b]
theorem ot:∀(l cur:List UInt8),(dj cur l).length<=l.length+1
 | [],cur=>by simp[dj]
 | b :: l,cur=>by
  unfold dj
  split
  . have:=ot l [];simp;omega
  . have:=ot l (cur++[b]);simp;omega
theorem index_one(c b:UInt8)(l:List UInt8)(h:¬ b=c):Lib.index (b :: l) [c]=if Lib.index l [c] == -1 then -1 else Lib.index l [c]+1:=by
 rw[Lib.index];have:([c].isPrefixOf (b :: l))=false:=by simp only[List.isPrefixOf,a2S,a0V,ne_eq];exact fun e=>h e.symm
 rw[this];simp
theorem sF(c:UInt8)(l:List UInt8):Lib.index (c :: l) [c]=0:=by
 rw[Lib.index];simp[List.isPrefixOf]
theorem qy(c:UInt8):∀(l:List UInt8),Lib.count l [c]≠0->∃k:Nat,Lib.index l [c]=k
 | [],h=>by
  rw[Lib.count_one]at h;simp at h
 | b :: l,h=>by
  by_cases e:b=c
  . subst e;exact⟨0,sF b l⟩
  .
   rw[Lib.count_cons_ne b c l e]at h;obtain⟨k,a⟩:=qy c l h;refine⟨k+1,?_⟩;rw[index_one c b l e,a];have:¬ ((k:Int) == -1)=true:=by simp
   rw[a0d this];omega
theorem Ad(c b:UInt8)(l:List UInt8)(h:¬ b=c)(n:Nat)(d:n=Lib.count l [c]):Lib.splitK [c] 0 n (b :: l)=ahead [b] (Lib.splitK [c] 0 n l):=by
 cases n with
 | zero=>simp[Lib.splitK,ahead]
 | succ n=>
  obtain⟨k,a⟩:=qy c l (by omega);have e1:Lib.index (b :: l) [c]=((k+1:Nat):Int):=by
   rw[index_one c b l h,a];have:¬ ((k:Int) == -1)=true:=by simp
   rw[a0d this];omega
  have n1:¬ (Lib.index (b :: l) [c] == -1)=true:=by rw[e1];simp;omega
  have n2:¬ (Lib.index l [c] == -1)=true:=by rw[a];simp
  rw[Lib.splitK,a0d n1,e1,Lib.splitK,a0d n2,a];simp[ahead]
theorem p8:∀(l:List UInt8),Lib.splitK [47] 0 (Lib.count l [47]) l=dj [] l
 | []=>by
  have:Lib.count [] [47]=0:=by rw[Lib.count_one];rfl
  rw[this];simp[Lib.splitK,dj]
 | b :: l=>by
  by_cases h:b=47
  . subst h;rw[Lib.count_cons_eq,a2p,Lib.splitK,sF];simp[dj,p8 l]
  . rw[Lib.count_cons_ne b 47 l h,Ad 47 b l h _ rfl,p8 l,dj,a0d h,nh l ([]++[b])];simp
def zQ:List UInt8:=[97,98,99,100,101,102,103,104,105,106,107,108,109,110,111,112,113,114,115,116,117,118,119,120,121,122,48,49,50,51,52,53,54,55,56,57,46,45,95]
theorem Ks:((List.range 256).all fun n=>decide (Lib.indexByte zQ n.toUInt8<0) == !okB n.toUInt8)=true:=by decide +kernel
theorem M1(b:UInt8):decide (Lib.indexByte zQ b<0)=!okB b:=by
 have:=a05.1 Ks b.toNat (List.mem_range.2 b.toNat_lt);simpa using this
end Go.Proofs.YtlpmnnjlmjffpaaGreatDoor
