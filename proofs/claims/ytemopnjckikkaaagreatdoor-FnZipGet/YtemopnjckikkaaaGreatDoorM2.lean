/- Texts. -/
import Derived.Laws.BitsAllLaws
import Derived.Deep.RegionLawGrows
import Derived.Lib.SplitLaws
set_option linter.all false
namespace Go
def gQ(n:Nat)(h:n<9223372036854775808):IntKind.i64.wrap (n:Int)=(n:Int):=by
 simp[IntKind.wrap,IntKind.bits,IntKind.signed];omega
def mH(a b:Nat)(c:a<9223372036854775808)(hb:b<9223372036854775808):bits .and .i64 (a:Int) (b:Int)=((a &&& b:Nat):Int):=by
 have d:a &&& b<2 ^ 63:=Nat.and_lt_two_pow _ (by omega);show IntKind.i64.wrap ((BitVec.ofInt 64 (a:Int) &&& BitVec.ofInt 64 (b:Int)).toNat:Int)=_;rw[BitVec.toNat_and,ofInt_u64 a (by omega),ofInt_u64 b (by omega)];exact gQ _ (by omega)
def lJ(a b:Nat)(c:a<9223372036854775808)(hb:b<9223372036854775808):bits .or .i64 (a:Int) (b:Int)=((a ||| b:Nat):Int):=by
 have d:a ||| b<2 ^ 63:=Nat.or_lt_two_pow (by omega) (by omega);show IntKind.i64.wrap ((BitVec.ofInt 64 (a:Int) ||| BitVec.ofInt 64 (b:Int)).toNat:Int)=_;rw[BitVec.toNat_or,ofInt_u64 a (by omega),ofInt_u64 b (by omega)];exact gQ _ (by omega)
def mL(a b:Nat)(c:a<9223372036854775808)(hb:b<9223372036854775808):bits .xor .i64 (a:Int) (b:Int)=((a ^^^ b:Nat):Int):=by
 have d:a ^^^ b<2 ^ 63:=Nat.xor_lt_two_pow (by omega) (by omega);show IntKind.i64.wrap ((BitVec.ofInt 64 (a:Int) ^^^ BitVec.ofInt 64 (b:Int)).toNat:Int)=_;rw[BitVec.toNat_xor,ofInt_u64 a (by omega),ofInt_u64 b (by omega)];exact gQ _ (by omega)
def AJ(n:Int)(b:0<=n)(c:n<9223372036854775808):bits .and .i64 n 65535=n%65536:=by
 obtain⟨a,rfl⟩:=Int.eq_ofNat_of_zero_le b;have:=mH a 65535 (by omega) (by omega);rw[show((65535:Nat):Int)=65535 from rfl]at this;rw[this,nat_mask16];omega
def mJ(n:Int)(b:0<=n)(c:n<9223372036854775808):bits .and .i64 n 1=n%2:=by
 obtain⟨a,rfl⟩:=Int.eq_ofNat_of_zero_le b;have:=mH a 1 (by omega) (by omega);rw[show((1:Nat):Int)=1 from rfl]at this;rw[this,nat_mask1];omega
def AL(i:Nat)(x y:Int)(c:0<=x)(e:x<9223372036854775808)(h2:0<=y)(d:y<2 ^ i)(f:y<9223372036854775808)(h:x%2 ^ i=0):bits .or .i64 x y=x+y:=by
 obtain⟨a,rfl⟩:=Int.eq_ofNat_of_zero_le c;obtain⟨b,rfl⟩:=Int.eq_ofNat_of_zero_le h2;rw[lJ a b (by omega) (by omega),nat_join i a b (by exact_mod_cast h) (by exact_mod_cast d)];omega
end Go
namespace Go
def aQ{P:Program}{ops:Array Oper}{o:Oper}{a:Act}{w:World}{K:Act->World->Prop}{Q:Exit->Act->World->Prop}{E:Prop}
  (F:o.guard=none) (s x:Operand) (t:TypeId) (g:o.op=Op.call { callee:=Callee.builtin Builtin.append,args:=#[s,x],argTypes:=#[t,t] })
  (base:Nat) (e:TypeId) (i:TypeInfo) (z:Value) (size bytes:Nat) (p:P.underlying t=some (.slice e)) (h2:P.info? e=some i) (q:i.zero=some z) (r:i.size=size) (y:i.bytes=bytes) (A:z.cells.size=size) (B:0<size)
  (v:Value) (n:Nat) (xs:List Value) (H:a.eval s=v) (b:w.ownsRow base e size v n xs)
  (ad:Addr) (m c:Nat) (news:List Value) (J:a.eval x = .slice (some ad) m c) (G:news.length=m*size) (D:∀j u,news[j]?=some u->w.cell? (ad.add j)=some u) (f:∀u∈news,u.oneCell'=true)
  (h:n+m<=maxLen) (k:(n+m)*bytes<=140737488355328) (l:base<=w.heap.size)
  (C:∀v' w',w'.ownsRow base e size v' (n+m) (xs++news)->w.grownBy w' v.ownBlock->(v' = .slice none 0 0<->v = .slice none 0 0/\m=0)->K (a.put o.dst v') w') :
  if Region.wanted o (yielded ops a.tmps)=true then Oper.wp P o a w K Q else E:=by
 have I:Region.wanted o (yielded ops a.tmps)=true:=by simp[Region.wanted,F]
 rw[if_pos I];obtain⟨v',w',d,L,M,N⟩:=run_append_own (P:=P) w base t o.type e i z size bytes p h2 q r y A B v n xs b ad m c news G D f h k l;unfold Oper.wp;simp[execOp,g,resolve,invoke,builtin,H,J,d,Result.andThen];exact C v' w' L M N
def jr{P:Program}{ops:Array Oper}{o:Oper}{a:Act}{w:World}{K:Act->World->Prop}{Q:Exit->Act->World->Prop}{E:Prop}(d:Nat)(_:o.dst=some d)(h:if Region.wanted o (yielded ops a.tmps)=true then Oper.wp P o a w K Q else E):if Region.wanted o (yielded ops a.tmps)=true then Oper.wp P o a w K Q else E:=h
end Go
namespace Go.Proofs.YtemopnjckikkaaaGreatDoor
open Go
instance:Coe Int Value:=⟨fun x=>.int .i64 x⟩
instance:Coe Nat Value:=⟨fun x=>.int .i64 (x:Int)⟩
instance:Coe ByteArray Value:=⟨.string⟩
instance:Coe Nat (Option Addr):=⟨fun x=>some ⟨x,0,none⟩⟩
instance:Coe Unit (Array Value):=⟨fun _=>#[.string ⟨#[]⟩,.int .i64 0,.int .i64 0,.int .i64 0,.int .i64 0,.int .i64 0,.int .i64 0,.string ⟨#[]⟩]⟩
def a0a := @Nat.le_refl
def a0b := @And.intro
def a0c := @if_pos
def a0d := @if_neg
def a0e := @Option.bind_some
def a0f := @Nat.zero_le
def a0g := @Nat.lt_succ_self
def a0h := @Nat.lt_of_lt_of_le
def a0i := @List.length_append
def a0j := @Option.some.injEq
def a0k := @Bool.and_eq_true
def a0l := @decide_eq_false
def a0m := @World.ownsRow.alloc
def a0n := @Int.toNat_natCast
def a0o := @Int.eq_ofNat_of_zero_le
def a0p := @info_parts
def a0r := @Nat.le_of_lt
def a0s := @decide_eq_true_eq
def a0t := @List.take_of_length_le
def a0u := @wpList_append_own
def a0v := @List.length_replicate
def a0w := @List.length_take
def a0x := @decide_eq_true
def a0y := @World.ownsRow.lt
def a0z := @Addr.mk.injEq
def a0A := @List.length_cons
def a0B := @List.map_cons
def a0C := @bodyPost_ret
def a0D := @ByteArray.size_append
def a0E := @Nat.le_trans
def a0F := @Nat.zero_add
def a0G := @Or.inl
def a0H := @List.map_append
def a0I := @List.append_assoc
def a0J := @Value.slice.injEq
def a0K := @List.length_map
def a0L := @List.sum_cons
def a0M := @Nat.pow_le_pow_right
def a0N := @and_true
def a0O := @Prod.mk.injEq
def a0P := @Nat.pow_add
def a0Q := @List.length_nil
def a0R := @World.ownsRow_lit
def a0S := @if_true
def a0T := @IntKind.wrap_i64
def a0U := @Nat.mod_lt
def a0V := @List.mem_cons
def a0W := @List.flatMap_cons
def a0X := @List.mem_append
def a0Y := @Nat.le_succ
def a0Z := @Bool.false_eq_true
def a00 := @if_false
def a01 := @List.append_nil
def a02 := @List.mem_singleton
def a03 := @beq_eq_false_iff_ne
def a04 := @List.nil_append
def a05 := @List.length_drop
def a06 := @World.ownsRow_nil
def a07 := @World.ownsRow.cellAt
def a08 := @List.all_eq_true
def a09 := @Nat.add_zero
def a1a := @Nat.mod_eq_of_lt
def a1b := @List.take_succ_eq_append_getElem
def a1c := @Nat.mul_comm
def a1d := @List.length_singleton
def a1e := @Bool.or_eq_true
def a1f := @Nat.two_pow_pos
def a1g := @List.cons_append
def a1h := @Nat.mod_one
def a1i := @Nat.lt_or_ge
def a1j := @ints_oneCell
def a1k := @or_false
def a1l := @Nat.pow_succ
def a1m := @Option.some.inj
def a1n := @Nat.min_eq_left
def a1o := @Nat.add_sub_cancel_left
def a1p := @List.not_mem_nil
def a1q := @Int.lt_or_le
def a1r := @Int.natCast_mul
def a1s := @Array.toList_append
def a1t := @wpList_make_full
def a1u := @Option.getD_some
def a1v := @Nat.ne_of_lt
def a1w := @Nat.add_mul
def a1x := @Nat.xor_lt_two_pow
def a1y := @Nat.mul_assoc
def a1z := @Lib.toList_data
def a1A := @true_and
def a1B := @List.map_nil
def a1C := @World.ownsRow.kept
def a1D := @List.drop_zero
def a1E := @List.getElem_of_mem
def a1F := @List.take_append_of_le_length
def a1G := @List.drop_drop
def a1H := @run_callFunc_extern
def a1I := @Nat.div_div_eq_div_mul
def a1J := @Nat.div_eq_of_lt
def a1K := @List.take_append_drop
def a1L := @run_underlying
def a1M := @Nat.div_le_self
def a1N := @World.ownsRow.cells
def a1O := @Nat.ne_of_gt
def a1P := @Int.tmod_eq_emod_of_nonneg
def a1Q := @Array.length_toList
def a1R := @List.length_set
def a1S := @List.all_append
def a1T := @List.all_cons
def a1U := @Nat.add_assoc
def a1V := @ByteArray.data_append
def a1W := @List.append_inj
def a1X := @Option.bind_none
def a1Y := @ByteArray.size_extract
def a1Z := @decide_eq_true_iff
def a10 := @List.mem_of_mem_take
def a12 := @Nat.eq_zero_or_pos
def a13 := @List.flatMap_nil
def a14 := @List.append_cancel_left
def a15 := @Bool.false_or
def a16 := @Nat.mul_le_mul_right
def a17 := @Nat.mul_add
def a18 := @List.getElem_mem
def a19 := @Bool.eq_iff_iff
def a2a := @List.eq_nil_of_length_eq_zero
def a2b := @Nat.mul_le_mul
def a2c := @Array.size_append
def a2d := @World.ownsRow.frozenAt
def a2e := @List.ext_getElem
def a2f := @UInt8.toNat_lt
def a2g := @Nat.zero_lt_succ
def a2h := @List.Perm.refl
def a2i := @List.take_length
def a2j := @Bool.or_eq_false_iff
def a2k := @List.map_singleton
def a2l := @ByteArray.append_assoc
def a2n := @List.getD_cons_succ
def a2o := @u32_xor_nat
def a2p := @List.mem_map_of_mem
def a2q := @Int.le_refl
def a2r := @List.size_toArray
def a2s := @Sem.run_bind
def a2t := @List.mem_map
def a2u := @List.flatMap_append
def a2v := @Bool.and_eq_false_iff
def a2w := @decide_eq_false_iff_not
def a2x := @Nat.lt_irrefl
def a2y := @List.all_nil
def a2z := @List.drop_eq_nil_of_le
def a2A := @Bool.and_true
def a2B := @Nat.add_comm
def a2C := @Bool.not_eq_true
def a2D := @Bool.true_and
def a2E := @Nat.min_eq_right
def a2F := @World.ownsRow.stored
def a2G := @List.replicate_succ'
def a2H := @Nat.sub_zero
def a2I := @UInt8.toNat_ofNat'
def a2J := @List.drop_append
def a2K := @List.replicate_zero
def a2L := @Int.toNat_of_nonneg
def a2M := @results_none
def a2N := @List.take_add
def a2O := @List.take_take
def a2P := @Bool.true_or
def a2Q := @List.count_le_length
def a2R := @Nat.mod_mul_right_div_self
def a2U := @List.drop_eq_getElem_cons
def a2V := @of_decide_eq_true
def a2X := @Int.natCast_nonneg
def a2Z := @growslice_fits
def a20 := @Sem.run_pure
def a22 := @Obj.cells.injEq
def a24 := @Nat.add_sub_cancel
def a26 := @List.range_succ
def a28 := @List.sum_nil
def a29 := @List.Perm.swap
def a3a := @List.nodup_append
def a3b := @Nat.sub_self
def a3c := @List.drop_take
def a3d := @List.all_eq_false
def a3e := @beq_iff_eq
def a3f := @Option.map_some
def a3g := @List.take_zero
def okB(b:UInt8):Bool:=decide (97<=b.toNat)&&decide (b.toNat<=122) || (decide (48<=b.toNat)&&decide (b.toNat<=57) || (b.toNat == 46 || (b.toNat == 45 || b.toNat == 95)))
def fK(p:List UInt8):Bool:=p.all okB&&(decide (1<=p.length)&&(decide (p.length<=10)&&(!(p == [46])&&!(p == [46,46]))))
def dC:List UInt8->List UInt8->List (List UInt8)
 | cur,[]=>[cur]
 | cur,b :: l=>if b=47 then cur :: dC [] l else dC (cur++[b]) l
def nX(l:List UInt8):List (List UInt8):=dC [] l
def lj(l:List UInt8):Bool:=(nX l).all fK&&decide ((nX l).length<=4)
def ahead(cur:List UInt8):List (List UInt8)->List (List UInt8)
 | []=>[cur]
 | h :: t=>(cur++h) :: t
theorem oE:∀(l cur:List UInt8),dC cur l=ahead cur (dC [] l)
 | [],cur=>by simp[dC,ahead]
 | b :: l,cur=>by
  unfold dC;by_cases h:b=47
  . simp[h,ahead]
  .
   rw[a0d h,a0d h,oE l (cur++[b]),oE l ([]++[b])];cases a:dC [] l with
   | nil=>simp[ahead]
   | cons h t=>simp[ahead]
def FT(l a:List UInt8):dC a l≠[]:=by
 induction l generalizing a with
 | nil=>simp[dC]
 | cons b l ih=>unfold dC;split<;>simp[ih]
theorem nt:∀(l cur:List UInt8) (b:UInt8),dC cur (l++[b])=if b=47 then dC cur l++[[]]else(dC cur l).dropLast++[(dC cur l).getLastD []++[b]]
 | [],cur,b=>by
  by_cases h:b=47<;>simp[dC,h]
 | c :: l,cur,b=>by
  rw[a1g];unfold dC;by_cases h:c=47
  .
   rw[a0c h,a0c h,nt l [] b];have a:=FT l []
   split
   . simp
   .
    cases d:dC [] l with
    | nil=>exact absurd d a
    | cons x t=>simp
  . rw[a0d h,a0d h,nt l (cur++[c]) b]
theorem pt:∀(l cur:List UInt8),(dC cur l).length<=l.length+1
 | [],cur=>by simp[dC]
 | b :: l,cur=>by
  unfold dC
  split
  . have:=pt l [];simp;omega
  . have:=pt l (cur++[b]);simp;omega
def index_one(c b:UInt8)(l:List UInt8)(h:¬ b=c):Lib.index (b :: l) [c]=if Lib.index l [c] == -1 then -1 else Lib.index l [c]+1:=by
 rw[Lib.index];have:([c].isPrefixOf (b :: l))=false:=by simp only[List.isPrefixOf,a2A,a03,ne_eq];exact fun e=>h e.symm
 rw[this];simp
def um(c:UInt8)(l:List UInt8):Lib.index (c :: l) [c]=0:=by
 rw[Lib.index];simp[List.isPrefixOf]
theorem rV(c:UInt8):∀(l:List UInt8),Lib.count l [c]≠0->∃k:Nat,Lib.index l [c]=k
 | [],h=>by
  rw[Lib.count_one]at h;simp at h
 | b :: l,h=>by
  by_cases e:b=c
  . subst e;exact⟨0,um b l⟩
  .
   rw[Lib.count_cons_ne b c l e]at h;obtain⟨k,a⟩:=rV c l h;refine⟨k+1,?_⟩;rw[index_one c b l e,a];have:¬ ((k:Int) == -1)=true:=by simp
   rw[a0d this];omega
def Cm(c b:UInt8)(l:List UInt8)(h:¬ b=c)(n:Nat)(d:n=Lib.count l [c]):Lib.splitK [c] 0 n (b :: l)=ahead [b] (Lib.splitK [c] 0 n l):=by
 cases n with
 | zero=>simp[Lib.splitK,ahead]
 | succ n=>
  obtain⟨k,a⟩:=rV c l (by omega);have e1:Lib.index (b :: l) [c]=((k+1:Nat):Int):=by
   rw[index_one c b l h,a];have:¬ ((k:Int) == -1)=true:=by simp
   rw[a0d this];omega
  have n1:¬ (Lib.index (b :: l) [c] == -1)=true:=by rw[e1];simp;omega
  have n2:¬ (Lib.index l [c] == -1)=true:=by rw[a];simp
  rw[Lib.splitK,a0d n1,e1,Lib.splitK,a0d n2,a];simp[ahead]
theorem ry:∀(l:List UInt8),Lib.splitK [47] 0 (Lib.count l [47]) l=dC [] l
 | []=>by
  have:Lib.count [] [47]=0:=by rw[Lib.count_one];rfl
  rw[this];simp[Lib.splitK,dC]
 | b :: l=>by
  by_cases h:b=47
  . subst h;rw[Lib.count_cons_eq,a2B,Lib.splitK,um];simp[dC,ry l]
  . rw[Lib.count_cons_ne b 47 l h,Cm 47 b l h _ rfl,ry l,dC,a0d h,oE l ([]++[b])];simp
def Cc:List UInt8:=[97,98,99,100,101,102,103,104,105,106,107,108,109,110,111,112,113,114,115,116,117,118,119,120,121,122,48,49,50,51,52,53,54,55,56,57,46,45,95]
def Mx:((List.range 256).all fun n=>decide (Lib.indexByte Cc n.toUInt8<0) == !okB n.toUInt8)=true:=by decide +kernel
def Pk(b:UInt8):decide (Lib.indexByte Cc b<0)=!okB b:=by
 have:=a08.1 Mx b.toNat (List.mem_range.2 b.toNat_lt);simpa using this
