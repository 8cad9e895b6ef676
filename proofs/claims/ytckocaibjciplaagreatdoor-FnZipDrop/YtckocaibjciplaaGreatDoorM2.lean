/- Texts. -/
import Derived.Laws.BitsAllLaws
import Derived.Deep.RegionLawGrows
import Derived.Lib.SplitLaws
set_option linter.all false
namespace Go
def ik(n:Nat)(h:n<9223372036854775808):IntKind.i64.wrap (n:Int)=(n:Int):=by
 simp[IntKind.wrap,IntKind.bits,IntKind.signed];omega
def nn(a b:Nat)(c:a<9223372036854775808)(hb:b<9223372036854775808):bits .and .i64 (a:Int) (b:Int)=((a &&& b:Nat):Int):=by
 have d:a &&& b<2 ^ 63:=Nat.and_lt_two_pow _ (by omega);show IntKind.i64.wrap ((BitVec.ofInt 64 (a:Int) &&& BitVec.ofInt 64 (b:Int)).toNat:Int)=_;rw[BitVec.toNat_and,ofInt_u64 a (by omega),ofInt_u64 b (by omega)];exact ik _ (by omega)
def mg(a b:Nat)(c:a<9223372036854775808)(hb:b<9223372036854775808):bits .or .i64 (a:Int) (b:Int)=((a ||| b:Nat):Int):=by
 have d:a ||| b<2 ^ 63:=Nat.or_lt_two_pow (by omega) (by omega);show IntKind.i64.wrap ((BitVec.ofInt 64 (a:Int) ||| BitVec.ofInt 64 (b:Int)).toNat:Int)=_;rw[BitVec.toNat_or,ofInt_u64 a (by omega),ofInt_u64 b (by omega)];exact ik _ (by omega)
def nr(a b:Nat)(c:a<9223372036854775808)(hb:b<9223372036854775808):bits .xor .i64 (a:Int) (b:Int)=((a ^^^ b:Nat):Int):=by
 have d:a ^^^ b<2 ^ 63:=Nat.xor_lt_two_pow (by omega) (by omega);show IntKind.i64.wrap ((BitVec.ofInt 64 (a:Int) ^^^ BitVec.ofInt 64 (b:Int)).toNat:Int)=_;rw[BitVec.toNat_xor,ofInt_u64 a (by omega),ofInt_u64 b (by omega)];exact ik _ (by omega)
def Cw(n:Int)(b:0<=n)(c:n<9223372036854775808):bits .and .i64 n 65535=n%65536:=by
 obtain⟨a,rfl⟩:=Int.eq_ofNat_of_zero_le b;have:=nn a 65535 (by omega) (by omega);rw[show((65535:Nat):Int)=65535 from rfl]at this;rw[this,nat_mask16];omega
def np(n:Int)(b:0<=n)(c:n<9223372036854775808):bits .and .i64 n 1=n%2:=by
 obtain⟨a,rfl⟩:=Int.eq_ofNat_of_zero_le b;have:=nn a 1 (by omega) (by omega);rw[show((1:Nat):Int)=1 from rfl]at this;rw[this,nat_mask1];omega
def Cx(i:Nat)(x y:Int)(c:0<=x)(e:x<9223372036854775808)(h2:0<=y)(d:y<2 ^ i)(f:y<9223372036854775808)(h:x%2 ^ i=0):bits .or .i64 x y=x+y:=by
 obtain⟨a,rfl⟩:=Int.eq_ofNat_of_zero_le c;obtain⟨b,rfl⟩:=Int.eq_ofNat_of_zero_le h2;rw[mg a b (by omega) (by omega),nat_join i a b (by exact_mod_cast h) (by exact_mod_cast d)];omega
end Go
namespace Go
def aL{P:Program}{ops:Array Oper}{o:Oper}{a:Act}{w:World}{K:Act->World->Prop}{Q:Exit->Act->World->Prop}{E:Prop}
  (F:o.guard=none) (s x:Operand) (t:TypeId) (g:o.op=Op.call { callee:=Callee.builtin Builtin.append,args:=#[s,x],argTypes:=#[t,t] })
  (base:Nat) (e:TypeId) (i:TypeInfo) (z:Value) (size bytes:Nat) (p:P.underlying t=some (.slice e)) (h2:P.info? e=some i) (q:i.zero=some z) (r:i.size=size) (y:i.bytes=bytes) (A:z.cells.size=size) (B:0<size)
  (v:Value) (n:Nat) (xs:List Value) (H:a.eval s=v) (b:w.ownsRow base e size v n xs)
  (ad:Addr) (m c:Nat) (news:List Value) (J:a.eval x = .slice (some ad) m c) (G:news.length=m*size) (D:∀j u,news[j]?=some u->w.cell? (ad.add j)=some u) (f:∀u∈news,u.oneCell'=true)
  (h:n+m<=maxLen) (k:(n+m)*bytes<=140737488355328) (l:base<=w.heap.size)
  (C:∀v' w',w'.ownsRow base e size v' (n+m) (xs++news)->w.grownBy w' v.ownBlock->(v' = .slice none 0 0<->v = .slice none 0 0/\m=0)->K (a.put o.dst v') w') :
  if Region.wanted o (yielded ops a.tmps)=true then Oper.wp P o a w K Q else E:=by
 have I:Region.wanted o (yielded ops a.tmps)=true:=by simp[Region.wanted,F]
 rw[if_pos I];obtain⟨v',w',d,L,M,N⟩:=run_append_own (P:=P) w base t o.type e i z size bytes p h2 q r y A B v n xs b ad m c news G D f h k l;unfold Oper.wp;simp[execOp,g,resolve,invoke,builtin,H,J,d,Result.andThen];exact C v' w' L M N
def jK{P:Program}{ops:Array Oper}{o:Oper}{a:Act}{w:World}{K:Act->World->Prop}{Q:Exit->Act->World->Prop}{E:Prop}(d:Nat)(_:o.dst=some d)(h:if Region.wanted o (yielded ops a.tmps)=true then Oper.wp P o a w K Q else E):if Region.wanted o (yielded ops a.tmps)=true then Oper.wp P o a w K Q else E:=h
end Go
namespace Go.Proofs.YtckocaibjciplaaGreatDoor
open Go
instance:Coe Int Value:=⟨fun x=>.int .i64 x⟩
instance:Coe Nat Value:=⟨fun x=>.int .i64 (x:Int)⟩
instance:Coe ByteArray Value:=⟨.string⟩
instance:Coe Nat (Option Addr):=⟨fun x=>some ⟨x,0,none⟩⟩
instance:Coe Unit (Array Value):=⟨fun _=>#[.string ⟨#[]⟩,.int .i64 0,.int .i64 0,.int .i64 0,.int .i64 0,.int .i64 0,.int .i64 0,.string ⟨#[]⟩]⟩
def a0a := @Nat.le_refl
def a0b := @And.intro
def a0d := @if_pos
def a0e := @if_neg
def a0f := @Option.bind_some
def a0g := @Nat.zero_le
def a0h := @Nat.lt_of_lt_of_le
def a0i := @Nat.lt_succ_self
def a0j := @List.length_append
def a0k := @Option.some.injEq
def a0l := @Bool.and_eq_true
def a0m := @decide_eq_false
def a0n := @World.ownsRow.alloc
def a0o := @Int.toNat_natCast
def a0p := @Int.eq_ofNat_of_zero_le
def a0r := @Nat.le_of_lt
def a0s := @info_parts
def a0t := @decide_eq_true_eq
def a0u := @List.take_of_length_le
def a0v := @List.length_take
def a0w := @wpList_append_own
def a0x := @bodyPost_ret
def a0y := @List.length_replicate
def a0z := @World.ownsRow.lt
def a0A := @Addr.mk.injEq
def a0B := @decide_eq_true
def a0C := @List.length_cons
def a0D := @List.map_cons
def a0E := @Nat.le_trans
def a0G := @ByteArray.size_append
def a0H := @Nat.zero_add
def a0I := @Or.inl
def a0J := @List.map_append
def a0K := @List.append_assoc
def a0L := @Value.slice.injEq
def a0N := @List.sum_cons
def a0O := @List.length_map
def a0P := @Nat.pow_le_pow_right
def a0Q := @and_true
def a0R := @Prod.mk.injEq
def a0S := @World.ownsRow_lit
def a0T := @Nat.pow_add
def a0U := @List.length_nil
def a0V := @if_true
def a0W := @IntKind.wrap_i64
def a0Y := @List.flatMap_cons
def a0Z := @beq_eq_false_iff_ne
def a00 := @Nat.mod_lt
def a01 := @List.mem_cons
def a02 := @List.mem_append
def a03 := @List.append_nil
def a04 := @List.length_drop
def a05 := @Nat.le_succ
def a06 := @Bool.false_eq_true
def a07 := @if_false
def a08 := @List.all_eq_true
def a09 := @List.mem_singleton
def a1a := @List.nil_append
def a1b := @Nat.add_zero
def a1c := @World.ownsRow_nil
def a1d := @World.ownsRow.cellAt
def a1e := @Nat.mod_eq_of_lt
def a1f := @List.take_succ_eq_append_getElem
def a1h := @Nat.mul_comm
def a1j := @List.length_singleton
def a1k := @Bool.or_eq_true
def a1l := @Nat.lt_or_ge
def a1n := @Nat.two_pow_pos
def a1o := @List.cons_append
def a1p := @Nat.mod_one
def a1q := @Nat.add_sub_cancel_left
def a1r := @List.take_append_of_le_length
def a1s := @ints_oneCell
def a1t := @or_false
def a1u := @Nat.pow_succ
def a1v := @Option.some.inj
def a1w := @Nat.min_eq_left
def a1y := @List.not_mem_nil
def a1z := @Nat.add_mul
def a1A := @Int.lt_or_le
def a1B := @World.ownsRow.cells
def a1C := @Int.natCast_mul
def a1D := @Array.toList_append
def a1E := @List.map_nil
def a1F := @wpList_make_full
def a1G := @Option.getD_some
def a1H := @List.flatMap_append
def a1I := @List.getElem_of_mem
def a1M := @Nat.ne_of_lt
def a1N := @Nat.xor_lt_two_pow
def a1O := @Nat.mul_assoc
def a1P := @List.take_append_drop
def a1Q := @Lib.toList_data
def a1R := @run_underlying
def a1S := @true_and
def a1T := @List.length_set
def a1U := @World.ownsRow.kept
def a1V := @List.drop_zero
def a1W := @List.drop_drop
def a1X := @run_callFunc_extern
def a1Y := @Nat.div_div_eq_div_mul
def a1Z := @Nat.div_eq_of_lt
def a10 := @Nat.div_le_self
def a12 := @Nat.ne_of_gt
def a13 := @Int.tmod_eq_emod_of_nonneg
def a14 := @Array.length_toList
def a17 := @List.all_append
def a18 := @List.all_cons
def a19 := @Nat.add_assoc
def a2a := @List.append_inj
def a2b := @ByteArray.data_append
def a2c := @Option.bind_none
def a2d := @ByteArray.size_extract
def a2e := @List.getElem_mem
def a2g := @Bool.eq_iff_iff
def a2h := @decide_eq_true_iff
def a2i := @List.ext_getElem
def a2j := @List.mem_of_mem_take
def a2l := @Nat.eq_zero_or_pos
def a2m := @List.flatMap_nil
def a2n := @List.append_cancel_left
def a2o := @Bool.false_or
def a2p := @Nat.mul_le_mul_right
def a2q := @Nat.mul_add
def a2r := @List.eq_nil_of_length_eq_zero
def a2s := @Nat.mul_le_mul
def a2t := @Array.size_append
def a2u := @UInt8.toNat_lt
def a2v := @Nat.zero_lt_succ
def a2w := @List.Perm.refl
def a2x := @List.take_length
def a2y := @Bool.or_eq_false_iff
def a2z := @beq_iff_eq
def a2A := @List.map_singleton
def a2C := @ByteArray.append_assoc
def a2E := @Nat.add_comm
def a2F := @List.getD_cons_succ
def a2G := @u32_xor_nat
def a2H := @List.mem_map_of_mem
def a2K := @Int.le_refl
def a2L := @List.size_toArray
def a2M := @Sem.run_bind
def a2N := @World.ownsRow.stored
def a2O := @World.ownsRow.frozenAt
def a2P := @List.mem_map
def a2Q := @Bool.and_eq_false_iff
def a2R := @decide_eq_false_iff_not
def a2S := @Nat.lt_irrefl
def a2T := @List.take_take
def a2U := @List.drop_eq_nil_of_le
def a2V := @List.all_nil
def a20 := @Bool.and_true
def a22 := @Bool.not_eq_true
def a23 := @List.drop_eq_getElem_cons
def a24 := @Bool.true_and
def a3a := @Nat.one_mul
def a3b := @List.replicate_succ'
def a3c := @Nat.sub_zero
def a3d := @UInt8.toNat_ofNat'
def a3f := @List.drop_of_length_le
def a3g := @List.sum_nil
def a3h := @List.drop_append
def a3i := @List.replicate_zero
def a3j := @Int.toNat_of_nonneg
def a3k := @results_none
def a3l := @List.take_add
def a3m := @Bool.true_or
def a3o := @List.count_le_length
def a3r := @Nat.mod_mul_right_div_self
def a3u := @of_decide_eq_true
def a3E := @Nat.min_eq_right
def a3F := @Int.natCast_nonneg
def a3J := @growslice_fits
def a3K := @Sem.run_pure
def a3L := @Obj.cells.injEq
def a3M := @Nat.add_sub_cancel
def a3N := @List.range_succ
def a3R := @List.length_eraseIdx
def a3S := @List.Perm.swap
def a3T := @List.nodup_append
def a3U := @Nat.sub_self
def a3V := @List.drop_take
def a3W := @List.all_eq_false
def a3X := @Option.map_some
def a3Z := @List.take_zero
def okB(b:UInt8):Bool:=decide (97<=b.toNat)&&decide (b.toNat<=122) || (decide (48<=b.toNat)&&decide (b.toNat<=57) || (b.toNat == 46 || (b.toNat == 45 || b.toNat == 95)))
def f9(p:List UInt8):Bool:=p.all okB&&(decide (1<=p.length)&&(decide (p.length<=10)&&(!(p == [46])&&!(p == [46,46]))))
def dI:List UInt8->List UInt8->List (List UInt8)
 | cur,[]=>[cur]
 | cur,b :: l=>if b=47 then cur :: dI [] l else dI (cur++[b]) l
def oO(l:List UInt8):List (List UInt8):=dI [] l
def lG(l:List UInt8):Bool:=(oO l).all f9&&decide ((oO l).length<=4)
def ahead(cur:List UInt8):List (List UInt8)->List (List UInt8)
 | []=>[cur]
 | h :: t=>(cur++h) :: t
theorem pr:∀(l cur:List UInt8),dI cur l=ahead cur (dI [] l)
 | [],cur=>by simp[dI,ahead]
 | b :: l,cur=>by
  unfold dI;by_cases h:b=47
  . simp[h,ahead]
  .
   rw[a0e h,a0e h,pr l (cur++[b]),pr l ([]++[b])];cases a:dI [] l with
   | nil=>simp[ahead]
   | cons h t=>simp[ahead]
def Ie(l a:List UInt8):dI a l≠[]:=by
 induction l generalizing a with
 | nil=>simp[dI]
 | cons b l ih=>unfold dI;split<;>simp[ih]
theorem og:∀(l cur:List UInt8) (b:UInt8),dI cur (l++[b])=if b=47 then dI cur l++[[]]else(dI cur l).dropLast++[(dI cur l).getLastD []++[b]]
 | [],cur,b=>by
  by_cases h:b=47<;>simp[dI,h]
 | c :: l,cur,b=>by
  rw[a1o];unfold dI;by_cases h:c=47
  .
   rw[a0d h,a0d h,og l [] b];have a:=Ie l []
   split
   . simp
   .
    cases d:dI [] l with
    | nil=>exact absurd d a
    | cons x t=>simp
  . rw[a0e h,a0e h,og l (cur++[c]) b]
theorem qk:∀(l cur:List UInt8),(dI cur l).length<=l.length+1
 | [],cur=>by simp[dI]
 | b :: l,cur=>by
  unfold dI
  split
  . have:=qk l [];simp;omega
  . have:=qk l (cur++[b]);simp;omega
def index_one(c b:UInt8)(l:List UInt8)(h:¬ b=c):Lib.index (b :: l) [c]=if Lib.index l [c] == -1 then -1 else Lib.index l [c]+1:=by
 rw[Lib.index];have:([c].isPrefixOf (b :: l))=false:=by simp only[List.isPrefixOf,a20,a0Z,ne_eq];exact fun e=>h e.symm
 rw[this];simp
def vw(c:UInt8)(l:List UInt8):Lib.index (c :: l) [c]=0:=by
 rw[Lib.index];simp[List.isPrefixOf]
theorem tj(c:UInt8):∀(l:List UInt8),Lib.count l [c]≠0->∃k:Nat,Lib.index l [c]=k
 | [],h=>by
  rw[Lib.count_one]at h;simp at h
 | b :: l,h=>by
  by_cases e:b=c
  . subst e;exact⟨0,vw b l⟩
  .
   rw[Lib.count_cons_ne b c l e]at h;obtain⟨k,a⟩:=tj c l h;refine⟨k+1,?_⟩;rw[index_one c b l e,a];have:¬ ((k:Int) == -1)=true:=by simp
   rw[a0e this];omega
def Ek(c b:UInt8)(l:List UInt8)(h:¬ b=c)(n:Nat)(d:n=Lib.count l [c]):Lib.splitK [c] 0 n (b :: l)=ahead [b] (Lib.splitK [c] 0 n l):=by
 cases n with
 | zero=>simp[Lib.splitK,ahead]
 | succ n=>
  obtain⟨k,a⟩:=tj c l (by omega);have e1:Lib.index (b :: l) [c]=((k+1:Nat):Int):=by
   rw[index_one c b l h,a];have:¬ ((k:Int) == -1)=true:=by simp
   rw[a0e this];omega
  have n1:¬ (Lib.index (b :: l) [c] == -1)=true:=by rw[e1];simp;omega
  have n2:¬ (Lib.index l [c] == -1)=true:=by rw[a];simp
  rw[Lib.splitK,a0e n1,e1,Lib.splitK,a0e n2,a];simp[ahead]
theorem sM:∀(l:List UInt8),Lib.splitK [47] 0 (Lib.count l [47]) l=dI [] l
 | []=>by
  have:Lib.count [] [47]=0:=by rw[Lib.count_one];rfl
  rw[this];simp[Lib.splitK,dI]
 | b :: l=>by
  by_cases h:b=47
  . subst h;rw[Lib.count_cons_eq,a2E,Lib.splitK,vw];simp[dI,sM l]
  . rw[Lib.count_cons_ne b 47 l h,Ek 47 b l h _ rfl,sM l,dI,a0e h,pr l ([]++[b])];simp
def D9:List UInt8:=[97,98,99,100,101,102,103,104,105,106,107,108,109,110,111,112,113,114,115,116,117,118,119,120,121,122,48,49,50,51,52,53,54,55,56,57,46,45,95]
def Ot:((List.range 256).all fun n=>decide (Lib.indexByte D9 n.toUInt8<0) == !okB n.toUInt8)=true:=by decide +kernel
def Q3(b:UInt8):decide (Lib.indexByte D9 b<0)=!okB b:=by
 have:=a08.1 Ot b.toNat (List.mem_range.2 b.toNat_lt);simpa using this
