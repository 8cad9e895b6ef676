/- Of what the proof is made: 7 texts, one behind the other. -/
import Derived.Test.YtfhdadkcophoaaaGreatDoorRows
import Derived.WalkKit
import Derived.WalkSpells
import Derived.Below
import Derived.Laws.BitsAllLaws
import Derived.Test.YtfhdadkcophoaaaGreatDoorBits
import Derived.Test.YtfhdadkcophoaaaGreatDoorM1
set_option linter.unusedSimpArgs false
set_option linter.unusedVariables false
set_option maxHeartbeats 400000
namespace Go.Proofs.YtfhdadkcophoaaaGreatDoor
open Go.RowKit
set_option linter.defProp false
def a0a := @Nat.le_refl
def a0b := @Below.refl
def a0c := @And.intro
def a0d := @if_pos
def a0e := @if_neg
def a0f := @Option.bind_some
def a0g := @Nat.lt_of_lt_of_le
def a0h := @Nat.zero_le
def a0i := @List.length_append
def a0j := @Bool.and_eq_true
def a0k := @Option.some.injEq
def a0l := @Nat.lt_succ_self
def a0m := @World.ownsRow.alloc
def a0n := @decide_eq_false
def a0o := @decide_eq_true_eq
def a0p := @List.map_cons
def a0q := @Int.toNat_natCast
def a0r := @info_parts
def a0s := @Int.eq_ofNat_of_zero_le
def a0t := @List.take_of_length_le
def a0u := @Nat.le_of_lt
def a0v := @Addr.mk.injEq
def a0w := @bodyPost_ret
def a0x := @List.length_take
def a0y := @List.length_cons
def a0z := @ByteArray.size_append
def a0A := @List.length_replicate
def a0B := @Or.inl
def a0C := @World.ownsRow.lt
def a0D := @Nat.le_trans
def a0E := @decide_eq_true
def a0F := @wpList_append_own
def a0G := @Nat.zero_add
def a0H := @List.sum_cons
def a0I := @Below.heap_setCell
def a0J := @Value.slice.injEq
def a0K := @List.map_append
def a0L := @Nat.pow_add
def a0M := @and_true
def a0N := @List.length_map
def a0O := @List.append_assoc
def a0P := @Prod.mk.injEq
def a0Q := @Nat.pow_le_pow_right
def a0R := @List.nil_append
def a0S := @List.mem_append
def a0T := @List.mem_singleton
def a0U := @if_true
def a0V := @List.flatMap_cons
def a0W := @Tryz.underlying104
def a0X := @Nat.add_zero
def a0Y := @List.all_eq_true
def a0Z := @beq_eq_false_iff_ne
def a00 := @World.ownsRow_nil
def a01 := @Nat.le_succ
def a02 := @List.length_nil
def a04 := @List.mem_cons
def a05 := @List.take_succ_eq_append_getElem
def a06 := @World.ownsRow.cellAt
def a07 := @Nat.mul_comm
def a08 := @List.cons_append
def a09 := @Below.heap_alloc
def a1a := @World.ownsRow_lit
def a1b := @Tryz.underlying22
def a1c := @Bool.or_eq_true
def a1d := @List.take_append_of_le_length
def a1e := @Nat.lt_or_ge
def a1f := @Nat.mod_eq_of_lt
def a1g := @Nat.add_mul
def a1h := @Tryz.underlying143
def a1i := @Tryz.underlying30
def a1j := @Nat.pow_succ
def a1k := @Int.lt_or_le
def a1l := @List.append_nil
def a1m := @Bool.false_eq_true
def a1n := @if_false
def a1o := @List.getElem_of_mem
def a1p := @Tryz.func214
def a1q := @Tryz.ntmps214
def a1r := @Nat.two_pow_pos
def a1s := @List.take_append_drop
def a1t := @run_underlying
def a1u := @Option.some.inj
def a1v := @List.length_singleton
def a1w := @List.length_set
def a1x := @Option.getD_some
def a1y := @Nat.add_sub_cancel_left
def a1z := @Tryz.func205
def a1A := @Tryz.ntmps205
def a1B := @run_callFunc_extern
def a1C := @Nat.mul_assoc
def a1D := @true_and
def a1E := @Array.length_toList
def a1F := @List.map_nil
def a1G := @List.all_append
def a1H := @List.all_cons
def a1I := @Nat.add_assoc
def a1J := @List.flatMap_append
def a1K := @Option.bind_none
def a1L := @Nat.ne_of_lt
def a1M := @Nat.div_eq_of_lt
def a1N := @Nat.xor_lt_two_pow
def a1O := @List.getElem_mem
def a1P := @Tryz.underlying3
def a1Q := @Nat.mod_lt
def a1R := @World.ownsRow.cells
def a1S := @Nat.min_eq_left
def a1T := @IntKind.wrap_i64
def a1U := @Array.toList_append
def a1V := @List.length_drop
def a1W := @List.drop_zero
def a1X := @Tryz.underlying152
def a1Y := @or_false
def a1Z := @ints_oneCell
def a10 := @Nat.div_div_eq_div_mul
def a12 := @Nat.mul_add
def a13 := @List.eq_nil_of_length_eq_zero
def a14 := @Nat.mul_le_mul
def a15 := @Nat.mod_one
def a16 := @Array.size_append
def a17 := @World.ownsRow.kept
def a18 := @Tryz.underlying5
def a19 := @Tryz.underlying9
def a2a := @List.Perm.refl
def a2b := @List.take_length
def a2c := @Bool.or_eq_false_iff
def a2d := @List.not_mem_nil
def a2f := @Nat.mul_le_mul_right
def a2h := @List.getD_cons_succ
def a2i := @Bool.eq_iff_iff
def a2j := @decide_eq_true_iff
def a2k := @Tryz.func63
def a2l := @Tryz.ntmps63
def a2m := @Int.le_refl
def a2n := @Nat.mul_one
def a2o := @Nat.ne_of_gt
def a2p := @List.size_toArray
def a2q := @Sem.run_bind
def a2r := @World.ownsRow.stored
def a2s := @World.ownsRow.frozenAt
def a2t := @List.ext_getElem
def a2u := @Nat.one_mul
def a2v := @List.drop_append
def a2w := @List.mem_map
def a2x := @UInt8.toNat_lt
def a2y := @Bool.and_eq_false_iff
def a2z := @decide_eq_false_iff_not
def a2A := @Nat.lt_irrefl
def a2B := @List.flatMap_nil
def a2C := @List.append_inj
def a2D := @List.append_cancel_left
def a2E := @List.all_nil
def a2F := @Tryz.func121
def a2G := @Tryz.ntmps121
def a2H := @List.map_singleton
def a2I := @ByteArray.size_extract
def a2J := @ByteArray.append_assoc
def a2M := @Bool.and_true
def a2N := @Nat.add_comm
def a2O := @Bool.not_eq_true
def a2P := @List.mem_map_of_mem
def a2Q := @Tryz.func25
def a2R := @Tryz.ntmps25
def a2S := @Int.natCast_mul
def a2T := @Tryz.results46
def a2U := @ownsRow_setCell_below
def a2V := @List.drop_of_length_le
def a2X := @Tryz.underlying225
def a2Y := @wpList_make_full
def a2Z := @results_none
def a20 := @List.drop_eq_nil_of_le
def a22 := @Tryz.underlying157
def a23 := @ByteArray.data_append
def a24 := @Nat.mod_mul_right_div_self
def a27 := @List.drop_eq_getElem_cons
def a28 := @List.isPrefixOf_iff_prefix
def a29 := @Tryz.func162
def a3a := @Tryz.ntmps162
def a3c := @Tryz.ntmps80
def a3e := @Tryz.ntmps50
def a3g := @Tryz.ntmps32
def a3h := @Bool.true_and
def a3j := @growslice_fits
def a3k := @Sem.run_pure
def a3l := @Obj.cells.injEq
def a3m := @List.mem_of_mem_take
def a3n := @List.sum_nil
def a3o := @List.Perm.swap
def a3p := @List.nodup_append
def a3q := @Nat.eq_zero_or_pos
def a3r := @List.all_eq_false
def a3s := @Int.toNat_of_nonneg
def a3t := @List.take_take
def a3u := @beq_iff_eq
def a3v := @Option.map_some
def a3w := @Tryz.results22
def a3x := @List.count_le_length
def a3z := @Tryz.ntmps93
theorem af{p:Prop}(h:p):Hid p:=h
theorem ae{p:Prop}(h:Hid p):p:=h
theorem aI{k:IntKind}{a b:Int}(h:a=b):Ending.returned (.int k a) = .returned (.int k b):=by rw[h]
theorem ak{a b:Bool}(h:a=b):Ending.returned (.bool a) = .returned (.bool b):=by rw[h]
def inB(n lo hi:Int):Bool:=decide (lo<=n)&&decide (n<=hi)
theorem aB{n lo hi:Int} : inB n lo hi=true<->lo<=n/\n<=hi:=by simp[inB]
theorem eC{n lo hi:Int} : inB n lo hi=false<->n<lo∨hi<n:=by
 rw[←a2O,aB];omega
theorem cq(n lo hi:Int)(w:World) :
  Calls Tryz.prog 62 #[.int .i64 n,.int .i64 lo,.int .i64 hi] w fun e w'=>e = .returned (.bool (inB n lo hi))/\w'=w:=by
 by_cases h:lo<=n
 · go_enter Tryz.func62,Tryz.ntmps62;go_wp2;go_ret;exact⟨ak (by simp[inB,h]),rfl⟩
 · go_enter Tryz.func62,Tryz.ntmps62;go_wp2;go_ret;exact⟨ak (by simp[inB];omega),rfl⟩
end Go.Proofs.YtfhdadkcophoaaaGreatDoor
namespace Go.Proofs.YtfhdadkcophoaaaGreatDoor
def bW:List UInt8->Nat
 | []=>0
 | b :: l=>b.toNat+256*bW l
theorem gj(a b:List UInt8):bW (a++b)=bW a+2 ^ (8*a.length)*bW b:=by
 induction a with
 | nil=>simp[bW]
 | cons x a ih=>
  simp only[a08,bW,ih,a0y];have e:2 ^ (8*(a.length+1))=256*2 ^ (8*a.length):=by rw[a12,a0L,a07]
  rw[e,a12,a1C];omega
theorem nH(l:List UInt8):bW l<2 ^ (8*l.length):=by
 induction l with
 | nil=>simp[bW]
 | cons x l ih=>
  simp only[bW,a0y];have e:2 ^ (8*(l.length+1))=256*2 ^ (8*l.length):=by rw[a12,a0L,a07]
  rw[e];have:=x.toNat_lt;omega
theorem yo(l:List UInt8)(j:Nat):bW l/2 ^ (8*j)%256=(l.getD j 0).toNat:=by
 induction l generalizing j with
 | nil=>simp[bW]
 | cons x l ih=>
  have hx:=x.toNat_lt;cases j with
  | zero=>
   simp only[bW,Nat.mul_zero,Nat.pow_zero,Nat.div_one,List.getD_cons_zero];omega
  | succ j=>
   simp only[bW,a2h];rw[←ih j,show 8*(j+1)=8+8*j by omega,a0L,←a10]
   congr 2
   show(x.toNat+256*bW l)/256=bW l;omega
theorem Ln(l:List UInt8)(p:Nat):(l.getD (p/8) 0).toNat/2 ^ (p%8)%2=bW l/2 ^ p%2:=by
 rw[←yo];have e8:256=2 ^ (p%8)*2 ^ (8-p%8):=by
  rw[←a0L,show p%8+(8-p%8)=8 by omega]
 have e2:2∣2 ^ (8-p%8):=by
  rw[show 8-p%8=(7-p%8)+1 by omega,a1j];exact Nat.dvd_mul_left _ _
 rw[e8,a24,Nat.mod_mod_of_dvd _ e2,a10,←a0L,show 8*(p/8)+p%8=p by omega]
theorem Fh(l:List UInt8)(p:Nat)(h:8*l.length<=p):bW l/2 ^ p%2=0:=by
 rw[a1M (a0g (nH l) (a0Q (by omega) h))]
def bD:List Nat:=[16,17,18,0,8,7,9,6,10,5,11,4,12,3,13,2,14,1,15]
open Go.RowKit
theorem tD(n:Int)(w:World) :
  Calls Tryz.prog 126 #[.int .i64 n] w fun e w'=>e = .returned (.bool (inB n 0 4294967295))/\w'=w:=by
 by_cases h:0<=n
 · go_enter Tryz.func126,Tryz.ntmps126;go_wp2;go_ret;exact⟨ak (by simp[inB,h]),rfl⟩
 · go_enter Tryz.func126,Tryz.ntmps126;go_wp2;go_ret;exact⟨ak (by simp[inB];omega),rfl⟩
end Go.Proofs.YtfhdadkcophoaaaGreatDoor
namespace Go.Proofs.YtfhdadkcophoaaaGreatDoor
open Go.RowKit Corb
theorem KS(x:Nat)(h:x<4294967296):bits .and .u32 (x:Int) 1=(x:Int)%2:=by
 have:=u32_and_nat x 1 h (by omega);rw[show((1:Nat):Int)=1 from rfl]at this;rw[this,nat_mask1];omega
theorem IR(x:Nat)(h:x<4294967296):bits .xor .u32 ((x:Int)/2) 3988292384=((x/2 ^^^ 3988292384:Nat):Int):=by
 have:=u32_xor_nat (x/2) 3988292384 (by omega) (by omega);rw[show((x/2:Nat):Int)=(x:Int)/2 by omega]at this;exact this
theorem LW(x:Nat)(h:x%2=1):sh x=x/2 ^^^ 3988292384:=a0d h
theorem KD(x:Nat)(h:¬ x%2=1):sh x=x/2:=a0e h
theorem uf(r n:Int)(w:World)(hr0:0<=r)(hr1:r<4294967296)(hn0:0<=n)(hn1:n<=1000000) :
  Calls Tryz.prog 160 #[.int .u32 r,.int .i64 n] w fun e w'=>e = .returned (.int .u32 (shN n.toNat r.toNat:Nat))/\w'=w:=by
 obtain⟨R,rfl⟩:=a0s hr0;obtain⟨m,rfl⟩:=a0s hn0;rw[a0q,a0q];go_enter Tryz.func160,Tryz.ntmps160;go_wp2
 go_loop [0,6] (fun x i=>∃k:Nat,k<=m/\i = .int .i64 k/\x = .int .u32 (shN k R:Nat)) (fun _ i=>m-(intOf i).toNat)
 case atStart=>exact⟨0,a0h _,rfl,rfl⟩
 case round=>
  obtain⟨k,hk,rfl,rfl⟩:=hrel;have hx:=vb k R (by omega);have hs:=af (D9 k R);by_cases hlt:k<m
  ·
   generalize hX:shN k R=x at *
   clear hX;have h1:=KS x hx;have h2:=IR x hx;by_cases ho:x%2=1
   ·
    have ho':(x:Int)%2=1:=by omega
    have H:=af ho;clear ho;go_wp2
    go_round
    case rel=>exact⟨k+1,by omega,by go_num,by rw[ae hs,LW x (ae H)]⟩
    case measure=>simp[intOf];omega
   ·
    have ho':(x:Int)%2=0:=by omega
    have H:=af ho;clear ho;go_wp2
    go_round
    case rel=>exact⟨k+1,by omega,by go_num,by rw[ae hs,KD x (ae H)];rfl⟩
    case measure=>simp[intOf];omega
  · go_wp2;go_ret;exact⟨aI (by rw[show k=m by omega]),rfl⟩
theorem vh(x:Nat)(b:Nat)(h:x<4294967296)(hb:b<256):bits .xor .u32 (x:Int) (b:Int)=((x ^^^ b:Nat):Int):=
 u32_xor_nat x b h (by omega)
theorem Ef(s:ByteArray)(k:Nat)(h:k<s.size):s.data.toList.take (k+1)=s.data.toList.take k++[s[k]]:=by
 rw[a05 (by simpa using h)];rfl
theorem C4(c:Nat)(l:List UInt8)(b:UInt8):fold c (l++[b])=shN 8 (fold c l ^^^ b.toNat):=by
 rw[wm];rfl
def cmI(c:Int)(l:List UInt8):Int:=if inB c 0 4294967295=true then(aR c.toNat l:Nat)else -1
theorem AC{c:Int}{l:List UInt8}(h:inB c 0 4294967295=true):cmI c l=(aR c.toNat l:Nat):=a0d h
theorem Lt{c:Int}{l:List UInt8}(h:inB c 0 4294967295=false):cmI c l = -1:=a0e (by simp[h])
end Go.Proofs.YtfhdadkcophoaaaGreatDoor
namespace Go.Proofs.YtfhdadkcophoaaaGreatDoor
theorem dD{a b:ByteArray}(h:a.data.toList=b.data.toList):a=b:=ByteArray.ext (Array.toList_inj.1 h)
end Go.Proofs.YtfhdadkcophoaaaGreatDoor
