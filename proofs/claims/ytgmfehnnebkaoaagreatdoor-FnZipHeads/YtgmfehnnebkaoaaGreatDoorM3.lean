/- Of what the proof is made: 7 texts, one behind the other. -/
import Derived.Test.YtgmfehnnebkaoaaGreatDoorRows
import Derived.WalkKit
import Derived.WalkSpells
import Derived.Below
import Derived.Laws.BitsAllLaws
import Derived.Test.YtgmfehnnebkaoaaGreatDoorBits
import Derived.Test.YtgmfehnnebkaoaaGreatDoorM1
set_option linter.unusedSimpArgs false
set_option linter.unusedVariables false
set_option maxHeartbeats 400000
namespace Go.Proofs.YtgmfehnnebkaoaaGreatDoor
open Go.Proofs.Tryz
open Go.RowKit
set_option linter.defProp false
abbrev CD(f:Nat)(a:Array Value)(w:World)(v:Value):Prop:=Calls prog f a w fun e w'=>e = .returned v/\Below w.heap.size w w'
def a0a := @Nat.le_refl
def a0b := @And.intro
def a0c := @Below.refl
def a0d := @if_pos
def a0e := @if_neg
def a0f := @Option.bind_some
def a0g := @Nat.zero_le
def a0h := @Nat.lt_of_lt_of_le
def a0i := @List.length_append
def a0j := @Bool.and_eq_true
def a0k := @Option.some.injEq
def a0l := @Int.toNat_natCast
def a0m := @World.ownsRow.alloc
def a0n := @Int.eq_ofNat_of_zero_le
def a0o := @List.take_of_length_le
def a0p := @decide_eq_true_eq
def a0r := @info_parts
def a0s := @Nat.lt_succ_self
def a0t := @ByteArray.size_append
def a0u := @bodyPost_ret
def a0v := @decide_eq_false
def a0w := @Nat.le_of_lt
def a0x := @Or.inl
def a0y := @List.length_replicate
def a0z := @List.length_take
def a0A := @List.length_cons
def a0B := @wpList_append_own
def a0C := @List.map_cons
def a0D := @Addr.mk.injEq
def a0E := @World.ownsRow.lt
def a0F := @decide_eq_true
def a0G := @underlying97
def a0H := @Nat.zero_add
def a0I := @List.map_append
def a0J := @Value.slice.injEq
def a0K := @Below.heap_setCell
def a0L := @Nat.le_trans
def a0M := @List.sum_cons
def a0N := @List.length_map
def a0O := @List.append_assoc
def a0P := @and_true
def a0Q := @Nat.pow_add
def a0R := @List.length_nil
def a0S := @List.flatMap_cons
def a0T := @Nat.pow_le_pow_right
def a0U := @List.mem_cons
def a0V := @List.mem_append
def a0W := @Prod.mk.injEq
def a0X := @List.nil_append
def a0Y := @World.ownsRow_lit
def a0Z := @if_true
def a00 := @World.ownsRow_nil
def a01 := @List.mem_singleton
def a02 := @World.ownsRow.cellAt
def a03 := @List.all_eq_true
def a04 := @beq_eq_false_iff_ne
def a05 := @Nat.add_zero
def a06 := @underlying22
def a07 := @Nat.le_succ
def a08 := @Nat.mod_eq_of_lt
def a09 := @List.take_succ_eq_append_getElem
def a1b := @List.append_nil
def a1c := @ByteArray.size_extract
def a1d := @Nat.mul_comm
def a1e := @IntKind.wrap_i64
def a1f := @Bool.or_eq_true
def a1g := @List.cons_append
def a1h := @Option.some.inj
def a1i := @Below.heap_alloc
def a1j := @List.length_singleton
def a1k := @Array.toList_append
def a1l := @Nat.lt_or_ge
def a1m := @ints_oneCell
def a1n := @or_false
def a1o := @Nat.add_mul
def a1p := @List.take_append_of_le_length
def a1q := @underlying136
def a1r := @List.not_mem_nil
def a1s := @Nat.pow_succ
def a1t := @Nat.mod_lt
def a1u := @Int.lt_or_le
def a1v := @List.length_drop
def a1w := @List.length_set
def a1x := @List.drop_zero
def a1y := @Bool.false_eq_true
def a1z := @if_false
def a1A := @func264
def a1B := @ntmps264
def a1C := @ByteArray.data_append
def a1E := @Nat.two_pow_pos
def a1F := @Nat.xor_lt_two_pow
def a1G := @Nat.mul_assoc
def a1H := @List.take_append_drop
def a1I := @List.map_nil
def a1J := @World.ownsRow.kept
def a1K := @wpList_make_full
def a1L := @Option.getD_some
def a1M := @Nat.add_sub_cancel_left
def a1N := @List.getElem_of_mem
def a1O := @func254
def a1P := @ntmps254
def a1Q := @List.take_length
def a1R := @run_callFunc_extern
def a1S := @ByteArray.append_assoc
def a1T := @Nat.div_eq_of_lt
def a1U := @run_underlying
def a1V := @World.ownsRow.cells
def a1W := @true_and
def a1X := @Nat.min_eq_left
def a1Y := @Nat.mod_one
def a1Z := @Array.length_toList
def a10 := @World.ownsRow.stored
def a12 := @List.all_append
def a13 := @List.all_cons
def a14 := @Nat.add_assoc
def a15 := @Option.bind_none
def a16 := @underlying23
def a17 := @Nat.div_div_eq_div_mul
def a18 := @Nat.mul_le_mul_right
def a19 := @underlying3
def a2a := @Nat.ne_of_gt
def a2b := @underlying5
def a2c := @underlying9
def a2d := @List.mem_of_mem_take
def a2e := @underlying159
def a2f := @List.flatMap_nil
def a2g := @Nat.ne_of_lt
def a2h := @Nat.mul_add
def a2i := @List.getElem_mem
def a2j := @Bool.eq_iff_iff
def a2k := @Nat.div_le_self
def a2l := @List.eq_nil_of_length_eq_zero
def a2m := @Nat.mul_le_mul
def a2n := @Array.size_append
def a2o := @World.ownsRow.frozenAt
def a2p := @List.ext_getElem
def a2q := @List.flatMap_append
def a2r := @List.drop_append
def a2s := @UInt8.toNat_lt
def a2t := @List.Perm.refl
def a2u := @Bool.or_eq_false_iff
def a2v := @List.map_singleton
def a2x := @List.getD_cons_succ
def a2y := @u32_xor_nat
def a2z := @List.mem_map_of_mem
def a2A := @decide_eq_true_iff
def a2B := @func95
def a2C := @ntmps95
def a2D := @Int.le_refl
def a2E := @Int.tmod_eq_emod_of_nonneg
def a2F := @List.size_toArray
def a2G := @Sem.run_bind
def a2H := @Nat.one_mul
def a2I := @Nat.sub_self
def a2J := @List.mem_map
def a2K := @Bool.and_eq_false_iff
def a2L := @decide_eq_false_iff_not
def a2M := @Nat.lt_irrefl
def a2N := @List.append_inj
def a2O := @List.append_cancel_left
def a2P := @List.all_nil
def a2Q := @func123
def a2R := @ntmps123
def a2U := @Bool.and_true
def a2V := @Nat.add_comm
def a2W := @Bool.not_eq_true
def a2X := @func59
def a2Y := @ntmps59
def a2Z := @Int.natCast_mul
def a22 := @results74
def a23 := @ownsRow_setCell_below
def a24 := @List.drop_of_length_le
def a27 := @underlying238
def a28 := @Int.toNat_of_nonneg
def a29 := @results_none
def a3a := @List.take_take
def a3b := @List.drop_eq_nil_of_le
def a3c := @underlying164
def a3d := @List.count_le_length
def a3e := @Nat.mod_mul_right_div_self
def a3f := @func144
def a3g := @ntmps144
def a3h := @func141
def a3i := @ntmps141
def a3k := @ntmps99
def a3m := @ntmps56
def a3n := @Bool.true_and
def a3r := @growslice_fits
def a3s := @Sem.run_pure
def a3t := @Obj.cells.injEq
def a3u := @run_convert_bytes_back
def a3v := @Nat.add_sub_cancel
def a3w := @List.range_succ
def a3x := @underlying315
def a3y := @Nat.zero_lt_succ
def a3z := @List.sum_nil
def a3A := @List.Perm.swap
def a3B := @List.nodup_append
def a3C := @Nat.eq_zero_or_pos
def a3D := @List.all_eq_false
def a3E := @Option.map_some
def a3F := @results45
def a3G := @List.take_zero
def a3I := @ntmps67
theorem af{p:Prop}(h:p):Hid p:=h
theorem ae{p:Prop}(h:Hid p):p:=h
theorem aJ{k:IntKind}{a b:Int}(h:a=b):Ending.returned (.int k a) = .returned (.int k b):=by rw[h]
theorem ak{a b:Bool}(h:a=b):Ending.returned (.bool a) = .returned (.bool b):=by rw[h]
def inB(n lo hi:Int):Bool:=decide (lo<=n)&&decide (n<=hi)
theorem aI{n lo a:Int} : inB n lo a=true<->lo<=n/\n<=a:=by simp[inB]
theorem fU{n lo a:Int} : inB n lo a=false<->n<lo∨a<n:=by
 rw[←a2W,aI];omega
theorem de(n lo a:Int)(w:World) :
  Calls prog 94 #[.int .i64 n,.int .i64 lo,.int .i64 a] w fun e w'=>e = .returned (.bool (inB n lo a))/\w'=w:=by
 by_cases h:lo<=n
 . go_enter func94,ntmps94;go_wp2;go_ret;exact⟨ak (by simp[inB,h]),rfl⟩
 . go_enter func94,ntmps94;go_wp2;go_ret;exact⟨ak (by simp[inB];omega),rfl⟩
def cO:List UInt8->Nat
 | []=>0
 | b :: l=>b.toNat+256*cO l
theorem iz(a b:List UInt8):cO (a++b)=cO a+2 ^ (8*a.length)*cO b:=by
 induction a with
 | nil=>simp[cO]
 | cons x a ih=>
  simp only[a1g,cO,ih,a0A];have e:2 ^ (8*(a.length+1))=256*2 ^ (8*a.length):=by rw[a2h,a0Q,a1d]
  rw[e,a2h,a1G];omega
theorem pO(l:List UInt8):cO l<2 ^ (8*l.length):=by
 induction l with
 | nil=>simp[cO]
 | cons x l ih=>
  simp only[cO,a0A];have e:2 ^ (8*(l.length+1))=256*2 ^ (8*l.length):=by rw[a2h,a0Q,a1d]
  rw[e];have:=x.toNat_lt;omega
theorem BR(l:List UInt8)(j:Nat):cO l/2 ^ (8*j)%256=(l.getD j 0).toNat:=by
 induction l generalizing j with
 | nil=>simp[cO]
 | cons x l ih=>
  have a:=x.toNat_lt;cases j with
  | zero=>
   simp only[cO,Nat.mul_zero,Nat.pow_zero,Nat.div_one,List.getD_cons_zero];omega
  | succ j=>
   simp only[cO,a2x];rw[←ih j,show 8*(j+1)=8+8*j by omega,a0Q,←a17]
   congr 2
   show(x.toNat+256*cO l)/256=cO l;omega
theorem OG(l:List UInt8)(p:Nat):(l.getD (p/8) 0).toNat/2 ^ (p%8)%2=cO l/2 ^ p%2:=by
 rw[←BR];have e8:256=2 ^ (p%8)*2 ^ (8-p%8):=by
  rw[←a0Q,show p%8+(8-p%8)=8 by omega]
 have e2:2∣2 ^ (8-p%8):=by
  rw[show 8-p%8=(7-p%8)+1 by omega,a1s];exact Nat.dvd_mul_left _ _
 rw[e8,a3e,Nat.mod_mod_of_dvd _ e2,a17,←a0Q,show 8*(p/8)+p%8=p by omega]
theorem Jh(l:List UInt8)(p:Nat)(h:8*l.length<=p):cO l/2 ^ p%2=0:=by
 rw[a1T (a0h (pO l) (a0T (by omega) h))]
def bB:List Nat:=[16,17,18,0,8,7,9,6,10,5,11,4,12,3,13,2,14,1,15]
theorem wN(n:Int)(w:World) :
  Calls prog 128 #[.int .i64 n] w fun e w'=>e = .returned (.bool (inB n 0 4294967295))/\w'=w:=by
 by_cases h:0<=n
 . go_enter func128,ntmps128;go_wp2;go_ret;exact⟨ak (by simp[inB,h]),rfl⟩
 . go_enter func128,ntmps128;go_wp2;go_ret;exact⟨ak (by simp[inB];omega),rfl⟩
open Corb
theorem Og(x:Nat)(h:x<4294967296):bits .and .u32 (x:Int) 1=(x:Int)%2:=by
 have:=u32_and_nat x 1 h (by omega);rw[show((1:Nat):Int)=1 from rfl]at this;rw[this,nat_mask1];omega
theorem BO(x:Nat)(h:x<4294967296):bits .xor .u32 ((x:Int)/2) 3988292384=((x/2 ^^^ 3988292384:Nat):Int):=by
 have:=a2y (x/2) 3988292384 (by omega) (by omega);rw[show((x/2:Nat):Int)=(x:Int)/2 by omega]at this;exact this
theorem LK(x:Nat)(h:x%2=1):sh x=x/2 ^^^ 3988292384:=a0d h
theorem Fs(x:Nat)(h:¬ x%2=1):sh x=x/2:=a0e h
theorem xC(r n:Int)(w:World)(d:0<=r)(o:r<4294967296)(b:0<=n)(l:n<=1000000) :
  Calls prog 165 #[.int .u32 r,.int .i64 n] w fun e w'=>e = .returned (.int .u32 (shN n.toNat r.toNat:Nat))/\w'=w:=by
 obtain⟨R,rfl⟩:=a0n d;obtain⟨m,rfl⟩:=a0n b;rw[a0l,a0l];go_enter func165,ntmps165;go_wp2
 go_loop [0,6] (fun x i=>∃k:Nat,k<=m/\i = .int .i64 k/\x = .int .u32 (shN k R:Nat)) (fun _ i=>m-(intOf i).toNat)
 case atStart=>exact⟨0,a0g _,rfl,rfl⟩
 case round=>
  obtain⟨k,q,rfl,rfl⟩:=hrel;have g:=uR k R (by omega);have f:=af (wJ k R);by_cases j:k<m
  .
   generalize h:shN k R=x at *
   clear h;have p:=Og x g;have h2:=BO x g;by_cases a:x%2=1
   .
    have c:(x:Int)%2=1:=by omega
    have H:=af a;clear a;go_wp2
    go_round
    case rel=>exact⟨k+1,by omega,by go_num,by rw[ae f,LK x (ae H)]⟩
    case measure=>simp[intOf];omega
   .
    have c:(x:Int)%2=0:=by omega
    have H:=af a;clear a;go_wp2
    go_round
    case rel=>exact⟨k+1,by omega,by go_num,by rw[ae f,Fs x (ae H)];rfl⟩
    case measure=>simp[intOf];omega
  . go_wp2;go_ret;exact⟨aJ (by rw[show k=m by omega]),rfl⟩
theorem pM(x:Nat)(b:Nat)(h:x<4294967296)(hb:b<256):bits .xor .u32 (x:Int) (b:Int)=((x ^^^ b:Nat):Int):=
 a2y x b h (by omega)
theorem Dt(c b:Int)(w:World)(h:0<=c)(s:c<4294967296)(f:0<=b)(r:b<256) :
  Calls prog 193 #[.int .u32 c,.int .u8 b] w fun e w'=>e = .returned (.int .u32 (shN 8 (c.toNat ^^^ b.toNat):Nat))/\w'=w:=by
 obtain⟨R,rfl⟩:=a0n h;obtain⟨B,rfl⟩:=a0n f;rw[a0l,a0l];have j:=pM R B (by omega) (by omega);have a:R ^^^ B<4294967296:=a1F (n:=32) (by omega) (by omega);generalize R ^^^ B=X at *
 go_enter func193,ntmps193;go_wp2
 go_loop [0,5] (fun x i=>∃k:Nat,k<=8/\i = .int .i64 k/\x = .int .u32 (shN k X:Nat)) (fun _ i=>8-(intOf i).toNat)
 case atStart=>exact⟨0,by omega,rfl,rfl⟩
 case round=>
  obtain⟨k,o,rfl,rfl⟩:=hrel;have t:=uR k X a;have p:(k:Int)<=8:=by omega
  clear o;have l:=af (wJ k X);clear j a;by_cases q:(k:Int)<8
  .
   generalize m:shN k X=x at *
   clear m;have h2:=BO x t;by_cases d:x%2=1
   .
    have g:(x:Int)%2=1:=by omega
    have H:=af d;clear d;go_wp2
    go_round
    case rel=>exact⟨k+1,by omega,by go_num,by rw[ae l,LK x (ae H)]⟩
    case measure=>simp[intOf];omega
   .
    have g:(x:Int)%2=0:=by omega
    have H:=af d;clear d;go_wp2
    go_round
    case rel=>exact⟨k+1,by omega,by go_num,by rw[ae l,Fs x (ae H)];rfl⟩
    case measure=>simp[intOf];omega
  . go_wp2;go_ret;exact⟨aJ (by rw[show k=8 by omega]),rfl⟩
theorem wR(s:ByteArray)(k:Nat)(h:k<s.size):s.data.toList.take (k+1)=s.data.toList.take k++[s[k]]:=by
 rw[a09 (by simpa using h)];rfl
theorem vW(c:Nat)(l:List UInt8)(b:UInt8):fold c (l++[b])=shN 8 (fold c l ^^^ b.toNat):=by
 rw[zH];rfl
theorem Dr(c:Int)(s:ByteArray)(w:World)(m:0<=c)(q:c<4294967296)(p:s.size<=maxLen) :
  Calls prog 167 #[.int .u32 c,.string s] w fun e w'=>e = .returned (.int .u32 (ay c.toNat s.data.toList:Nat))/\w'=w:=by
 obtain⟨C,rfl⟩:=a0n m;rw[a0l];unfold maxLen at p;have g:bits .xor .u32 (C:Int) 4294967295=((C ^^^ full:Nat):Int):=a2y C 4294967295 (by omega) (by omega);have a:C ^^^ full<4294967296:=a1F (n:=32) (by omega) (by decide);have l:Hid (ay C s.data.toList=fold (C ^^^ full) s.data.toList ^^^ full):=rfl;generalize C ^^^ full=X at *
 generalize b:ay C s.data.toList=F at *
 clear b;go_enter func167,ntmps167;go_wp2
 go_loop [5,6] (fun c i=>∃k:Nat,k<=s.size/\i = .int .i64 k/\c = .int .u32 (fold X (s.data.toList.take k):Nat)) (fun _ i=>s.size-(intOf i).toNat)
 case atStart=>exact⟨0,a0g _,rfl,rfl⟩
 case round=>
  obtain⟨k,r,rfl,rfl⟩:=hrel;have o:=xL X (s.data.toList.take k) a;by_cases d:k<s.size
  .
   have f:Hid (fold X (s.data.toList.take (k+1))=shN 8 (fold X (s.data.toList.take k) ^^^ s[k].toNat)):=by
    rw[wR s k d,vW];exact rfl
   have hb:(s[k].toNat:Int)<256:=by have:=xy s[k];omega
   generalize fold X (s.data.toList.take k)=x at *
   clear g a;go_wp2_with (go_at_call 193;refine(Dt _ _ _ (by omega) (by omega) (by omega) (by omega)).mono ?_;rintro e w' ⟨rfl,rfl⟩)
   go_round
   case rel=>exact⟨k+1,by omega,by go_num,by rw[ae f]⟩
   case measure=>simp[intOf];omega
  .
   have t:bits .xor .u32 ((fold X (s.data.toList.take k):Nat):Int) 4294967295=((fold X (s.data.toList.take k) ^^^ full:Nat):Int):=a2y _ 4294967295 o (by omega);have j:Hid (fold X (s.data.toList.take k) ^^^ full=F):=by
    have h:=ae l;rw[h,a0o (by simp;omega)];exact rfl
   generalize fold X (s.data.toList.take k) ^^^ full=v at *
   generalize fold X (s.data.toList.take k)=x at *
   clear g a;go_wp2;go_ret;exact⟨aJ (by rw[ae j]),rfl⟩
theorem Bq(s:ByteArray)(w:World)(a:s.size<=maxLen) :
  Calls prog 132 #[.string s] w fun e w'=>e = .returned (.int .i64 (ay 0 s.data.toList:Nat))/\w'=w:=by
 have hb:ay 0 s.data.toList<4294967296:=fL _ _ (by omega);go_enter func132,ntmps132;go_wp2_with (go_at_call 167;refine(Dr _ _ _ (by omega) (by omega) a).mono ?_;rintro e w' ⟨rfl,rfl⟩);go_ret;exact⟨rfl,rfl⟩
def cmI(c:Int)(l:List UInt8):Int:=if inB c 0 4294967295=true then(ay c.toNat l:Nat)else -1
theorem EH{c:Int}{l:List UInt8}(h:inB c 0 4294967295=true):cmI c l=(ay c.toNat l:Nat):=a0d h
theorem ON{c:Int}{l:List UInt8}(h:inB c 0 4294967295=false):cmI c l = -1:=a0e (by simp[h])
theorem bV{a b:ByteArray}(h:a.data.toList=b.data.toList):a=b:=ByteArray.ext (Array.toList_inj.1 h)
end Go.Proofs.YtgmfehnnebkaoaaGreatDoor
