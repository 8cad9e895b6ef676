/- Of what the proof is made: 7 texts, one behind the other. -/
import Derived.Test.YtggknepmhjfohaaGreatDoorRows
import Derived.WalkKit
import Derived.WalkSpells
import Derived.Below
import Derived.Laws.BitsAllLaws
import Derived.Test.YtggknepmhjfohaaGreatDoorBits
import Derived.Test.YtggknepmhjfohaaGreatDoorM1
set_option linter.unusedSimpArgs false
set_option linter.unusedVariables false
set_option maxHeartbeats 400000
namespace Go.Proofs.YtggknepmhjfohaaGreatDoor
open Go.Proofs.Tryz
open Go.RowKit
set_option linter.defProp false
abbrev CD(f:Nat)(a:Array Value)(w:World)(v:Value):Prop:=Calls prog f a w fun e w'=>e = .returned v/\Below w.heap.size w w'
def a0a := @Nat.le_refl
def a0b := @And.intro
def a0c := @Below.refl
def a0d := @if_pos
def a0e := @if_neg
def a0f := @Option.bind_some
def a0g := @Nat.zero_le
def a0h := @Nat.lt_succ_self
def a0i := @Option.some.injEq
def a0j := @decide_eq_false
def a0k := @Nat.lt_of_lt_of_le
def a0l := @Bool.and_eq_true
def a0m := @List.length_append
def a0n := @Int.eq_ofNat_of_zero_le
def a0o := @Or.inl
def a0p := @Int.toNat_natCast
def a0r := @World.ownsRow.alloc
def a0s := @Nat.le_of_lt
def a0t := @info_parts
def a0u := @decide_eq_true_eq
def a0v := @decide_eq_true
def a0w := @List.length_replicate
def a0x := @wpList_append_own
def a0y := @bodyPost_ret
def a0z := @Nat.le_trans
def a0A := @Addr.mk.injEq
def a0B := @List.map_cons
def a0C := @World.ownsRow.lt
def a0D := @underlying56
def a0E := @List.length_cons
def a0F := @List.take_of_length_le
def a0H := @List.length_take
def a0I := @List.map_append
def a0J := @Nat.zero_add
def a0K := @Value.slice.injEq
def a0L := @Below.heap_setCell
def a0M := @List.append_assoc
def a0N := @List.length_map
def a0O := @underlying22
def a0P := @List.sum_cons
def a0Q := @Nat.pow_le_pow_right
def a0R := @Prod.mk.injEq
def a0S := @Nat.pow_add
def a0T := @if_true
def a0U := @ByteArray.size_append
def a0V := @and_true
def a0W := @Nat.mod_lt
def a0X := @List.mem_append
def a0Y := @Bool.false_eq_true
def a0Z := @if_false
def a00 := @List.length_nil
def a01 := @Nat.le_succ
def a02 := @List.mem_singleton
def a03 := @List.append_nil
def a04 := @World.ownsRow_lit
def a05 := @World.ownsRow_nil
def a06 := @List.flatMap_cons
def a07 := @World.ownsRow.cellAt
def a08 := @List.mem_cons
def a09 := @func209
def a1a := @ntmps209
def a1b := @List.nil_append
def a1c := @Nat.mod_eq_of_lt
def a1d := @Nat.mul_comm
def a1e := @List.take_succ_eq_append_getElem
def a1f := @Below.heap_alloc
def a1g := @List.length_singleton
def a1h := @Bool.or_eq_true
def a1i := @Nat.two_pow_pos
def a1k := @Nat.mod_one
def a1l := @List.length_drop
def a1m := @List.all_eq_true
def a1n := @ints_oneCell
def a1o := @List.cons_append
def a1p := @beq_eq_false_iff_ne
def a1q := @Nat.add_zero
def a1r := @Nat.min_eq_left
def a1s := @underlying79
def a1t := @Nat.pow_succ
def a1u := @Int.lt_or_le
def a1v := @Int.natCast_mul
def a1w := @Nat.ne_of_gt
def a1x := @IntKind.wrap_i64
def a1y := @wpList_make_full
def a1z := @func214
def a1A := @ntmps214
def a1B := @Nat.xor_lt_two_pow
def a1C := @Nat.mul_assoc
def a1D := @List.map_nil
def a1E := @List.length_set
def a1F := @Nat.lt_or_ge
def a1G := @Nat.zero_lt_succ
def a1H := @func203
def a1I := @ntmps203
def a1J := @Nat.ne_of_lt
def a1K := @Nat.div_div_eq_div_mul
def a1L := @Nat.div_eq_of_lt
def a1M := @run_underlying
def a1N := @Option.some.inj
def a1O := @Nat.div_le_self
def a1P := @true_and
def a1Q := @Array.length_toList
def a1R := @List.all_append
def a1S := @List.all_cons
def a1T := @Nat.add_assoc
def a1U := @or_false
def a1V := @Option.bind_none
def a1W := @Nat.add_mul
def a1X := @underlying3
def a1Y := @World.ownsRow.cells
def a1Z := @Int.tmod_eq_emod_of_nonneg
def a10 := @World.ownsRow.stored
def a12 := @World.ownsRow.kept
def a13 := @underlying5
def a14 := @underlying9
def a15 := @List.mem_of_mem_take
def a16 := @List.drop_zero
def a17 := @underlying132
def a18 := @List.getElem_of_mem
def a19 := @Nat.add_sub_cancel_left
def a2a := @Bool.false_or
def a2b := @List.not_mem_nil
def a2c := @ByteArray.size_extract
def a2d := @Nat.mul_add
def a2e := @Nat.mul_le_mul
def a2f := @Array.size_append
def a2g := @List.ext_getElem
def a2h := @UInt8.toNat_lt
def a2i := @List.Perm.refl
def a2j := @Nat.eq_zero_or_pos
def a2k := @List.flatMap_nil
def a2l := @List.map_singleton
def a2m := @results16
def a2n := @Nat.mul_le_mul_right
def a2p := @List.getD_cons_succ
def a2q := @u32_xor_nat
def a2r := @List.getElem_mem
def a2s := @List.mem_map_of_mem
def a2t := @Bool.eq_iff_iff
def a2u := @decide_eq_true_iff
def a2v := @func73
def a2w := @ntmps73
def a2x := @List.eq_nil_of_length_eq_zero
def a2y := @Int.le_refl
def a2z := @List.size_toArray
def a2A := @World.ownsRow.frozenAt
def a2B := @Option.getD_some
def a2C := @List.mem_map
def a2D := @List.take_append_drop
def a2E := @List.flatMap_append
def a2F := @Bool.and_eq_false_iff
def a2G := @decide_eq_false_iff_not
def a2H := @List.append_inj
def a2I := @List.append_cancel_left
def a2J := @List.drop_eq_nil_of_le
def a2K := @List.all_nil
def a2L := @func95
def a2M := @ntmps95
def a2N := @func16
def a2O := @ntmps16
def a2R := @Bool.and_true
def a2S := @Nat.add_comm
def a2T := @Bool.not_eq_true
def a2U := @Bool.true_and
def a2V := @func19
def a2W := @ntmps19
def a2X := @Nat.min_eq_right
def a2Y := @ownsRow_setCell_below
def a2Z := @List.replicate_succ'
def a20 := @Nat.sub_zero
def a23 := @underlying186
def a24 := @List.drop_append
def a25 := @List.replicate_zero
def a26 := @Nat.min_le_right
def a27 := @Bool.or_eq_false_iff
def a28 := @Int.toNat_of_nonneg
def a29 := @results_none
def a3a := @Bool.true_or
def a3b := @underlying137
def a3c := @List.count_le_length
def a3d := @func38
def a3e := @ntmps38
def a3g := @Nat.mod_mul_right_div_self
def a3h := @of_decide_eq_true
def a3j := @ntmps76
def a3l := @ntmps70
def a3n := @ntmps44
def a3p := @ntmps46
def a3r := @Int.natCast_nonneg
def a3s := @func150
def a3t := @ntmps150
def a3w := @growslice_fits
def a3x := @Sem.run_pure
def a3y := @Obj.cells.injEq
def a3z := @run_convert_bytes_back
def a3A := @Nat.add_sub_cancel
def a3B := @underlying248
def a3C := @List.sum_nil
def a3D := @List.Perm.swap
def a3E := @List.nodup_append
def a3F := @Nat.sub_self
def a3G := @List.take_append_of_le_length
def a3H := @List.take_length
def a3J := @ntmps32
theorem af{p:Prop}(h:p):Hid p:=h
theorem ae{p:Prop}(h:Hid p):p:=h
theorem aE{k:IntKind}{a b:Int}(h:a=b):Ending.returned (.int k a) = .returned (.int k b):=by rw[h]
theorem am{a b:Bool}(h:a=b):Ending.returned (.bool a) = .returned (.bool b):=by rw[h]
def inB(n lo hi:Int):Bool:=decide (lo<=n)&&decide (n<=hi)
theorem aC{n lo a:Int} : inB n lo a=true<->lo<=n/\n<=a:=by simp[inB]
theorem dZ{n lo a:Int} : inB n lo a=false<->n<lo∨a<n:=by
 rw[←a2T,aC];omega
theorem aF(n lo a:Int)(w:World) :
  Calls prog 72 #[.int .i64 n,.int .i64 lo,.int .i64 a] w fun e w'=>e = .returned (.bool (inB n lo a))/\w'=w:=by
 by_cases h:lo<=n
 . go_enter func72,ntmps72;go_wp2;go_ret;exact⟨am (by simp[inB,h]),rfl⟩
 . go_enter func72,ntmps72;go_wp2;go_ret;exact⟨am (by simp[inB];omega),rfl⟩
def cB:List UInt8->Nat
 | []=>0
 | b :: l=>b.toNat+256*cB l
theorem ik(a b:List UInt8):cB (a++b)=cB a+2 ^ (8*a.length)*cB b:=by
 induction a with
 | nil=>simp[cB]
 | cons x a ih=>
  simp only[a1o,cB,ih,a0E];have e:2 ^ (8*(a.length+1))=256*2 ^ (8*a.length):=by rw[a2d,a0S,a1d]
  rw[e,a2d,a1C];omega
theorem oX(l:List UInt8):cB l<2 ^ (8*l.length):=by
 induction l with
 | nil=>simp[cB]
 | cons x l ih=>
  simp only[cB,a0E];have e:2 ^ (8*(l.length+1))=256*2 ^ (8*l.length):=by rw[a2d,a0S,a1d]
  rw[e];have:=x.toNat_lt;omega
theorem Ad(l:List UInt8)(j:Nat):cB l/2 ^ (8*j)%256=(l.getD j 0).toNat:=by
 induction l generalizing j with
 | nil=>simp[cB]
 | cons x l ih=>
  have a:=x.toNat_lt;cases j with
  | zero=>
   simp only[cB,Nat.mul_zero,Nat.pow_zero,Nat.div_one,List.getD_cons_zero];omega
  | succ j=>
   simp only[cB,a2p];rw[←ih j,show 8*(j+1)=8+8*j by omega,a0S,←a1K]
   congr 2
   show(x.toNat+256*cB l)/256=cB l;omega
theorem Li(l:List UInt8)(p:Nat):(l.getD (p/8) 0).toNat/2 ^ (p%8)%2=cB l/2 ^ p%2:=by
 rw[←Ad];have e8:256=2 ^ (p%8)*2 ^ (8-p%8):=by
  rw[←a0S,show p%8+(8-p%8)=8 by omega]
 have e2:2∣2 ^ (8-p%8):=by
  rw[show 8-p%8=(7-p%8)+1 by omega,a1t];exact Nat.dvd_mul_left _ _
 rw[e8,a3g,Nat.mod_mod_of_dvd _ e2,a1K,←a0S,show 8*(p/8)+p%8=p by omega]
theorem F8(l:List UInt8)(p:Nat)(h:8*l.length<=p):cB l/2 ^ p%2=0:=by
 rw[a1L (a0k (oX l) (a0Q (by omega) h))]
def br:List Nat:=[16,17,18,0,8,7,9,6,10,5,11,4,12,3,13,2,14,1,15]
theorem vm(n:Int)(w:World) :
  Calls prog 84 #[.int .i64 n] w fun e w'=>e = .returned (.bool (inB n 0 4294967295))/\w'=w:=by
 by_cases h:0<=n
 . go_enter func84,ntmps84;go_wp2;go_ret;exact⟨am (by simp[inB,h]),rfl⟩
 . go_enter func84,ntmps84;go_wp2;go_ret;exact⟨am (by simp[inB];omega),rfl⟩
open Corb
theorem KT(x:Nat)(h:x<4294967296):bits .and .u32 (x:Int) 1=(x:Int)%2:=by
 have:=u32_and_nat x 1 h (by omega);rw[show((1:Nat):Int)=1 from rfl]at this;rw[this,nat_mask1];omega
theorem Ab(x:Nat)(h:x<4294967296):bits .xor .u32 ((x:Int)/2) 3988292384=((x/2 ^^^ 3988292384:Nat):Int):=by
 have:=a2q (x/2) 3988292384 (by omega) (by omega);rw[show((x/2:Nat):Int)=(x:Int)/2 by omega]at this;exact this
theorem IW(x:Nat)(h:x%2=1):sh x=x/2 ^^^ 3988292384:=a0d h
theorem Dy(x:Nat)(h:¬ x%2=1):sh x=x/2:=a0e h
theorem vK(r n:Int)(w:World)(d:0<=r)(o:r<4294967296)(b:0<=n)(l:n<=1000000) :
  Calls prog 110 #[.int .u32 r,.int .i64 n] w fun e w'=>e = .returned (.int .u32 (shN n.toNat r.toNat:Nat))/\w'=w:=by
 obtain⟨R,rfl⟩:=a0n d;obtain⟨m,rfl⟩:=a0n b;rw[a0p,a0p];go_enter func110,ntmps110;go_wp2
 go_loop [0,6] (fun x i=>∃k:Nat,k<=m/\i = .int .i64 k/\x = .int .u32 (shN k R:Nat)) (fun _ i=>m-(intOf i).toNat)
 case atStart=>exact⟨0,a0g _,rfl,rfl⟩
 case round=>
  obtain⟨k,q,rfl,rfl⟩:=hrel;have g:=tK k R (by omega);have f:=af (vg k R);by_cases j:k<m
  .
   generalize h:shN k R=x at *
   clear h;have p:=KT x g;have h2:=Ab x g;by_cases a:x%2=1
   .
    have c:(x:Int)%2=1:=by omega
    have H:=af a;clear a;go_wp2
    go_round
    case rel=>exact⟨k+1,by omega,by go_num,by rw[ae f,IW x (ae H)]⟩
    case measure=>simp[intOf];omega
   .
    have c:(x:Int)%2=0:=by omega
    have H:=af a;clear a;go_wp2
    go_round
    case rel=>exact⟨k+1,by omega,by go_num,by rw[ae f,Dy x (ae H)];rfl⟩
    case measure=>simp[intOf];omega
  . go_wp2;go_ret;exact⟨aE (by rw[show k=m by omega]),rfl⟩
theorem oV(x:Nat)(b:Nat)(h:x<4294967296)(hb:b<256):bits .xor .u32 (x:Int) (b:Int)=((x ^^^ b:Nat):Int):=
 a2q x b h (by omega)
theorem Bl(c b:Int)(w:World)(h:0<=c)(s:c<4294967296)(f:0<=b)(r:b<256) :
  Calls prog 88 #[.int .u32 c,.int .u8 b] w fun e w'=>e = .returned (.int .u32 (shN 8 (c.toNat ^^^ b.toNat):Nat))/\w'=w:=by
 obtain⟨R,rfl⟩:=a0n h;obtain⟨B,rfl⟩:=a0n f;rw[a0p,a0p];have j:=oV R B (by omega) (by omega);have a:R ^^^ B<4294967296:=a1B (n:=32) (by omega) (by omega);generalize R ^^^ B=X at *
 go_enter func88,ntmps88;go_wp2
 go_loop [0,5] (fun x i=>∃k:Nat,k<=8/\i = .int .i64 k/\x = .int .u32 (shN k X:Nat)) (fun _ i=>8-(intOf i).toNat)
 case atStart=>exact⟨0,by omega,rfl,rfl⟩
 case round=>
  obtain⟨k,o,rfl,rfl⟩:=hrel;have t:=tK k X a;have p:(k:Int)<=8:=by omega
  clear o;have l:=af (vg k X);clear j a;by_cases q:(k:Int)<8
  .
   generalize m:shN k X=x at *
   clear m;have h2:=Ab x t;by_cases d:x%2=1
   .
    have g:(x:Int)%2=1:=by omega
    have H:=af d;clear d;go_wp2
    go_round
    case rel=>exact⟨k+1,by omega,by go_num,by rw[ae l,IW x (ae H)]⟩
    case measure=>simp[intOf];omega
   .
    have g:(x:Int)%2=0:=by omega
    have H:=af d;clear d;go_wp2
    go_round
    case rel=>exact⟨k+1,by omega,by go_num,by rw[ae l,Dy x (ae H)];rfl⟩
    case measure=>simp[intOf];omega
  . go_wp2;go_ret;exact⟨aE (by rw[show k=8 by omega]),rfl⟩
theorem vq(s:ByteArray)(k:Nat)(h:k<s.size):s.data.toList.take (k+1)=s.data.toList.take k++[s[k]]:=by
 rw[a1e (by simpa using h)];rfl
theorem uF(c:Nat)(l:List UInt8)(b:UInt8):fold c (l++[b])=shN 8 (fold c l ^^^ b.toNat):=by
 rw[xX];rfl
theorem Bj(c:Int)(s:ByteArray)(w:World)(m:0<=c)(q:c<4294967296)(p:s.size<=maxLen) :
  Calls prog 64 #[.int .u32 c,.string s] w fun e w'=>e = .returned (.int .u32 (aI c.toNat s.data.toList:Nat))/\w'=w:=by
 obtain⟨C,rfl⟩:=a0n m;rw[a0p];unfold maxLen at p;have g:bits .xor .u32 (C:Int) 4294967295=((C ^^^ full:Nat):Int):=a2q C 4294967295 (by omega) (by omega);have a:C ^^^ full<4294967296:=a1B (n:=32) (by omega) (by decide);have l:Hid (aI C s.data.toList=fold (C ^^^ full) s.data.toList ^^^ full):=rfl;generalize C ^^^ full=X at *
 generalize b:aI C s.data.toList=F at *
 clear b;go_enter func64,ntmps64;go_wp2
 go_loop [5,6] (fun c i=>∃k:Nat,k<=s.size/\i = .int .i64 k/\c = .int .u32 (fold X (s.data.toList.take k):Nat)) (fun _ i=>s.size-(intOf i).toNat)
 case atStart=>exact⟨0,a0g _,rfl,rfl⟩
 case round=>
  obtain⟨k,r,rfl,rfl⟩:=hrel;have o:=vU X (s.data.toList.take k) a;by_cases d:k<s.size
  .
   have f:Hid (fold X (s.data.toList.take (k+1))=shN 8 (fold X (s.data.toList.take k) ^^^ s[k].toNat)):=by
    rw[vq s k d,uF];exact rfl
   have hb:(s[k].toNat:Int)<256:=by have:=vG s[k];omega
   generalize fold X (s.data.toList.take k)=x at *
   clear g a;go_wp2_with (go_at_call 88;refine(Bl _ _ _ (by omega) (by omega) (by omega) (by omega)).mono ?_;rintro e w' ⟨rfl,rfl⟩)
   go_round
   case rel=>exact⟨k+1,by omega,by go_num,by rw[ae f]⟩
   case measure=>simp[intOf];omega
  .
   have t:bits .xor .u32 ((fold X (s.data.toList.take k):Nat):Int) 4294967295=((fold X (s.data.toList.take k) ^^^ full:Nat):Int):=a2q _ 4294967295 o (by omega);have j:Hid (fold X (s.data.toList.take k) ^^^ full=F):=by
    have h:=ae l;rw[h,a0F (by simp;omega)];exact rfl
   generalize fold X (s.data.toList.take k) ^^^ full=v at *
   generalize fold X (s.data.toList.take k)=x at *
   clear g a;go_wp2;go_ret;exact⟨aE (by rw[ae j]),rfl⟩
theorem qJ(s:ByteArray)(w:World)(a:s.size<=maxLen) :
  Calls prog 39 #[.string s] w fun e w'=>e = .returned (.int .i64 (aI 0 s.data.toList:Nat))/\w'=w:=by
 have hb:aI 0 s.data.toList<4294967296:=gu _ _ (by omega);go_enter func39,ntmps39;go_wp2_with (go_at_call 64;refine(Bj _ _ _ (by omega) (by omega) a).mono ?_;rintro e w' ⟨rfl,rfl⟩);go_ret;exact⟨rfl,rfl⟩
def cmI(c:Int)(l:List UInt8):Int:=if inB c 0 4294967295=true then(aI c.toNat l:Nat)else -1
theorem CQ{c:Int}{l:List UInt8}(h:inB c 0 4294967295=true):cmI c l=(aI c.toNat l:Nat):=a0d h
theorem Lo{c:Int}{l:List UInt8}(h:inB c 0 4294967295=false):cmI c l = -1:=a0e (by simp[h])
theorem ko{a b:ByteArray}(h:a.data.toList=b.data.toList):a=b:=ByteArray.ext (Array.toList_inj.1 h)
end Go.Proofs.YtggknepmhjfohaaGreatDoor
