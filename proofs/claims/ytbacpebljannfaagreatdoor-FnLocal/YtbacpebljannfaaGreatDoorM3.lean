/- Of what the proof is made: 7 texts, one behind the other. -/
import Derived.Test.YtbacpebljannfaaGreatDoorRows
import Derived.WalkKit
import Derived.WalkSpells
import Derived.Below
import Derived.Laws.BitsAllLaws
import Derived.Test.YtbacpebljannfaaGreatDoorBits
import Derived.Test.YtbacpebljannfaaGreatDoorM1
set_option linter.unusedSimpArgs false
set_option maxHeartbeats 400000
namespace Go.Proofs.YtbacpebljannfaaGreatDoor
open Go.RowKit
set_option linter.defProp false
def a0a := @Nat.le_refl
def a0b := @And.intro
def a0c := @Below.refl
def a0d := @if_pos
def a0e := @if_neg
def a0f := @Option.bind_some
def a0g := @Nat.lt_of_lt_of_le
def a0h := @Tryz.underlying84
def a0i := @Nat.lt_succ_self
def a0j := @Option.some.injEq
def a0k := @Nat.ne_of_lt
def a0l := @Nat.zero_le
def a0m := @List.length_append
def a0n := @Bool.and_eq_true
def a0o := @World.ownsRow.alloc
def a0p := @Int.toNat_natCast
def a0r := @Int.eq_ofNat_of_zero_le
def a0s := @decide_eq_false
def a0t := @decide_eq_true
def a0u := @bodyPost_ret
def a0v := @Or.inl
def a0w := @info_parts
def a0x := @Nat.le_of_lt
def a0y := @Addr.mk.injEq
def a0z := @decide_eq_true_eq
def a0A := @List.length_replicate
def a0B := @wpList_append_own
def a0C := @List.map_cons
def a0E := @List.length_cons
def a0F := @List.take_of_length_le
def a0G := @World.ownsRow.lt
def a0H := @Nat.le_succ
def a0I := @Nat.le_trans
def a0J := @Nat.zero_add
def a0K := @List.map_append
def a0L := @List.length_take
def a0M := @Nat.ne_of_gt
def a0N := @Value.slice.injEq
def a0O := @Below.heap_setCell
def a0P := @List.length_map
def a0Q := @and_true
def a0R := @List.sum_cons
def a0S := @List.append_assoc
def a0T := @Nat.pow_le_pow_right
def a0U := @ByteArray.size_append
def a0V := @Nat.pow_add
def a0W := @Tryz.underlying111
def a0X := @List.mem_append
def a0Y := @Prod.mk.injEq
def a0Z := @if_true
def a00 := @World.ownsRow_nil
def a01 := @List.length_nil
def a02 := @List.mem_singleton
def a03 := @List.flatMap_cons
def a04 := @World.ownsRow.cellAt
def a05 := @Tryz.underlying33
def a06 := @List.mem_cons
def a07 := @List.length_singleton
def a08 := @World.ownsRow_lit
def a09 := @List.nil_append
def a1a := @Nat.mod_eq_of_lt
def a1b := @ints_oneCell
def a1c := @Nat.mul_comm
def a1d := @List.take_succ_eq_append_getElem
def a1e := @List.append_nil
def a1f := @Bool.or_eq_true
def a1h := @Below.heap_alloc
def a1i := @Array.length_toList
def a1j := @List.all_eq_true
def a1k := @Tryz.underlying131
def a1l := @Bool.false_eq_true
def a1m := @if_false
def a1n := @List.cons_append
def a1o := @Nat.mod_lt
def a1p := @Nat.add_zero
def a1q := @wpList_make_full
def a1r := @Nat.two_pow_pos
def a1s := @beq_eq_false_iff_ne
def a1t := @Int.lt_or_le
def a1u := @Nat.mul_le_mul
def a1w := @Tryz.func230
def a1x := @Tryz.ntmps230
def a1y := @Nat.pow_succ
def a1z := @Nat.xor_lt_two_pow
def a1A := @Nat.mul_assoc
def a1B := @List.length_drop
def a1C := @List.map_nil
def a1E := @Tryz.func221
def a1F := @Tryz.ntmps221
def a1G := @Nat.div_eq_of_lt
def a1H := @run_underlying
def a1I := @Nat.mod_one
def a1J := @List.length_set
def a1K := @List.all_append
def a1L := @List.all_cons
def a1N := @Nat.add_assoc
def a1O := @Nat.lt_or_ge
def a1P := @or_false
def a1Q := @Option.bind_none
def a1R := @Tryz.underlying136
def a1S := @Nat.div_div_eq_div_mul
def a1T := @Nat.add_mul
def a1U := @Tryz.underlying3
def a1V := @World.ownsRow.cells
def a1W := @true_and
def a1X := @World.ownsRow.stored
def a1Y := @World.ownsRow.kept
def a1Z := @Tryz.underlying5
def a10 := @Tryz.underlying9
def a12 := @List.mem_of_mem_take
def a13 := @Tryz.underlying199
def a14 := @UInt8.toNat_lt
def a15 := @List.getElem_of_mem
def a16 := @Nat.add_sub_cancel_left
def a17 := @List.not_mem_nil
def a18 := @ByteArray.size_extract
def a19 := @Nat.mul_add
def a2a := @Option.some.inj
def a2b := @Nat.div_le_self
def a2c := @Nat.min_eq_left
def a2d := @Array.size_append
def a2e := @List.ext_getElem
def a2f := @ownsRow_setCell_below
def a2g := @List.Perm.refl
def a2h := @List.flatMap_nil
def a2i := @List.map_singleton
def a2k := @Nat.mul_le_mul_right
def a2m := @List.getD_cons_succ
def a2n := @u32_xor_nat
def a2o := @List.getElem_mem
def a2p := @List.mem_map_of_mem
def a2q := @decide_eq_true_iff
def a2r := @Tryz.func68
def a2s := @Tryz.ntmps68
def a2t := @List.eq_nil_of_length_eq_zero
def a2u := @Int.le_refl
def a2v := @List.size_toArray
def a2w := @IntKind.wrap_i64
def a2y := @World.ownsRow.frozenAt
def a2z := @List.mem_map
def a2A := @Tryz.underlying134
def a2B := @List.take_append_drop
def a2C := @Nat.zero_lt_succ
def a2D := @List.flatMap_append
def a2E := @Bool.and_eq_false_iff
def a2F := @decide_eq_false_iff_not
def a2G := @List.drop_zero
def a2H := @List.append_inj
def a2I := @List.append_cancel_left
def a2J := @List.all_nil
def a2K := @Tryz.func106
def a2L := @Tryz.ntmps106
def a2O := @Bool.and_true
def a2P := @Bool.not_eq_true
def a2R := @Bool.eq_iff_iff
def a2S := @Tryz.func34
def a2T := @Tryz.ntmps34
def a2U := @Int.natCast_mul
def a2V := @Tryz.results47
def a2W := @Option.getD_some
def a2X := @Tryz.underlying241
def a2Y := @Nat.eq_zero_or_pos
def a2Z := @List.drop_append
def a20 := @Bool.or_eq_false_iff
def a22 := @Int.toNat_of_nonneg
def a23 := @results_none
def a24 := @List.drop_eq_nil_of_le
def a25 := @results_tmp
def a26 := @List.count_le_length
def a27 := @Nat.mod_mul_right_div_self
def a29 := @Tryz.func115
def a3a := @Tryz.ntmps115
def a3c := @Tryz.ntmps96
def a3e := @Tryz.ntmps65
def a3g := @Tryz.ntmps36
def a3h := @Bool.true_and
def a3j := @Int.tmod_eq_emod_of_nonneg
def a3l := @growslice_fits
def a3m := @Sem.run_pure
def a3n := @Obj.cells.injEq
def a3o := @run_convert_bytes_back
def a3p := @Nat.add_sub_cancel
def a3q := @Tryz.underlying171
def a3u := @List.sum_nil
def a3v := @List.Perm.swap
def a3w := @List.nodup_append
def a3x := @Nat.sub_self
def a3y := @List.take_append_of_le_length
def a3z := @List.take_length
def a3A := @Tryz.results26
def a3C := @Tryz.ntmps60
theorem af{p:Prop}(h:p):Hid p:=h
theorem ae{p:Prop}(h:Hid p):p:=h
theorem aH{k:IntKind}{a b:Int}(h:a=b):Ending.returned (.int k a) = .returned (.int k b):=by rw[h]
theorem au{a b:Bool}(h:a=b):Ending.returned (.bool a) = .returned (.bool b):=by rw[h]
def inB(n lo hi:Int):Bool:=decide (lo<=n)&&decide (n<=hi)
theorem aG{n lo hi:Int} : inB n lo hi=true<->lo<=n/\n<=hi:=by simp[inB]
theorem fK{n lo hi:Int} : inB n lo hi=false<->n<lo∨hi<n:=by
 rw[←a2P,aG];omega
theorem dj(n lo hi:Int)(w:World) :
  Calls Tryz.prog 67 #[.int .i64 n,.int .i64 lo,.int .i64 hi] w fun e w'=>e = .returned (.bool (inB n lo hi))/\w'=w:=by
 by_cases h:lo<=n
 · go_enter Tryz.func67,Tryz.ntmps67;go_wp2;go_ret;exact⟨au (by simp[inB,h]),rfl⟩
 · go_enter Tryz.func67,Tryz.ntmps67;go_wp2;go_ret;exact⟨au (by simp[inB];omega),rfl⟩
end Go.Proofs.YtbacpebljannfaaGreatDoor
namespace Go.Proofs.YtbacpebljannfaaGreatDoor
def cW:List UInt8->Nat
 | []=>0
 | b :: l=>b.toNat+256*cW l
theorem hH(a b:List UInt8):cW (a++b)=cW a+2 ^ (8*a.length)*cW b:=by
 induction a with
 | nil=>simp[cW]
 | cons x a ih=>
  simp only[a1n,cW,ih,a0E];have e:2 ^ (8*(a.length+1))=256*2 ^ (8*a.length):=by rw[a19,a0V,a1c]
  rw[e,a19,a1A];omega
theorem oG(l:List UInt8):cW l<2 ^ (8*l.length):=by
 induction l with
 | nil=>simp[cW]
 | cons x l ih=>
  simp only[cW,a0E];have e:2 ^ (8*(l.length+1))=256*2 ^ (8*l.length):=by rw[a19,a0V,a1c]
  rw[e];have:=x.toNat_lt;omega
theorem yG(l:List UInt8)(j:Nat):cW l/2 ^ (8*j)%256=(l.getD j 0).toNat:=by
 induction l generalizing j with
 | nil=>simp[cW]
 | cons x l ih=>
  have hx:=x.toNat_lt;cases j with
  | zero=>
   simp only[cW,Nat.mul_zero,Nat.pow_zero,Nat.div_one,List.getD_cons_zero];omega
  | succ j=>
   simp only[cW,a2m];rw[←ih j,show 8*(j+1)=8+8*j by omega,a0V,←a1S]
   congr 2
   show(x.toNat+256*cW l)/256=cW l;omega
theorem Jb(l:List UInt8)(p:Nat):(l.getD (p/8) 0).toNat/2 ^ (p%8)%2=cW l/2 ^ p%2:=by
 rw[←yG];have e8:256=2 ^ (p%8)*2 ^ (8-p%8):=by
  rw[←a0V,show p%8+(8-p%8)=8 by omega]
 have e2:2∣2 ^ (8-p%8):=by
  rw[show 8-p%8=(7-p%8)+1 by omega,a1y];exact Nat.dvd_mul_left _ _
 rw[e8,a27,Nat.mod_mod_of_dvd _ e2,a1S,←a0V,show 8*(p/8)+p%8=p by omega]
theorem Em(l:List UInt8)(p:Nat)(h:8*l.length<=p):cW l/2 ^ p%2=0:=by
 rw[a1G (a0g (oG l) (a0T (by omega) h))]
def bH:List Nat:=[16,17,18,0,8,7,9,6,10,5,11,4,12,3,13,2,14,1,15]
open Go.RowKit
theorem uj(n:Int)(w:World) :
  Calls Tryz.prog 49 #[.int .i64 n] w fun e w'=>e = .returned (.bool (inB n 0 4294967295))/\w'=w:=by
 by_cases h:0<=n
 · go_enter Tryz.func49,Tryz.ntmps49;go_wp2;go_ret;exact⟨au (by simp[inB,h]),rfl⟩
 · go_enter Tryz.func49,Tryz.ntmps49;go_wp2;go_ret;exact⟨au (by simp[inB];omega),rfl⟩
end Go.Proofs.YtbacpebljannfaaGreatDoor
namespace Go.Proofs.YtbacpebljannfaaGreatDoor
open Go.RowKit Corb
theorem I3(x:Nat)(h:x<4294967296):bits .and .u32 (x:Int) 1=(x:Int)%2:=by
 have:=u32_and_nat x 1 h (by omega);rw[show((1:Nat):Int)=1 from rfl]at this;rw[this,nat_mask1];omega
theorem yF(x:Nat)(h:x<4294967296):bits .xor .u32 ((x:Int)/2) 3988292384=((x/2 ^^^ 3988292384:Nat):Int):=by
 have:=a2n (x/2) 3988292384 (by omega) (by omega);rw[show((x/2:Nat):Int)=(x:Int)/2 by omega]at this;exact this
theorem Gk(x:Nat)(h:x%2=1):sh x=x/2 ^^^ 3988292384:=a0d h
theorem BA(x:Nat)(h:¬ x%2=1):sh x=x/2:=a0e h
theorem uH(r n:Int)(w:World)(hr0:0<=r)(hr1:r<4294967296)(hn0:0<=n)(hn1:n<=1000000) :
  Calls Tryz.prog 81 #[.int .u32 r,.int .i64 n] w fun e w'=>e = .returned (.int .u32 (shN n.toNat r.toNat:Nat))/\w'=w:=by
 obtain⟨R,rfl⟩:=a0r hr0;obtain⟨m,rfl⟩:=a0r hn0;rw[a0p,a0p];go_enter Tryz.func81,Tryz.ntmps81;go_wp2
 go_loop [0,6] (fun x i=>∃k:Nat,k<=m/\i = .int .i64 k/\x = .int .u32 (shN k R:Nat)) (fun _ i=>m-(intOf i).toNat)
 case atStart=>exact⟨0,a0l _,rfl,rfl⟩
 case round=>
  obtain⟨k,hk,rfl,rfl⟩:=hrel;have hx:=sB k R (by omega);have hs:=af (ue k R);by_cases hlt:k<m
  ·
   generalize hX:shN k R=x at *
   have HX:=af hX;clear hX;have h1:=I3 x hx;have h2:=yF x hx;by_cases ho:x%2=1
   ·
    have ho':(x:Int)%2=1:=by omega
    have H:=af ho;clear ho;go_wp2
    go_round
    case rel=>exact⟨k+1,by omega,by go_num,by rw[ae hs,Gk x (ae H)]⟩
    case measure=>simp[intOf];omega
   ·
    have ho':(x:Int)%2=0:=by omega
    have H:=af ho;clear ho;go_wp2
    go_round
    case rel=>exact⟨k+1,by omega,by go_num,by rw[ae hs,BA x (ae H)];rfl⟩
    case measure=>simp[intOf];omega
  · go_wp2;go_ret;exact⟨aH (by rw[show k=m by omega]),rfl⟩
theorem oE(x:Nat)(b:Nat)(h:x<4294967296)(hb:b<256):bits .xor .u32 (x:Int) (b:Int)=((x ^^^ b:Nat):Int):=
 a2n x b h (by omega)
theorem zx(c b:Int)(w:World)(hr0:0<=c)(hr1:c<4294967296)(hn0:0<=b)(hn1:b<256) :
  Calls Tryz.prog 114 #[.int .u32 c,.int .u8 b] w fun e w'=>e = .returned (.int .u32 (shN 8 (c.toNat ^^^ b.toNat):Nat))/\w'=w:=by
 obtain⟨R,rfl⟩:=a0r hr0;obtain⟨B,rfl⟩:=a0r hn0;rw[a0p,a0p];have hx0:=oE R B (by omega) (by omega);have hlt0:R ^^^ B<4294967296:=a1z (n:=32) (by omega) (by omega);generalize R ^^^ B=X at *
 go_enter Tryz.func114,Tryz.ntmps114;go_wp2
 go_loop [0,5] (fun x i=>∃k:Nat,k<=8/\i = .int .i64 k/\x = .int .u32 (shN k X:Nat)) (fun _ i=>8-(intOf i).toNat)
 case atStart=>exact⟨0,by omega,rfl,rfl⟩
 case round=>
  obtain⟨k,hk,rfl,rfl⟩:=hrel;have hx:=sB k X hlt0;have hk':(k:Int)<=8:=by omega
  clear hk;have hs:=af (ue k X);clear hx0 hlt0;by_cases hlt:(k:Int)<8
  ·
   generalize hX:shN k X=x at *
   have HX:=af hX;clear hX;have h2:=yF x hx;by_cases ho:x%2=1
   ·
    have ho':(x:Int)%2=1:=by omega
    have H:=af ho;clear ho;go_wp2
    go_round
    case rel=>exact⟨k+1,by omega,by go_num,by rw[ae hs,Gk x (ae H)]⟩
    case measure=>simp[intOf];omega
   ·
    have ho':(x:Int)%2=0:=by omega
    have H:=af ho;clear ho;go_wp2
    go_round
    case rel=>exact⟨k+1,by omega,by go_num,by rw[ae hs,BA x (ae H)];rfl⟩
    case measure=>simp[intOf];omega
  · go_wp2;go_ret;exact⟨aH (by rw[show k=8 by omega]),rfl⟩
theorem un(s:ByteArray)(k:Nat)(h:k<s.size):s.data.toList.take (k+1)=s.data.toList.take k++[s[k]]:=by
 rw[a1d (by simpa using h)];rfl
theorem tB(c:Nat)(l:List UInt8)(b:UInt8):fold c (l++[b])=shN 8 (fold c l ^^^ b.toNat):=by
 rw[wD];rfl
theorem zv(c:Int)(s:ByteArray)(w:World)(h0:0<=c)(h1:c<4294967296)(hs:s.size<=maxLen) :
  Calls Tryz.prog 84 #[.int .u32 c,.string s] w fun e w'=>e = .returned (.int .u32 (aM c.toNat s.data.toList:Nat))/\w'=w:=by
 obtain⟨C,rfl⟩:=a0r h0;rw[a0p];unfold maxLen at hs;have hx:bits .xor .u32 (C:Int) 4294967295=((C ^^^ full:Nat):Int):=a2n C 4294967295 (by omega) (by omega);have hxl:C ^^^ full<4294967296:=a1z (n:=32) (by omega) (by decide);have HF:Hid (aM C s.data.toList=fold (C ^^^ full) s.data.toList ^^^ full):=rfl;generalize C ^^^ full=X at *
 generalize hfin:aM C s.data.toList=F at *
 have HFin:=af hfin;clear hfin;go_enter Tryz.func84,Tryz.ntmps84;go_wp2
 go_loop [5,6] (fun c i=>∃k:Nat,k<=s.size/\i = .int .i64 k/\c = .int .u32 (fold X (s.data.toList.take k):Nat)) (fun _ i=>s.size-(intOf i).toNat)
 case atStart=>exact⟨0,a0l _,rfl,rfl⟩
 case round=>
  obtain⟨k,hk,rfl,rfl⟩:=hrel;have hl:=uR X (s.data.toList.take k) hxl;by_cases hlt:k<s.size
  ·
   have hsn:Hid (fold X (s.data.toList.take (k+1))=shN 8 (fold X (s.data.toList.take k) ^^^ s[k].toNat)):=by
    rw[un s k hlt,tB];exact rfl
   have hb:(s[k].toNat:Int)<256:=by have:=uD s[k];omega
   generalize fold X (s.data.toList.take k)=x at *
   clear hx hxl;go_wp2_with (go_at_call 114;refine(zx _ _ _ (by omega) (by omega) (by omega) (by omega)).mono ?_;rintro e w' ⟨rfl,rfl⟩)
   go_round
   case rel=>exact⟨k+1,by omega,by go_num,by rw[ae hsn]⟩
   case measure=>simp[intOf];omega
  ·
   have hu:bits .xor .u32 ((fold X (s.data.toList.take k):Nat):Int) 4294967295=((fold X (s.data.toList.take k) ^^^ full:Nat):Int):=a2n _ 4294967295 hl (by omega);have HE:Hid (fold X (s.data.toList.take k) ^^^ full=F):=by
    have h:=ae HF;rw[h,a0F (by simp;omega)];exact rfl
   generalize fold X (s.data.toList.take k) ^^^ full=v at *
   generalize fold X (s.data.toList.take k)=x at *
   clear hx hxl;go_wp2;go_ret;exact⟨aH (by rw[ae HE]),rfl⟩
theorem ye(s:ByteArray)(w:World)(hs:s.size<=maxLen) :
  Calls Tryz.prog 55 #[.string s] w fun e w'=>e = .returned (.int .i64 (aM 0 s.data.toList:Nat))/\w'=w:=by
 have hb:aM 0 s.data.toList<4294967296:=gh _ _ (by omega);go_enter Tryz.func55,Tryz.ntmps55;go_wp2_with (go_at_call 84;refine(zv _ _ _ (by omega) (by omega) hs).mono ?_;rintro e w' ⟨rfl,rfl⟩);go_ret;exact⟨rfl,rfl⟩
def cmI(c:Int)(l:List UInt8):Int:=if inB c 0 4294967295=true then(aM c.toNat l:Nat)else -1
theorem AO{c:Int}{l:List UInt8}(h:inB c 0 4294967295=true):cmI c l=(aM c.toNat l:Nat):=a0d h
theorem Jh{c:Int}{l:List UInt8}(h:inB c 0 4294967295=false):cmI c l = -1:=a0e (by simp[h])
end Go.Proofs.YtbacpebljannfaaGreatDoor
namespace Go.Proofs.YtbacpebljannfaaGreatDoor
theorem iF{a b:ByteArray}(h:a.data.toList=b.data.toList):a=b:=ByteArray.ext (Array.toList_inj.1 h)
end Go.Proofs.YtbacpebljannfaaGreatDoor
