/- Of what the proof is made: 7 texts, one behind the other. -/
import Derived.Test.YtbacpebljannfaaGreatDoorRows
import Derived.WalkKit
import Derived.WalkSpells
import Derived.Below
import Derived.Laws.BitsAllLaws
import Derived.Test.YtbacpebljannfaaGreatDoorBits
import Derived.Test.YtbacpebljannfaaGreatDoorM1
set_option linter.unusedSimpArgs false
set_option maxHeartbeats 400000
namespace Go.Proofs.YtbacpebljannfaaGreatDoor
open Go.RowKit
set_option linter.defProp false
def a0a := @Nat.le_refl
def a0b := @And.intro
def a0c := @Below.refl
def a0d := @if_pos
def a0e := @if_neg
def a0f := @Nat.lt_of_lt_of_le
def a0g := @Option.bind_some
def a0h := @Tryz.underlying84
def a0i := @Nat.ne_of_lt
def a0j := @Nat.lt_succ_self
def a0k := @Nat.le_of_lt
def a0l := @List.length_append
def a0m := @Nat.zero_le
def a0n := @Option.some.injEq
def a0o := @Or.inl
def a0p := @World.ownsRow.alloc
def a0r := @decide_eq_false
def a0s := @decide_eq_true
def a0t := @Int.eq_ofNat_of_zero_le
def a0u := @Below.heap_setCell
def a0v := @bodyPost_ret
def a0w := @Bool.and_eq_true
def a0x := @info_parts
def a0y := @Int.toNat_natCast
def a0z := @Addr.mk.injEq
def a0A := @wpList_append_own
def a0B := @List.length_replicate
def a0C := @List.take_of_length_le
def a0E := @List.length_cons
def a0F := @decide_eq_true_eq
def a0G := @World.ownsRow.lt
def a0H := @Nat.le_succ
def a0I := @Nat.le_trans
def a0J := @List.map_append
def a0K := @List.map_cons
def a0L := @List.length_take
def a0M := @Nat.zero_add
def a0N := @Nat.ne_of_gt
def a0O := @Value.slice.injEq
def a0P := @List.length_map
def a0Q := @and_true
def a0R := @List.sum_cons
def a0S := @Nat.pow_le_pow_right
def a0T := @Tryz.underlying111
def a0U := @List.mem_append
def a0V := @ByteArray.size_append
def a0W := @List.append_assoc
def a0X := @Nat.pow_add
def a0Y := @World.ownsRow_nil
def a0Z := @if_true
def a00 := @List.mem_singleton
def a01 := @List.length_nil
def a02 := @World.ownsRow.cellAt
def a03 := @Tryz.underlying33
def a04 := @List.mem_cons
def a05 := @Array.length_toList
def a06 := @World.ownsRow_lit
def a07 := @List.flatMap_cons
def a08 := @Prod.mk.injEq
def a09 := @ints_oneCell
def a1a := @List.take_succ_eq_append_getElem
def a1b := @List.length_singleton
def a1c := @List.length_drop
def a1d := @List.nil_append
def a1e := @Nat.mod_eq_of_lt
def a1g := @Below.heap_alloc
def a1h := @List.all_eq_true
def a1i := @Tryz.underlying131
def a1j := @Nat.mul_comm
def a1k := @Nat.mod_lt
def a1l := @List.append_nil
def a1m := @wpList_make_full
def a1n := @Bool.false_eq_true
def a1o := @if_false
def a1p := @beq_eq_false_iff_ne
def a1q := @Int.lt_or_le
def a1r := @Nat.mul_le_mul
def a1s := @Bool.or_eq_true
def a1u := @Tryz.func230
def a1v := @Tryz.ntmps230
def a1w := @Nat.xor_lt_two_pow
def a1y := @Tryz.func221
def a1z := @Tryz.ntmps221
def a1A := @Nat.two_pow_pos
def a1B := @run_underlying
def a1C := @Nat.mod_one
def a1D := @List.all_append
def a1E := @List.all_cons
def a1F := @or_false
def a1G := @Option.bind_none
def a1H := @Tryz.underlying136
def a1I := @List.cons_append
def a1J := @Option.some.inj
def a1K := @Tryz.underlying3
def a1L := @World.ownsRow.cells
def a1M := @IntKind.wrap_i64
def a1N := @List.map_nil
def a1O := @World.ownsRow.stored
def a1P := @World.ownsRow.kept
def a1Q := @Tryz.underlying5
def a1R := @Tryz.underlying9
def a1S := @List.mem_of_mem_take
def a1U := @Nat.lt_or_ge
def a1V := @Tryz.underlying199
def a1W := @List.getElem_of_mem
def a1X := @Nat.add_sub_cancel_left
def a1Y := @List.not_mem_nil
def a10 := @Nat.pow_succ
def a12 := @Nat.add_mul
def a14 := @Nat.mul_add
def a15 := @Nat.mul_assoc
def a16 := @Nat.div_le_self
def a17 := @Array.size_append
def a18 := @List.length_set
def a19 := @ownsRow_setCell_below
def a2a := @UInt8.toNat_lt
def a2b := @List.take_append_drop
def a2c := @List.Perm.refl
def a2d := @List.drop_append
def a2e := @List.drop_zero
def a2f := @List.drop_eq_nil_of_le
def a2g := @List.map_singleton
def a2h := @Nat.div_div_eq_div_mul
def a2i := @Nat.mul_le_mul_right
def a2j := @Nat.div_eq_of_lt
def a2k := @List.getD_cons_succ
def a2l := @u32_xor_nat
def a2m := @List.getElem_mem
def a2n := @decide_eq_true_iff
def a2o := @Tryz.func68
def a2p := @Tryz.ntmps68
def a2q := @List.eq_nil_of_length_eq_zero
def a2r := @Nat.add_zero
def a2s := @Int.le_refl
def a2t := @Nat.min_eq_left
def a2u := @List.size_toArray
def a2w := @World.ownsRow.frozenAt
def a2x := @List.ext_getElem
def a2y := @List.mem_map
def a2z := @Tryz.underlying134
def a2A := @Nat.zero_lt_succ
def a2B := @List.flatMap_append
def a2C := @Bool.and_eq_false_iff
def a2D := @decide_eq_false_iff_not
def a2E := @List.flatMap_nil
def a2F := @List.append_inj
def a2G := @List.append_cancel_left
def a2H := @List.all_nil
def a2I := @Tryz.func106
def a2J := @Tryz.ntmps106
def a2L := @Bool.and_true
def a2M := @Bool.not_eq_true
def a2N := @List.mem_map_of_mem
def a2P := @Bool.eq_iff_iff
def a2Q := @Tryz.func34
def a2R := @Tryz.ntmps34
def a2S := @Int.natCast_mul
def a2T := @Tryz.results47
def a2U := @Option.getD_some
def a2V := @Tryz.underlying241
def a2W := @Bool.or_eq_false_iff
def a2X := @results_none
def a2Y := @results_tmp
def a2Z := @List.count_le_length
def a23 := @Tryz.func115
def a24 := @Tryz.ntmps115
def a26 := @Tryz.ntmps96
def a28 := @Tryz.ntmps65
def a3a := @Tryz.ntmps36
def a3c := @Int.tmod_eq_emod_of_nonneg
def a3e := @growslice_fits
def a3f := @Sem.run_pure
def a3g := @Obj.cells.injEq
def a3h := @run_convert_bytes_back
def a3i := @Nat.add_sub_cancel
def a3j := @Tryz.underlying171
def a3n := @List.sum_nil
def a3o := @List.Perm.swap
def a3p := @List.nodup_append
def a3q := @Nat.eq_zero_or_pos
def a3r := @Nat.sub_self
def a3s := @Tryz.results26
def a3t := @ByteArray.size_extract
def a3v := @Tryz.ntmps60
theorem af{p:Prop}(h:p):Hid p:=h
theorem ae{p:Prop}(h:Hid p):p:=h
theorem aH{k:IntKind}{a b:Int}(h:a=b):Ending.returned (.int k a) = .returned (.int k b):=by rw[h]
theorem au{a b:Bool}(h:a=b):Ending.returned (.bool a) = .returned (.bool b):=by rw[h]
def inB(n lo hi:Int):Bool:=decide (lo<=n)&&decide (n<=hi)
theorem aG{n lo hi:Int} : inB n lo hi=true<->lo<=n/\n<=hi:=by simp[inB]
theorem fi{n lo hi:Int} : inB n lo hi=false<->n<lo∨hi<n:=by
 rw[←a2M,aG];omega
theorem cY(n lo hi:Int)(w:World) :
  Calls Tryz.prog 67 #[.int .i64 n,.int .i64 lo,.int .i64 hi] w fun e w'=>e = .returned (.bool (inB n lo hi))/\w'=w:=by
 by_cases h:lo<=n
 · go_enter Tryz.func67,Tryz.ntmps67;go_wp2;go_ret;exact⟨au (by simp[inB,h]),rfl⟩
 · go_enter Tryz.func67,Tryz.ntmps67;go_wp2;go_ret;exact⟨au (by simp[inB];omega),rfl⟩
end Go.Proofs.YtbacpebljannfaaGreatDoor
namespace Go.Proofs.YtbacpebljannfaaGreatDoor
def cP:List UInt8->Nat
 | []=>0
 | b :: l=>b.toNat+256*cP l
theorem gp(a b:List UInt8):cP (a++b)=cP a+2 ^ (8*a.length)*cP b:=by
 induction a with
 | nil=>simp[cP]
 | cons x a ih=>
  simp only[a1I,cP,ih,a0E];have e:2 ^ (8*(a.length+1))=256*2 ^ (8*a.length):=by rw[a14,a0X,a1j]
  rw[e,a14,a15];omega
theorem nY(l:List UInt8):cP l<2 ^ (8*l.length):=by
 induction l with
 | nil=>simp[cP]
 | cons x l ih=>
  simp only[cP,a0E];have e:2 ^ (8*(l.length+1))=256*2 ^ (8*l.length):=by rw[a14,a0X,a1j]
  rw[e];have:=x.toNat_lt;omega
theorem xr(l:List UInt8)(j:Nat):cP l/2 ^ (8*j)%256=(l.getD j 0).toNat:=by
 induction l generalizing j with
 | nil=>simp[cP]
 | cons x l ih=>
  have hx:=x.toNat_lt;cases j with
  | zero=>
   simp only[cP,Nat.mul_zero,Nat.pow_zero,Nat.div_one,List.getD_cons_zero];omega
  | succ j=>
   simp only[cP,a2k];rw[←ih j,show 8*(j+1)=8+8*j by omega,a0X,←a2h]
   congr 2
   show(x.toNat+256*cP l)/256=cP l;omega
theorem GL(l:List UInt8)(p:Nat):(l.getD (p/8) 0).toNat/2 ^ (p%8)%2=cP l/2 ^ p%2:=by
 rw[←xr];have e8:256=2 ^ (p%8)*2 ^ (8-p%8):=by
  rw[←a0X,show p%8+(8-p%8)=8 by omega]
 have e2:2∣2 ^ (8-p%8):=by
  rw[show 8-p%8=(7-p%8)+1 by omega,a10];exact Nat.dvd_mul_left _ _
 rw[e8,Nat.mod_mul_right_div_self,Nat.mod_mod_of_dvd _ e2,a2h,←a0X,show 8*(p/8)+p%8=p by omega]
theorem CY(l:List UInt8)(p:Nat)(h:8*l.length<=p):cP l/2 ^ p%2=0:=by
 rw[a2j (a0f (nY l) (a0S (by omega) h))]
def ct:List Nat:=[16,17,18,0,8,7,9,6,10,5,11,4,12,3,13,2,14,1,15]
open Go.RowKit
theorem tr(n:Int)(w:World) :
  Calls Tryz.prog 49 #[.int .i64 n] w fun e w'=>e = .returned (.bool (inB n 0 4294967295))/\w'=w:=by
 by_cases h:0<=n
 · go_enter Tryz.func49,Tryz.ntmps49;go_wp2;go_ret;exact⟨au (by simp[inB,h]),rfl⟩
 · go_enter Tryz.func49,Tryz.ntmps49;go_wp2;go_ret;exact⟨au (by simp[inB];omega),rfl⟩
end Go.Proofs.YtbacpebljannfaaGreatDoor
namespace Go.Proofs.YtbacpebljannfaaGreatDoor
open Go.RowKit Corb
theorem GE(x:Nat)(h:x<4294967296):bits .and .u32 (x:Int) 1=(x:Int)%2:=by
 have:=u32_and_nat x 1 h (by omega);rw[show((1:Nat):Int)=1 from rfl]at this;rw[this,nat_mask1];omega
theorem xo(x:Nat)(h:x<4294967296):bits .xor .u32 ((x:Int)/2) 3988292384=((x/2 ^^^ 3988292384:Nat):Int):=by
 have:=a2l (x/2) 3988292384 (by omega) (by omega);rw[show((x/2:Nat):Int)=(x:Int)/2 by omega]at this;exact this
theorem EW(x:Nat)(h:x%2=1):sh x=x/2 ^^^ 3988292384:=a0d h
theorem Aa(x:Nat)(h:¬ x%2=1):sh x=x/2:=a0e h
theorem tQ(r n:Int)(w:World)(hr0:0<=r)(hr1:r<4294967296)(hn0:0<=n)(hn1:n<=1000000) :
  Calls Tryz.prog 81 #[.int .u32 r,.int .i64 n] w fun e w'=>e = .returned (.int .u32 (shN n.toNat r.toNat:Nat))/\w'=w:=by
 obtain⟨R,rfl⟩:=a0t hr0;obtain⟨m,rfl⟩:=a0t hn0;rw[a0y,a0y];go_enter Tryz.func81,Tryz.ntmps81;go_wp2
 go_loop [0,6] (fun x i=>∃k:Nat,k<=m/\i = .int .i64 k/\x = .int .u32 (shN k R:Nat)) (fun _ i=>m-(intOf i).toNat)
 case atStart=>exact⟨0,a0m _,rfl,rfl⟩
 case round=>
  obtain⟨k,hk,rfl,rfl⟩:=hrel;have hx:=jU k R (by omega);have hs:=af (tk k R);by_cases hlt:k<m
  ·
   generalize hX:shN k R=x at *
   have HX:=af hX;clear hX;have h1:=GE x hx;have h2:=xo x hx;by_cases ho:x%2=1
   ·
    have ho':(x:Int)%2=1:=by omega
    have H:=af ho;clear ho;go_wp2
    go_round
    case rel=>exact⟨k+1,by omega,by go_num,by rw[ae hs,EW x (ae H)]⟩
    case measure=>simp[intOf];omega
   ·
    have ho':(x:Int)%2=0:=by omega
    have H:=af ho;clear ho;go_wp2
    go_round
    case rel=>exact⟨k+1,by omega,by go_num,by rw[ae hs,Aa x (ae H)];rfl⟩
    case measure=>simp[intOf];omega
  · go_wp2;go_ret;exact⟨aH (by rw[show k=m by omega]),rfl⟩
theorem nW(x:Nat)(b:Nat)(h:x<4294967296)(hb:b<256):bits .xor .u32 (x:Int) (b:Int)=((x ^^^ b:Nat):Int):=
 a2l x b h (by omega)
theorem yh(c b:Int)(w:World)(hr0:0<=c)(hr1:c<4294967296)(hn0:0<=b)(hn1:b<256) :
  Calls Tryz.prog 114 #[.int .u32 c,.int .u8 b] w fun e w'=>e = .returned (.int .u32 (shN 8 (c.toNat ^^^ b.toNat):Nat))/\w'=w:=by
 obtain⟨R,rfl⟩:=a0t hr0;obtain⟨B,rfl⟩:=a0t hn0;rw[a0y,a0y];have hx0:=nW R B (by omega) (by omega);have hlt0:R ^^^ B<4294967296:=a1w (n:=32) (by omega) (by omega);generalize R ^^^ B=X at *
 go_enter Tryz.func114,Tryz.ntmps114;go_wp2
 go_loop [0,5] (fun x i=>∃k:Nat,k<=8/\i = .int .i64 k/\x = .int .u32 (shN k X:Nat)) (fun _ i=>8-(intOf i).toNat)
 case atStart=>exact⟨0,by omega,rfl,rfl⟩
 case round=>
  obtain⟨k,hk,rfl,rfl⟩:=hrel;have hx:=jU k X hlt0;have hk':(k:Int)<=8:=by omega
  clear hk;have hs:=af (tk k X);clear hx0 hlt0;by_cases hlt:(k:Int)<8
  ·
   generalize hX:shN k X=x at *
   have HX:=af hX;clear hX;have h2:=xo x hx;by_cases ho:x%2=1
   ·
    have ho':(x:Int)%2=1:=by omega
    have H:=af ho;clear ho;go_wp2
    go_round
    case rel=>exact⟨k+1,by omega,by go_num,by rw[ae hs,EW x (ae H)]⟩
    case measure=>simp[intOf];omega
   ·
    have ho':(x:Int)%2=0:=by omega
    have H:=af ho;clear ho;go_wp2
    go_round
    case rel=>exact⟨k+1,by omega,by go_num,by rw[ae hs,Aa x (ae H)];rfl⟩
    case measure=>simp[intOf];omega
  · go_wp2;go_ret;exact⟨aH (by rw[show k=8 by omega]),rfl⟩
theorem tu(s:ByteArray)(k:Nat)(h:k<s.size):s.data.toList.take (k+1)=s.data.toList.take k++[s[k]]:=by
 rw[a1a (by simpa using h)];rfl
theorem sH(c:Nat)(l:List UInt8)(b:UInt8):fold c (l++[b])=shN 8 (fold c l ^^^ b.toNat):=by
 rw[kJ];rfl
theorem yg(c:Int)(s:ByteArray)(w:World)(h0:0<=c)(h1:c<4294967296)(hs:s.size<=maxLen) :
  Calls Tryz.prog 84 #[.int .u32 c,.string s] w fun e w'=>e = .returned (.int .u32 (aK c.toNat s.data.toList:Nat))/\w'=w:=by
 obtain⟨C,rfl⟩:=a0t h0;rw[a0y];unfold maxLen at hs;have hx:bits .xor .u32 (C:Int) 4294967295=((C ^^^ full:Nat):Int):=a2l C 4294967295 (by omega) (by omega);have hxl:C ^^^ full<4294967296:=a1w (n:=32) (by omega) (by decide);have HF:Hid (aK C s.data.toList=fold (C ^^^ full) s.data.toList ^^^ full):=rfl;generalize C ^^^ full=X at *
 generalize hfin:aK C s.data.toList=F at *
 have HFin:=af hfin;clear hfin;go_enter Tryz.func84,Tryz.ntmps84;go_wp2
 go_loop [5,6] (fun c i=>∃k:Nat,k<=s.size/\i = .int .i64 k/\c = .int .u32 (fold X (s.data.toList.take k):Nat)) (fun _ i=>s.size-(intOf i).toNat)
 case atStart=>exact⟨0,a0m _,rfl,rfl⟩
 case round=>
  obtain⟨k,hk,rfl,rfl⟩:=hrel;have hl:=pZ X (s.data.toList.take k) hxl;by_cases hlt:k<s.size
  ·
   have hsn:Hid (fold X (s.data.toList.take (k+1))=shN 8 (fold X (s.data.toList.take k) ^^^ s[k].toNat)):=by
    rw[tu s k hlt,sH];exact rfl
   have hb:(s[k].toNat:Int)<256:=by have:=tM s[k];omega
   generalize fold X (s.data.toList.take k)=x at *
   clear hx hxl;go_wp2_with (go_at_call 114;refine(yh _ _ _ (by omega) (by omega) (by omega) (by omega)).mono ?_;rintro e w' ⟨rfl,rfl⟩)
   go_round
   case rel=>exact⟨k+1,by omega,by go_num,by rw[ae hsn]⟩
   case measure=>simp[intOf];omega
  ·
   have hu:bits .xor .u32 ((fold X (s.data.toList.take k):Nat):Int) 4294967295=((fold X (s.data.toList.take k) ^^^ full:Nat):Int):=a2l _ 4294967295 hl (by omega);have HE:Hid (fold X (s.data.toList.take k) ^^^ full=F):=by
    have h:=ae HF;rw[h,a0C (by simp;omega)];exact rfl
   generalize fold X (s.data.toList.take k) ^^^ full=v at *
   generalize fold X (s.data.toList.take k)=x at *
   clear hx hxl;go_wp2;go_ret;exact⟨aH (by rw[ae HE]),rfl⟩
theorem wP(s:ByteArray)(w:World)(hs:s.size<=maxLen) :
  Calls Tryz.prog 55 #[.string s] w fun e w'=>e = .returned (.int .i64 (aK 0 s.data.toList:Nat))/\w'=w:=by
 have hb:aK 0 s.data.toList<4294967296:=fG _ _ (by omega);go_enter Tryz.func55,Tryz.ntmps55;go_wp2_with (go_at_call 84;refine(yg _ _ _ (by omega) (by omega) hs).mono ?_;rintro e w' ⟨rfl,rfl⟩);go_ret;exact⟨rfl,rfl⟩
def cmI(c:Int)(l:List UInt8):Int:=if inB c 0 4294967295=true then(aK c.toNat l:Nat)else -1
theorem zr{c:Int}{l:List UInt8}(h:inB c 0 4294967295=true):cmI c l=(aK c.toNat l:Nat):=a0d h
theorem GP{c:Int}{l:List UInt8}(h:inB c 0 4294967295=false):cmI c l = -1:=a0e (by simp[h])
end Go.Proofs.YtbacpebljannfaaGreatDoor
namespace Go.Proofs.YtbacpebljannfaaGreatDoor
theorem mu{a b:ByteArray}(h:a.data.toList=b.data.toList):a=b:=ByteArray.ext (Array.toList_inj.1 h)
end Go.Proofs.YtbacpebljannfaaGreatDoor
