/- Of what the proof is made: 7 texts, one behind the other. -/
import Derived.Test.YtllhielelnfpaaaGreatDoorRows
import Derived.WalkSpells
import Derived.Test.YtllhielelnfpaaaGreatDoorBits
import Derived.Test.YtllhielelnfpaaaGreatDoorM1
set_option linter.unusedSimpArgs false
set_option linter.unusedVariables false
set_option maxHeartbeats 400000
namespace Go.Proofs.YtllhielelnfpaaaGreatDoor
open Go.Proofs.Tryz
open Go.RowKit
set_option linter.defProp false
abbrev Ds(f:Nat)(a:Array Value)(w:World)(v:Value):Prop:=Calls prog f a w fun e w'=>e = .returned v/\Below w.heap.size w w'
def a0a := @Nat.le_refl
def a0b := @And.intro
def a0c := @Below.refl
def a0d := @if_neg
def a0e := @if_pos
def a0f := @Option.bind_some
def a0g := @Nat.zero_le
def a0h := @decide_eq_false
def a0i := @Nat.lt_succ_self
def a0j := @World.ownsRow.alloc
def a0k := @List.length_append
def a0l := @Option.some.injEq
def a0m := @Nat.lt_of_lt_of_le
def a0n := @Or.inl
def a0o := @Bool.and_eq_true
def a0p := @info_parts
def a0r := @wpList_append_own
def a0s := @Int.eq_ofNat_of_zero_le
def a0t := @Int.toNat_natCast
def a0u := @decide_eq_true
def a0v := @List.length_take
def a0w := @World.ownsRow.lt
def a0x := @List.take_of_length_le
def a0y := @decide_eq_true_eq
def a0z := @Nat.le_of_lt
def a0A := @List.length_replicate
def a0B := @Addr.mk.injEq
def a0C := @Nat.le_trans
def a0D := @underlying140
def a0E := @List.length_cons
def a0F := @bodyPost_ret
def a0G := @Nat.zero_add
def a0H := @List.map_cons
def a0I := @List.map_append
def a0J := @Value.slice.injEq
def a0K := @List.length_map
def a0L := @List.append_assoc
def a0M := @List.sum_cons
def a0N := @Nat.pow_le_pow_right
def a0O := @Below.heap_setCell
def a0P := @and_true
def a0Q := @underlying117
def a0R := @ByteArray.size_append
def a0S := @List.length_nil
def a0T := @List.flatMap_cons
def a0U := @List.mem_append
def a0V := @Nat.pow_add
def a0W := @if_true
def a0X := @IntKind.wrap_i64
def a0Y := @World.ownsRow_lit
def a0Z := @List.mem_cons
def a00 := @Nat.le_succ
def a01 := @Bool.false_eq_true
def a02 := @if_false
def a03 := @Nat.mod_lt
def a04 := @World.ownsRow_nil
def a05 := @List.mem_singleton
def a06 := @Prod.mk.injEq
def a07 := @beq_eq_false_iff_ne
def a08 := @World.ownsRow.cellAt
def a09 := @List.all_eq_true
def a1a := @List.append_nil
def a1b := @List.length_drop
def a1c := @func244
def a1d := @ntmps244
def a1e := @List.take_succ_eq_append_getElem
def a1g := @Nat.min_eq_left
def a1h := @Below.heap_alloc
def a1i := @Nat.mod_one
def a1j := @ints_oneCell
def a1k := @Nat.mod_eq_of_lt
def a1l := @Option.some.inj
def a1m := @List.length_singleton
def a1n := @Nat.lt_or_ge
def a1o := @underlying171
def a1p := @or_false
def a1q := @Nat.two_pow_pos
def a1r := @Nat.mul_comm
def a1s := @Nat.add_mul
def a1t := @List.nil_append
def a1u := @Int.lt_or_le
def a1v := @Nat.add_zero
def a1w := @Int.natCast_mul
def a1x := @wpList_make_full
def a1y := @Option.getD_some
def a1z := @Bool.or_eq_true
def a1A := @func267
def a1B := @ntmps267
def a1C := @List.not_mem_nil
def a1E := @Nat.ne_of_lt
def a1F := @Nat.xor_lt_two_pow
def a1G := @List.take_append_drop
def a1H := @Array.toList_append
def a1I := @List.length_set
def a1J := @World.ownsRow.kept
def a1K := @Nat.zero_lt_succ
def a1L := @List.getElem_of_mem
def a1M := @func258
def a1N := @ntmps258
def a1O := @List.drop_drop
def a1P := @run_callFunc_extern
def a1Q := @run_underlying
def a1R := @Nat.div_le_self
def a1S := @World.ownsRow.cells
def a1T := @Array.length_toList
def a1U := @World.ownsRow.stored
def a1V := @List.all_append
def a1W := @List.all_cons
def a1X := @List.take_append_of_le_length
def a1Y := @List.append_inj
def a1Z := @Option.bind_none
def a10 := @underlying38
def a12 := @Nat.pow_succ
def a13 := @Nat.mul_le_mul_right
def a14 := @List.cons_append
def a15 := @underlying3
def a16 := @Int.tmod_eq_emod_of_nonneg
def a17 := @List.map_nil
def a18 := @List.mem_of_mem_take
def a19 := @Nat.add_sub_cancel_left
def a2a := @underlying204
def a2b := @ByteArray.data_append
def a2c := @List.append_cancel_left
def a2d := @Bool.false_or
def a2e := @Nat.div_div_eq_div_mul
def a2f := @List.getElem_mem
def a2g := @Bool.eq_iff_iff
def a2h := @List.eq_nil_of_length_eq_zero
def a2i := @Array.size_append
def a2j := @World.ownsRow.frozenAt
def a2k := @List.flatMap_append
def a2l := @List.drop_zero
def a2m := @List.Perm.refl
def a2n := @Nat.eq_zero_or_pos
def a2o := @Bool.or_eq_false_iff
def a2p := @List.flatMap_nil
def a2q := @List.map_singleton
def a2r := @results41
def a2s := @Nat.div_eq_of_lt
def a2t := @Nat.add_comm
def a2u := @Nat.mul_add
def a2v := @Nat.mul_assoc
def a2w := @List.getD_cons_succ
def a2x := @u32_xor_nat
def a2y := @decide_eq_true_iff
def a2z := @func79
def a2A := @ntmps79
def a2B := @List.size_toArray
def a2C := @Sem.run_bind
def a2D := @List.ext_getElem
def a2E := @underlying5
def a2F := @underlying9
def a2G := @Nat.one_mul
def a2H := @List.drop_of_length_le
def a2I := @List.mem_map
def a2J := @UInt8.toNat_lt
def a2K := @Bool.and_eq_false_iff
def a2L := @decide_eq_false_iff_not
def a2M := @List.all_nil
def a2N := @func159
def a2O := @ntmps159
def a2P := @ByteArray.size_extract
def a2Q := @func41
def a2R := @ntmps41
def a2S := @Bool.and_true
def a2T := @Bool.not_eq_true
def a2U := @List.drop_eq_getElem_cons
def a2V := @List.mem_map_of_mem
def a2W := @func80
def a2X := @ntmps80
def a20 := @Nat.min_eq_right
def a22 := @ownsRow_setCell_below
def a23 := @List.replicate_succ'
def a26 := @underlying272
def a27 := @Int.le_refl
def a28 := @List.replicate_zero
def a29 := @Nat.min_le_right
def a3a := @results_none
def a3b := @List.take_add
def a3c := @List.take_take
def a3d := @Bool.true_or
def a3e := @underlying209
def a3f := @List.count_le_length
def a3g := @func64
def a3h := @ntmps64
def a3k := @of_decide_eq_true
def a3l := @func172
def a3m := @ntmps172
def a3n := @func127
def a3o := @ntmps127
def a3p := @func102
def a3q := @ntmps102
def a3s := @ntmps53
def a3t := @Bool.true_and
def a3u := @Int.natCast_nonneg
def a3v := @func178
def a3w := @ntmps178
def a3z := @growslice_fits
def a3A := @Sem.run_pure
def a3B := @Obj.cells.injEq
def a3C := @Nat.add_sub_cancel
def a3D := @List.range_succ
def a3E := @underlying289
def a3F := @List.sum_nil
def a3G := @List.Perm.swap
def a3H := @List.nodup_append
def a3I := @Nat.lt_irrefl
def a3J := @List.drop_take
def a3K := @List.all_eq_false
def a3L := @beq_iff_eq
def a3M := @Option.map_some
def a3N := @List.take_zero
def a3O := @Nat.ne_of_gt
def a3P := @func110
def a3Q := @ntmps110
def a3S := @ntmps40
theorem ae{p:Prop}(h:p):Hid p:=h
theorem ab{p:Prop}(h:Hid p):p:=h
theorem aI{k:IntKind}{a b:Int}(h:a=b):Ending.returned (.int k a) = .returned (.int k b):=by rw[h]
theorem ak{a b:Bool}(h:a=b):Ending.returned (.bool a) = .returned (.bool b):=by rw[h]
def inB(n lo hi:Int):Bool:=decide (lo<=n)&&decide (n<=hi)
theorem aB{n lo a:Int} : inB n lo a=true<->lo<=n/\n<=a:=by simp[inB]
theorem dK{n lo a:Int} : inB n lo a=false<->n<lo∨a<n:=by
 rw[<-a2T,aB];omega
theorem aG(n lo a:Int)(w:World) :
  Calls prog 37 #[.int .i64 n,.int .i64 lo,.int .i64 a] w fun e w'=>e = .returned (.bool (inB n lo a))/\w'=w:=by
 by_cases h:lo<=n
 . go_enter func37,ntmps37;go_wp2;go_ret;exact⟨ak (by simp[inB,h]),rfl⟩
 . go_enter func37,ntmps37;go_wp2;go_ret;exact⟨ak (by simp[inB];omega),rfl⟩
def cx:List UInt8->Nat
 | []=>0
 | b :: l=>b.toNat+256*cx l
theorem iB(a b:List UInt8):cx (a++b)=cx a+2 ^ (8*a.length)*cx b:=by
 induction a with
 | nil=>simp[cx]
 | cons x a ih=>
  simp only[a14,cx,ih,a0E];have e:2 ^ (8*(a.length+1))=256*2 ^ (8*a.length):=by rw[a2u,a0V,a1r]
  rw[e,a2u,a2v];omega
theorem pC(l:List UInt8):cx l<2 ^ (8*l.length):=by
 induction l with
 | nil=>simp[cx]
 | cons x l ih=>
  simp only[cx,a0E];have e:2 ^ (8*(l.length+1))=256*2 ^ (8*l.length):=by rw[a2u,a0V,a1r]
  rw[e];have:=x.toNat_lt;omega
theorem Bi(l:List UInt8)(j:Nat):cx l/2 ^ (8*j)%256=(l.getD j 0).toNat:=by
 induction l generalizing j with
 | nil=>simp[cx]
 | cons x l ih=>
  have a:=x.toNat_lt;cases j with
  | zero=>
   simp only[cx,Nat.mul_zero,Nat.pow_zero,Nat.div_one,List.getD_cons_zero];omega
  | succ j=>
   simp only[cx,a2w];rw[<-ih j,show 8*(j+1)=8+8*j by omega,a0V,<-a2e]
   congr 2
   show(x.toNat+256*cx l)/256=cx l;omega
theorem MZ(l:List UInt8)(p:Nat):(l.getD (p/8) 0).toNat/2 ^ (p%8)%2=cx l/2 ^ p%2:=by
 rw[<-Bi];have e8:256=2 ^ (p%8)*2 ^ (8-p%8):=by
  rw[<-a0V,show p%8+(8-p%8)=8 by omega]
 have e2:2∣2 ^ (8-p%8):=by
  rw[show 8-p%8=(7-p%8)+1 by omega,a12];exact Nat.dvd_mul_left _ _
 rw[e8,Nat.mod_mul_right_div_self,Nat.mod_mod_of_dvd _ e2,a2e,<-a0V,show 8*(p/8)+p%8=p by omega]
theorem Im(l:List UInt8)(p:Nat)(h:8*l.length<=p):cx l/2 ^ p%2=0:=by
 rw[a2s (a0m (pC l) (a0N (by omega) h))]
def bU:List Nat:=[16,17,18,0,8,7,9,6,10,5,11,4,12,3,13,2,14,1,15]
theorem wb(n:Int)(w:World) :
  Calls prog 164 #[.int .i64 n] w fun e w'=>e = .returned (.bool (inB n 0 4294967295))/\w'=w:=by
 by_cases h:0<=n
 . go_enter func164,ntmps164;go_wp2;go_ret;exact⟨ak (by simp[inB,h]),rfl⟩
 . go_enter func164,ntmps164;go_wp2;go_ret;exact⟨ak (by simp[inB];omega),rfl⟩
open Corb
theorem Mu(x:Nat)(h:x<4294967296):bits .and .u32 (x:Int) 1=(x:Int)%2:=by
 have:=u32_and_nat x 1 h (by omega);rw[show((1:Nat):Int)=1 from rfl]at this;rw[this,nat_mask1];omega
theorem Be(x:Nat)(h:x<4294967296):bits .xor .u32 ((x:Int)/2) 3988292384=((x/2 ^^^ 3988292384:Nat):Int):=by
 have:=a2x (x/2) 3988292384 (by omega) (by omega);rw[show((x/2:Nat):Int)=(x:Int)/2 by omega]at this;exact this
theorem Ko(x:Nat)(h:x%2=1):sh x=x/2 ^^^ 3988292384:=a0e h
theorem Ez(x:Nat)(h:¬ x%2=1):sh x=x/2:=a0d h
theorem wM(r n:Int)(w:World)(d:0<=r)(o:r<4294967296)(b:0<=n)(l:n<=1000000) :
  Calls prog 210 #[.int .u32 r,.int .i64 n] w fun e w'=>e = .returned (.int .u32 (shN n.toNat r.toNat:Nat))/\w'=w:=by
 obtain⟨R,rfl⟩:=a0s d;obtain⟨m,rfl⟩:=a0s b;rw[a0t,a0t];go_enter func210,ntmps210;go_wp2
 go_loop [0,6] (fun x i=>∃k:Nat,k<=m/\i = .int .i64 k/\x = .int .u32 (shN k R:Nat)) (fun _ i=>m-(intOf i).toNat)
 case atStart=>exact⟨0,a0g _,rfl,rfl⟩
 case round=>
  obtain⟨k,q,rfl,rfl⟩:=hrel;have g:=uA k R (by omega);have f:=ae (vZ k R);by_cases j:k<m
  .
   generalize h:shN k R=x at *
   clear h;have p:=Mu x g;have h2:=Be x g;by_cases a:x%2=1
   .
    have c:(x:Int)%2=1:=by omega
    have H:=ae a;clear a;go_wp2
    go_round
    case rel=>exact⟨k+1,by omega,by go_num,by rw[ab f,Ko x (ab H)]⟩
    case measure=>simp[intOf];omega
   .
    have c:(x:Int)%2=0:=by omega
    have H:=ae a;clear a;go_wp2
    go_round
    case rel=>exact⟨k+1,by omega,by go_num,by rw[ab f,Ez x (ab H)];rfl⟩
    case measure=>simp[intOf];omega
  . go_wp2;go_ret;exact⟨aI (by rw[show k=m by omega]),rfl⟩
theorem pz(x:Nat)(b:Nat)(h:x<4294967296)(hb:b<256):bits .xor .u32 (x:Int) (b:Int)=((x ^^^ b:Nat):Int):=
 a2x x b h (by omega)
theorem Cl(c b:Int)(w:World)(h:0<=c)(s:c<4294967296)(f:0<=b)(r:b<256) :
  Calls prog 116 #[.int .u32 c,.int .u8 b] w fun e w'=>e = .returned (.int .u32 (shN 8 (c.toNat ^^^ b.toNat):Nat))/\w'=w:=by
 obtain⟨R,rfl⟩:=a0s h;obtain⟨B,rfl⟩:=a0s f;rw[a0t,a0t];have j:=pz R B (by omega) (by omega);have a:R ^^^ B<4294967296:=a1F (n:=32) (by omega) (by omega);generalize R ^^^ B=X at *
 go_enter func116,ntmps116;go_wp2
 go_loop [0,5] (fun x i=>∃k:Nat,k<=8/\i = .int .i64 k/\x = .int .u32 (shN k X:Nat)) (fun _ i=>8-(intOf i).toNat)
 case atStart=>exact⟨0,by omega,rfl,rfl⟩
 case round=>
  obtain⟨k,o,rfl,rfl⟩:=hrel;have t:=uA k X a;have p:(k:Int)<=8:=by omega
  clear o;have l:=ae (vZ k X);clear j a;by_cases q:(k:Int)<8
  .
   generalize m:shN k X=x at *
   clear m;have h2:=Be x t;by_cases d:x%2=1
   .
    have g:(x:Int)%2=1:=by omega
    have H:=ae d;clear d;go_wp2
    go_round
    case rel=>exact⟨k+1,by omega,by go_num,by rw[ab l,Ko x (ab H)]⟩
    case measure=>simp[intOf];omega
   .
    have g:(x:Int)%2=0:=by omega
    have H:=ae d;clear d;go_wp2
    go_round
    case rel=>exact⟨k+1,by omega,by go_num,by rw[ab l,Ez x (ab H)];rfl⟩
    case measure=>simp[intOf];omega
  . go_wp2;go_ret;exact⟨aI (by rw[show k=8 by omega]),rfl⟩
theorem wh(s:ByteArray)(k:Nat)(h:k<s.size):s.data.toList.take (k+1)=s.data.toList.take k++[s[k]]:=by
 rw[a1e (by simpa using h)];rfl
theorem vE(c:Nat)(l:List UInt8)(b:UInt8):fold c (l++[b])=shN 8 (fold c l ^^^ b.toNat):=by
 rw[y7];rfl
theorem Ck(c:Int)(s:ByteArray)(w:World)(m:0<=c)(q:c<4294967296)(p:s.size<=maxLen) :
  Calls prog 90 #[.int .u32 c,.string s] w fun e w'=>e = .returned (.int .u32 (aE c.toNat s.data.toList:Nat))/\w'=w:=by
 obtain⟨C,rfl⟩:=a0s m;rw[a0t];unfold maxLen at p;have g:bits .xor .u32 (C:Int) 4294967295=((C ^^^ full:Nat):Int):=a2x C 4294967295 (by omega) (by omega);have a:C ^^^ full<4294967296:=a1F (n:=32) (by omega) (by decide);have l:Hid (aE C s.data.toList=fold (C ^^^ full) s.data.toList ^^^ full):=rfl;generalize C ^^^ full=X at *
 generalize b:aE C s.data.toList=F at *
 clear b;go_enter func90,ntmps90;go_wp2
 go_loop [5,6] (fun c i=>∃k:Nat,k<=s.size/\i = .int .i64 k/\c = .int .u32 (fold X (s.data.toList.take k):Nat)) (fun _ i=>s.size-(intOf i).toNat)
 case atStart=>exact⟨0,a0g _,rfl,rfl⟩
 case round=>
  obtain⟨k,r,rfl,rfl⟩:=hrel;have o:=wW X (s.data.toList.take k) a;by_cases d:k<s.size
  .
   have f:Hid (fold X (s.data.toList.take (k+1))=shN 8 (fold X (s.data.toList.take k) ^^^ s[k].toNat)):=by
    rw[wh s k d,vE];exact rfl
   have hb:(s[k].toNat:Int)<256:=by have:=wI s[k];omega
   generalize fold X (s.data.toList.take k)=x at *
   clear g a;go_wp2_with (go_at_call 116;refine(Cl _ _ _ (by omega) (by omega) (by omega) (by omega)).mono ?_;rintro e w' ⟨rfl,rfl⟩)
   go_round
   case rel=>exact⟨k+1,by omega,by go_num,by rw[ab f]⟩
   case measure=>simp[intOf];omega
  .
   have t:bits .xor .u32 ((fold X (s.data.toList.take k):Nat):Int) 4294967295=((fold X (s.data.toList.take k) ^^^ full:Nat):Int):=a2x _ 4294967295 o (by omega);have j:Hid (fold X (s.data.toList.take k) ^^^ full=F):=by
    have h:=ab l;rw[h,a0x (by simp;omega)];exact rfl
   generalize fold X (s.data.toList.take k) ^^^ full=v at *
   generalize fold X (s.data.toList.take k)=x at *
   clear g a;go_wp2;go_ret;exact⟨aI (by rw[ab j]),rfl⟩
theorem rz(s:ByteArray)(w:World)(a:s.size<=maxLen) :
  Calls prog 65 #[.string s] w fun e w'=>e = .returned (.int .i64 (aE 0 s.data.toList:Nat))/\w'=w:=by
 have hb:aE 0 s.data.toList<4294967296:=jd _ _ (by omega);go_enter func65,ntmps65;go_wp2_with (go_at_call 90;refine(Ck _ _ _ (by omega) (by omega) a).mono ?_;rintro e w' ⟨rfl,rfl⟩);go_ret;exact⟨rfl,rfl⟩
def cmI(c:Int)(l:List UInt8):Int:=if inB c 0 4294967295=true then(aE c.toNat l:Nat)else -1
theorem DZ{c:Int}{l:List UInt8}(h:inB c 0 4294967295=true):cmI c l=(aE c.toNat l:Nat):=a0e h
theorem M5{c:Int}{l:List UInt8}(h:inB c 0 4294967295=false):cmI c l = -1:=a0d (by simp[h])
theorem kO{a b:ByteArray}(h:a.data.toList=b.data.toList):a=b:=ByteArray.ext (Array.toList_inj.1 h)
end Go.Proofs.YtllhielelnfpaaaGreatDoor
