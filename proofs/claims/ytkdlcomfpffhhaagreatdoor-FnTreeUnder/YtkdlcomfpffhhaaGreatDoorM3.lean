/- Of what the proof is made: 8 texts, one behind the other. -/
import Derived.Lib.Split
import Derived.Lib.SplitLaws
import Derived.Lib.IndexLaws
import Derived.KernelRfl
import Derived.Test.YtkdlcomfpffhhaaGreatDoorRows
import Derived.WalkKit
import Derived.WalkSpells
import Derived.Below
import Derived.Laws.BitsAllLaws
import Derived.Test.YtkdlcomfpffhhaaGreatDoorM2
import Derived.Test.YtkdlcomfpffhhaaGreatDoorM1
set_option linter.unusedSimpArgs false
set_option linter.unusedVariables false
set_option maxHeartbeats 400000
namespace Go.Proofs.YtkdlcomfpffhhaaGreatDoor
open Go Go.RowKit
set_option linter.defProp false
def a0a := @Nat.le_refl
def a0b := @And.intro
def a0c := @Below.refl
def a0d := @if_pos
def a0e := @if_neg
def a0f := @Shut.out
def a0g := @Option.bind_some
def a0h := @Nat.zero_le
def a0i := @Bool.and_eq_true
def a0j := @Option.some.injEq
def a0k := @Nat.lt_of_lt_of_le
def a0l := @List.length_append
def a0m := @Nat.lt_succ_self
def a0n := @World.ownsRow.alloc
def a0o := @List.map_cons
def a0p := @decide_eq_false
def a0q := @decide_eq_true_eq
def a0r := @Int.toNat_natCast
def a0s := @List.take_of_length_le
def a0t := @List.length_take
def a0u := @Int.eq_ofNat_of_zero_le
def a0v := @wpAnyH_ready
def a0w := @Addr.mk.injEq
def a0x := @Nat.le_of_lt
def a0y := @World.ownsRow.lt
def a0z := @info_parts
def a0A := @Nat.zero_add
def a0B := @List.length_cons
def a0C := @AllReadyH.cons
def a0D := @ByteArray.size_append
def a0E := @List.length_replicate
def a0F := @wpAnyH_done
def a0G := @decide_eq_true
def a0H := @wpList_append_own
def a0I := @Tryz.underlying23
def a0J := @Below.heap_setCell
def a0K := @bodyPost_ret
def a0L := @Value.slice.injEq
def a0M := @List.sum_cons
def a0N := @List.map_append
def a0O := @Prod.mk.injEq
def a0P := @Nat.le_trans
def a0Q := @wp_region_held_drew
def a0R := @List.all_eq_true
def a0S := @List.length_map
def a0T := @Nat.pow_add
def a0U := @List.append_assoc
def a0V := @and_true
def a0W := @List.flatMap_cons
def a0X := @wpAnyH_take
def a0Y := @Nat.pow_le_pow_right
def a0Z := @if_true
def a00 := @List.mem_append
def a01 := @List.mem_singleton
def a02 := @Or.inl
def a03 := @AllReadyH.nil
def a04 := @List.nil_append
def a05 := @Tryz.underlying146
def a06 := @Lib.toList_data
def a07 := @World.ownsRow_nil
def a08 := @Option.some.inj
def a09 := @World.ownsRow_lit
def a1a := @Nat.le_succ
def a1b := @beq_eq_false_iff_ne
def a1c := @List.take_succ_eq_append_getElem
def a1d := @run_underlying
def a1e := @Nat.add_zero
def a1f := @World.ownsRow.cellAt
def a1g := @cell_of_row
def a1h := @List.cons_append
def a1i := @List.length_nil
def a1j := @List.mem_cons
def a1k := @Nat.mul_comm
def a1l := @Below.heap_alloc
def a1m := @Tryz.underlying22
def a1n := @Bool.or_eq_true
def a1o := @Nat.add_mul
def a1p := @List.take_append_of_le_length
def a1q := @Nat.lt_or_ge
def a1r := @Tryz.underlying170
def a1t := @Nat.mod_eq_of_lt
def a1u := @Int.lt_or_le
def a1v := @true_and
def a1w := @Bool.false_eq_true
def a1x := @if_false
def a1y := @Tryz.func289
def a1z := @Tryz.ntmps289
def a1A := @Nat.pow_succ
def a1B := @Nat.two_pow_pos
def a1C := @List.take_append_drop
def a1D := @List.append_nil
def a1E := @List.length_singleton
def a1F := @List.length_drop
def a1G := @Array.length_toList
def a1H := @List.length_set
def a1I := @World.ownsRow.kept
def a1J := @Tryz.underlying9
def a1K := @Option.getD_some
def a1L := @Tryz.func279
def a1M := @Tryz.ntmps279
def a1N := @run_callFunc_extern
def a1O := @Nat.mul_assoc
def a1P := @List.getElem_mem
def a1R := @Array.toList_append
def a1S := @List.map_nil
def a1T := @Nat.add_sub_cancel_left
def a1U := @List.all_append
def a1V := @List.all_cons
def a1W := @Nat.add_assoc
def a1X := @List.getElem_of_mem
def a1Y := @Option.bind_none
def a1Z := @List.mem_cons_of_mem
def a10 := @Nat.div_eq_of_lt
def a12 := @Nat.xor_lt_two_pow
def a13 := @List.take_left'
def a14 := @Tryz.underlying3
def a15 := @Nat.mod_lt
def a16 := @Nat.min_eq_left
def a17 := @Tryz.underlying179
def a18 := @Bool.or_eq_false_iff
def a19 := @or_false
def a2a := @ints_oneCell
def a2b := @Nat.ne_of_lt
def a2c := @Nat.div_div_eq_div_mul
def a2d := @Nat.mul_add
def a2e := @List.getD_cons_zero
def a2f := @Sem.run_bind
def a2g := @Bool.eq_iff_iff
def a2h := @List.eq_nil_of_length_eq_zero
def a2i := @World.ownsRow.cells
def a2j := @Nat.mul_le_mul
def a2k := @Nat.mod_one
def a2l := @Array.size_append
def a2m := @World.ownsRow.stored
def a2n := @List.drop_zero
def a2o := @Tryz.underlying5
def a2q := @size_zeroCells
def a2r := @List.Perm.refl
def a2s := @List.take_length
def a2t := @List.not_mem_nil
def a2u := @Nat.mul_le_mul_right
def a2w := @List.getD_cons_succ
def a2x := @ByteArray.ext
def a2y := @MapKept.run_getObj_map
def a2z := @decide_eq_true_iff
def a2A := @Int.le_refl
def a2B := @Nat.mul_one
def a2C := @List.size_toArray
def a2D := @IntKind.wrap_i64
def a2E := @Nat.one_mul
def a2F := @List.drop_append
def a2G := @List.drop_of_length_le
def a2I := @List.mem_map
def a2J := @wpList_store_mid
def a2K := @World.rangeAt_setCells_same
def a2L := @UInt8.toNat_lt
def a2M := @Bool.and_eq_false_iff
def a2N := @decide_eq_false_iff_not
def a2O := @Nat.lt_irrefl
def a2P := @List.all_eq_false
def a2Q := @List.flatMap_nil
def a2R := @List.all_nil
def a2S := @List.append_inj
def a2T := @List.append_cancel_left
def a2U := @List.drop_eq_nil_of_le
def a2V := @Tryz.func139
def a2W := @Tryz.ntmps139
def a2X := @List.map_singleton
def a2Y := @ByteArray.size_extract
def a2Z := @ByteArray.append_assoc
def a23 := @Bool.and_true
def a26 := @Nat.add_comm
def a27 := @Bool.not_eq_true
def a28 := @List.mem_map_of_mem
def a29 := @Sem.run_pure
def a3a := @Tryz.func94
def a3b := @Tryz.ntmps94
def a3c := @Int.natCast_mul
def a3d := @Nat.ne_of_gt
def a3e := @grownCap_ge
def a3f := @grownCap_le_maxLen
def a3g := @Obj.cells.injEq
def a3h := @List.ext_getElem
def a3i := @ownsRow_setCell_below
def a3j := @List.flatMap_append
def a3k := @List.mem_of_mem_take
def a3l := @Tryz.underlying259
def a3m := @wpList_make_full
def a3n := @results_none
def a3o := @beq_iff_eq
def a3p := @Tryz.underlying184
def a3q := @Nat.mod_mul_right_div_self
def a3r := @List.foldl_append
def a3t := @List.isPrefixOf_iff_prefix
def a3u := @Tryz.func196
def a3v := @Tryz.ntmps196
def a3w := @Tryz.func187
def a3x := @Tryz.ntmps187
def a3y := @Tryz.func144
def a3z := @Tryz.ntmps144
def a3A := @Bool.true_and
def a3B := @decide_false
def a3D := @growslice_fits
def a3E := @World.ownsRow.frozenAt
def a3F := @Nat.add_sub_cancel
def a3G := @List.sum_nil
def a3H := @List.Perm.swap
def a3I := @List.nodup_append
def a3J := @Nat.eq_zero_or_pos
def a3K := @Int.toNat_of_nonneg
def a3L := @Option.map_some
def a3M := @List.count_le_length
def a3N := @List.drop_left'
def a3O := @Tryz.func117
def a3P := @Tryz.ntmps117
def a3Q := @ByteArray.data_append
theorem ag{P : Program}{ops : Array Oper}{Q : Exit -> Act -> World -> Prop}{md : Region.Mode}{S : World -> Prop}(i : Nat)(v : Value){oi : Oper}{fuel : Nat}{listed : Array Bool}{a : Act}{w : World}(hi : ops[i]? = some oi)(hb : (Region.noSelect ops && Region.free md ops listed i && (Region.ready md ops listed).contains i) = true)(hQ : ∀c a w, Q (.panic c) (a.put oi.dst v) w -> Q (.panic c) a w)(h0 : Region.wanted oi (yielded ops a.tmps) = true)(h1 : ∀w, S w -> (execOp a.eval oi).run P w = .ok (.value v) w)(hS : S w)(h : wpAnyH P md ops Q S fuel (listed.setIfInBounds i true) (a.put oi.dst v) w) : wpAnyH P md ops Q S (fuel + 1) listed a w := by
 simp only[a0i]at hb;exact a0X hi hb.1.1 hb.1.2 hb.2 hQ (a02 ⟨h0, h1⟩) hS h
theorem ah{P : Program}{ops : Array Oper}{Q : Exit -> Act -> World -> Prop}{md : Region.Mode}{S : World -> Prop}(i : Nat){o : Oper}{fuel : Nat}{listed : Array Bool}{a : Act}{w : World}(hr : Region.ready md ops listed = [i])(ho : ops[i]? = some o)(h : ∀K' : Act -> World -> Prop, Shut (∀a w, S w -> (S w -> wpAnyH P md ops Q S fuel (listed.setIfInBounds i true) a w) -> K' a w) -> if Region.wanted o (yielded ops a.tmps) = true then Oper.wp P o a w K' Q else K' (a.put o.dst undef) w) : wpAnyH P md ops Q S (fuel + 1) listed a w := a0v hr (by simp) (a0C ho h a03)
def okB(b:UInt8):Bool:=decide (97<=b.toNat)&&decide (b.toNat<=122) || (decide (48<=b.toNat)&&decide (b.toNat<=57) || (b.toNat == 46 || (b.toNat == 45 || b.toNat == 95)))
def dS(p:List UInt8):Bool:=p.all okB&&(decide (1<=p.length)&&(decide (p.length<=10)&&(!(p == [46])&&!(p == [46,46]))))
def cF:List UInt8->List UInt8->List (List UInt8)
 | cur,[]=>[cur]
 | cur,b :: l=>if b=47 then cur :: cF [] l else cF (cur++[b]) l
def lG(l:List UInt8):List (List UInt8):=cF [] l
def gn(l:List UInt8):Bool:=(lG l).all dS&&decide ((lG l).length<=4)
def ahead(cur:List UInt8):List (List UInt8)->List (List UInt8)
 | []=>[cur]
 | h :: t=>(cur++h) :: t
theorem lU:∀(l cur:List UInt8),cF cur l=ahead cur (cF [] l)
 | [],cur=>by simp[cF,ahead]
 | b :: l,cur=>by
  unfold cF;by_cases h:b=47
  · simp[h,ahead]
  ·
   rw[a0e h,a0e h,lU l (cur++[b]),lU l ([]++[b])];cases hc:cF [] l with
   | nil=>simp[ahead]
   | cons h t=>simp[ahead]
theorem AQ(l cur:List UInt8):cF cur l≠[]:=by
 induction l generalizing cur with
 | nil=>simp[cF]
 | cons b l ih=>unfold cF;split<;>simp[ih]
theorem kY:∀(l cur:List UInt8) (b:UInt8),cF cur (l++[b])=if b=47 then cF cur l++[[]]else(cF cur l).dropLast++[(cF cur l).getLastD []++[b]]
 | [],cur,b=>by
  by_cases h:b=47<;>simp[cF,h]
 | c :: l,cur,b=>by
  rw[a1h];unfold cF;by_cases h:c=47
  ·
   rw[a0d h,a0d h,kY l [] b];have hne:=AQ l []
   split
   · simp
   ·
    cases hc:cF [] l with
    | nil=>exact absurd hc hne
    | cons x t=>simp
  · rw[a0e h,a0e h,kY l (cur++[c]) b]
theorem mC:∀(l cur:List UInt8),(cF cur l).length<=l.length+1
 | [],cur=>by simp[cF]
 | b :: l,cur=>by
  unfold cF
  split
  · have:=mC l [];simp;omega
  · have:=mC l (cur++[b]);simp;omega
theorem index_one(c b:UInt8)(l:List UInt8)(h:¬ b=c):Lib.index (b :: l) [c]=if Lib.index l [c] == -1 then -1 else Lib.index l [c]+1:=by
 rw[Lib.index];have:([c].isPrefixOf (b :: l))=false:=by simp only[List.isPrefixOf,a23,a1b,ne_eq];exact fun e=>h e.symm
 rw[this];simp
theorem qF(c:UInt8)(l:List UInt8):Lib.index (c :: l) [c]=0:=by
 rw[Lib.index];simp[List.isPrefixOf]
theorem oP(c:UInt8):∀(l:List UInt8),Lib.count l [c]≠0->∃k:Nat,Lib.index l [c]=k
 | [],h=>by
  rw[Lib.count_one]at h;simp at h
 | b :: l,h=>by
  by_cases e:b=c
  · subst e;exact⟨0,qF b l⟩
  ·
   rw[Lib.count_cons_ne b c l e]at h;obtain⟨k,hk⟩:=oP c l h;refine⟨k+1,?_⟩;rw[index_one c b l e,hk];have:¬ ((k:Int) == -1)=true:=by simp
   rw[a0e this];omega
theorem xS(c b:UInt8)(l:List UInt8)(h:¬ b=c)(n:Nat)(hn:n=Lib.count l [c]):Lib.splitK [c] 0 n (b :: l)=ahead [b] (Lib.splitK [c] 0 n l):=by
 cases n with
 | zero=>simp[Lib.splitK,ahead]
 | succ n=>
  obtain⟨k,hk⟩:=oP c l (by omega);have e1:Lib.index (b :: l) [c]=((k+1:Nat):Int):=by
   rw[index_one c b l h,hk];have:¬ ((k:Int) == -1)=true:=by simp
   rw[a0e this];omega
  have n1:¬ (Lib.index (b :: l) [c] == -1)=true:=by rw[e1];simp;omega
  have n2:¬ (Lib.index l [c] == -1)=true:=by rw[hk];simp
  rw[Lib.splitK,a0e n1,e1,Lib.splitK,a0e n2,hk];simp[ahead]
theorem oB:∀(l:List UInt8),Lib.splitK [47] 0 (Lib.count l [47]) l=cF [] l
 | []=>by
  have:Lib.count [] [47]=0:=by rw[Lib.count_one];rfl
  rw[this];simp[Lib.splitK,cF]
 | b :: l=>by
  by_cases h:b=47
  · subst h;rw[Lib.count_cons_eq,a26,Lib.splitK,qF];simp[cF,oB l]
  · rw[Lib.count_cons_ne b 47 l h,xS 47 b l h _ rfl,oB l,cF,a0e h,lU l ([]++[b])];simp
def xD:List UInt8:=[97,98,99,100,101,102,103,104,105,106,107,108,109,110,111,112,113,114,115,116,117,118,119,120,121,122,48,49,50,51,52,53,54,55,56,57,46,45,95]
theorem Ht:((List.range 256).all fun n=>decide (Lib.indexByte xD n.toUInt8<0) == !okB n.toUInt8)=true:=by decide +kernel
theorem Kt(b:UInt8):decide (Lib.indexByte xD b<0)=!okB b:=by
 have:=a0R.1 Ht b.toNat (List.mem_range.2 b.toNat_lt);simpa using this
end Go.Proofs.YtkdlcomfpffhhaaGreatDoor
namespace Go.Proofs.YtkdlcomfpffhhaaGreatDoor
open Go.RowKit
theorem af{p:Prop}(h:p):Hid p:=h
theorem ae{p:Prop}(h:Hid p):p:=h
theorem aQ{k:IntKind}{a b:Int}(h:a=b):Ending.returned (.int k a) = .returned (.int k b):=by rw[h]
theorem ak{a b:Bool}(h:a=b):Ending.returned (.bool a) = .returned (.bool b):=by rw[h]
def inB(n lo hi:Int):Bool:=decide (lo<=n)&&decide (n<=hi)
theorem aD{n lo hi:Int} : inB n lo hi=true<->lo<=n/\n<=hi:=by simp[inB]
theorem eB{n lo hi:Int} : inB n lo hi=false<->n<lo∨hi<n:=by
 rw[←a27,aD];omega
theorem mY(n lo hi:Int)(w:World) :
  Calls Tryz.prog 58 #[.int .i64 n,.int .i64 lo,.int .i64 hi] w fun e w'=>e = .returned (.bool (inB n lo hi))/\w'=w:=by
 by_cases h:lo<=n
 · go_enter Tryz.func58,Tryz.ntmps58;go_wp2;go_ret;exact⟨ak (by simp[inB,h]),rfl⟩
 · go_enter Tryz.func58,Tryz.ntmps58;go_wp2;go_ret;exact⟨ak (by simp[inB];omega),rfl⟩
end Go.Proofs.YtkdlcomfpffhhaaGreatDoor
namespace Go.Proofs.YtkdlcomfpffhhaaGreatDoor
def bS:List UInt8->Nat
 | []=>0
 | b :: l=>b.toNat+256*bS l
theorem fZ(a b:List UInt8):bS (a++b)=bS a+2 ^ (8*a.length)*bS b:=by
 induction a with
 | nil=>simp[bS]
 | cons x a ih=>
  simp only[a1h,bS,ih,a0B];have e:2 ^ (8*(a.length+1))=256*2 ^ (8*a.length):=by rw[a2d,a0T,a1k]
  rw[e,a2d,a1O];omega
theorem nC(l:List UInt8):bS l<2 ^ (8*l.length):=by
 induction l with
 | nil=>simp[bS]
 | cons x l ih=>
  simp only[bS,a0B];have e:2 ^ (8*(l.length+1))=256*2 ^ (8*l.length):=by rw[a2d,a0T,a1k]
  rw[e];have:=x.toNat_lt;omega
theorem yt(l:List UInt8)(j:Nat):bS l/2 ^ (8*j)%256=(l.getD j 0).toNat:=by
 induction l generalizing j with
 | nil=>simp[bS]
 | cons x l ih=>
  have hx:=x.toNat_lt;cases j with
  | zero=>
   simp only[bS,Nat.mul_zero,Nat.pow_zero,Nat.div_one,a2e];omega
  | succ j=>
   simp only[bS,a2w];rw[←ih j,show 8*(j+1)=8+8*j by omega,a0T,←a2c]
   congr 2
   show(x.toNat+256*bS l)/256=bS l;omega
theorem Lp(l:List UInt8)(p:Nat):(l.getD (p/8) 0).toNat/2 ^ (p%8)%2=bS l/2 ^ p%2:=by
 rw[←yt];have e8:256=2 ^ (p%8)*2 ^ (8-p%8):=by
  rw[←a0T,show p%8+(8-p%8)=8 by omega]
 have e2:2∣2 ^ (8-p%8):=by
  rw[show 8-p%8=(7-p%8)+1 by omega,a1A];exact Nat.dvd_mul_left _ _
 rw[e8,a3q,Nat.mod_mod_of_dvd _ e2,a2c,←a0T,show 8*(p/8)+p%8=p by omega]
theorem Fp(l:List UInt8)(p:Nat)(h:8*l.length<=p):bS l/2 ^ p%2=0:=by
 rw[a10 (a0k (nC l) (a0Y (by omega) h))]
def bv:List Nat:=[16,17,18,0,8,7,9,6,10,5,11,4,12,3,13,2,14,1,15]
open Go.RowKit
theorem tJ(n:Int)(w:World) :
  Calls Tryz.prog 145 #[.int .i64 n] w fun e w'=>e = .returned (.bool (inB n 0 4294967295))/\w'=w:=by
 by_cases h:0<=n
 · go_enter Tryz.func145,Tryz.ntmps145;go_wp2;go_ret;exact⟨ak (by simp[inB,h]),rfl⟩
 · go_enter Tryz.func145,Tryz.ntmps145;go_wp2;go_ret;exact⟨ak (by simp[inB];omega),rfl⟩
end Go.Proofs.YtkdlcomfpffhhaaGreatDoor
namespace Go.Proofs.YtkdlcomfpffhhaaGreatDoor
open Go.RowKit Corb
theorem KY(x:Nat)(h:x<4294967296):bits .and .u32 (x:Int) 1=(x:Int)%2:=by
 have:=u32_and_nat x 1 h (by omega);rw[show((1:Nat):Int)=1 from rfl]at this;rw[this,nat_mask1];omega
theorem I2(x:Nat)(h:x<4294967296):bits .xor .u32 ((x:Int)/2) 3988292384=((x/2 ^^^ 3988292384:Nat):Int):=by
 have:=u32_xor_nat (x/2) 3988292384 (by omega) (by omega);rw[show((x/2:Nat):Int)=(x:Int)/2 by omega]at this;exact this
theorem LX(x:Nat)(h:x%2=1):sh x=x/2 ^^^ 3988292384:=a0d h
theorem KI(x:Nat)(h:¬ x%2=1):sh x=x/2:=a0e h
theorem uj(r n:Int)(w:World)(hr0:0<=r)(hr1:r<4294967296)(hn0:0<=n)(hn1:n<=1000000) :
  Calls Tryz.prog 188 #[.int .u32 r,.int .i64 n] w fun e w'=>e = .returned (.int .u32 (shN n.toNat r.toNat:Nat))/\w'=w:=by
 obtain⟨R,rfl⟩:=a0u hr0;obtain⟨m,rfl⟩:=a0u hn0;rw[a0r,a0r];go_enter Tryz.func188,Tryz.ntmps188;go_wp2
 go_loop [0,6] (fun x i=>∃k:Nat,k<=m/\i = .int .i64 k/\x = .int .u32 (shN k R:Nat)) (fun _ i=>m-(intOf i).toNat)
 case atStart=>exact⟨0,a0h _,rfl,rfl⟩
 case round=>
  obtain⟨k,hk,rfl,rfl⟩:=hrel;have hx:=ve k R (by omega);have hs:=af (Ef k R);by_cases hlt:k<m
  ·
   generalize hX:shN k R=x at *
   clear hX;have h1:=KY x hx;have h2:=I2 x hx;by_cases ho:x%2=1
   ·
    have ho':(x:Int)%2=1:=by omega
    have H:=af ho;clear ho;go_wp2
    go_round
    case rel=>exact⟨k+1,by omega,by go_num,by rw[ae hs,LX x (ae H)]⟩
    case measure=>simp[intOf];omega
   ·
    have ho':(x:Int)%2=0:=by omega
    have H:=af ho;clear ho;go_wp2
    go_round
    case rel=>exact⟨k+1,by omega,by go_num,by rw[ae hs,KI x (ae H)];rfl⟩
    case measure=>simp[intOf];omega
  · go_wp2;go_ret;exact⟨aQ (by rw[show k=m by omega]),rfl⟩
theorem vj(x:Nat)(b:Nat)(h:x<4294967296)(hb:b<256):bits .xor .u32 (x:Int) (b:Int)=((x ^^^ b:Nat):Int):=
 u32_xor_nat x b h (by omega)
theorem El(s:ByteArray)(k:Nat)(h:k<s.size):s.data.toList.take (k+1)=s.data.toList.take k++[s[k]]:=by
 rw[a1c (by simpa using h)];rfl
theorem C8(c:Nat)(l:List UInt8)(b:UInt8):fold c (l++[b])=shN 8 (fold c l ^^^ b.toNat):=by
 rw[wh];rfl
def cmI(c:Int)(l:List UInt8):Int:=if inB c 0 4294967295=true then(aP c.toNat l:Nat)else -1
theorem AM{c:Int}{l:List UInt8}(h:inB c 0 4294967295=true):cmI c l=(aP c.toNat l:Nat):=a0d h
theorem Lv{c:Int}{l:List UInt8}(h:inB c 0 4294967295=false):cmI c l = -1:=a0e (by simp[h])
end Go.Proofs.YtkdlcomfpffhhaaGreatDoor
namespace Go.Proofs.YtkdlcomfpffhhaaGreatDoor
theorem eg{a b:ByteArray}(h:a.data.toList=b.data.toList):a=b:=a2x (Array.toList_inj.1 h)
end Go.Proofs.YtkdlcomfpffhhaaGreatDoor
