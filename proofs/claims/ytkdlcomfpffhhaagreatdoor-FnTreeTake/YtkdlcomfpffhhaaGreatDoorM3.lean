/- Of what the proof is made: 8 texts, one behind the other. -/
import Derived.Lib.Split
import Derived.Lib.SplitLaws
import Derived.Lib.IndexLaws
import Derived.KernelRfl
import Derived.Test.YtkdlcomfpffhhaaGreatDoorRows
import Derived.WalkKit
import Derived.WalkSpells
import Derived.Below
import Derived.Laws.BitsAllLaws
import Derived.Test.YtkdlcomfpffhhaaGreatDoorM2
import Derived.Test.YtkdlcomfpffhhaaGreatDoorM1
set_option linter.unusedSimpArgs false
set_option linter.unusedVariables false
set_option maxHeartbeats 400000
namespace Go.Proofs.YtkdlcomfpffhhaaGreatDoor
open Go.Proofs.Tryz
open Go Go.RowKit
set_option linter.defProp false
abbrev CD(f:Nat)(a:Array Value)(w:World)(v:Value):Prop:=Calls prog f a w fun e w'=>e = .returned v/\Below w.heap.size w w'
def a0a := @Nat.le_refl
def a0b := @And.intro
def a0c := @Below.refl
def a0d := @if_neg
def a0e := @if_pos
def a0f := @Shut.out
def a0g := @Option.bind_some
def a0h := @Nat.zero_le
def a0i := @Nat.lt_of_lt_of_le
def a0j := @decide_eq_false
def a0k := @World.ownsRow.alloc
def a0l := @Nat.lt_succ_self
def a0m := @Option.some.injEq
def a0n := @Bool.and_eq_true
def a0o := @List.length_append
def a0p := @World.ownsRow.lt
def a0r := @Int.eq_ofNat_of_zero_le
def a0s := @info_parts
def a0t := @List.length_take
def a0u := @wpAnyH_done
def a0v := @wpList_append_own
def a0w := @decide_eq_true
def a0x := @Int.toNat_natCast
def a0y := @Nat.le_of_lt
def a0z := @wpAnyH_ready
def a0A := @List.length_replicate
def a0B := @Nat.zero_add
def a0C := @AllReadyH.cons
def a0D := @List.take_of_length_le
def a0E := @decide_eq_true_eq
def a0F := @Addr.mk.injEq
def a0G := @Nat.le_trans
def a0H := @wp_region_held_drew
def a0I := @Or.inl
def a0J := @List.length_cons
def a0K := @List.map_cons
def a0L := @underlying146
def a0M := @underlying23
def a0N := @ByteArray.size_append
def a0O := @Value.slice.injEq
def a0P := @World.ownsRow_lit
def a0Q := @wpAnyH_take
def a0R := @bodyPost_ret
def a0S := @underlying22
def a0T := @Below.heap_setCell
def a0U := @List.append_assoc
def a0V := @List.sum_cons
def a0W := @Nat.pow_le_pow_right
def a0X := @Prod.mk.injEq
def a0Y := @AllReadyH.nil
def a0Z := @Option.some.inj
def a00 := @IntKind.wrap_i64
def a01 := @List.length_drop
def a02 := @World.ownsRow.cellAt
def a03 := @beq_eq_false_iff_ne
def a04 := @List.length_nil
def a05 := @Nat.mod_lt
def a06 := @List.all_eq_true
def a07 := @Nat.pow_add
def a08 := @Lib.toList_data
def a09 := @if_true
def a1a := @and_true
def a1c := @List.flatMap_cons
def a1d := @List.map_append
def a1e := @Bool.false_eq_true
def a1f := @if_false
def a1g := @List.mem_singleton
def a1h := @List.mem_cons
def a1i := @List.take_succ_eq_append_getElem
def a1j := @List.mem_append
def a1k := @Nat.le_succ
def a1l := @List.length_map
def a1m := @run_underlying
def a1n := @func275
def a1o := @ntmps275
def a1q := @Option.getD_some
def a1r := @List.append_nil
def a1s := @Nat.min_eq_left
def a1t := @cell_of_row
def a1u := @Nat.mod_eq_of_lt
def a1v := @List.nil_append
def a1w := @Nat.mod_one
def a1x := @World.ownsRow_nil
def a1y := @World.ownsRow.kept
def a1z := @Nat.lt_or_ge
def a1A := @List.getElem_mem
def a1B := @Array.toList_append
def a1C := @or_false
def a1D := @Nat.two_pow_pos
def a1E := @Nat.mul_comm
def a1F := @Nat.add_mul
def a1G := @Int.lt_or_le
def a1H := @Nat.add_zero
def a1I := @Int.natCast_mul
def a1J := @List.take_append_of_le_length
def a1K := @func289
def a1L := @ntmps289
def a1M := @List.not_mem_nil
def a1N := @Nat.ne_of_lt
def a1O := @Nat.xor_lt_two_pow
def a1P := @List.eq_nil_of_length_eq_zero
def a1Q := @World.ownsRow.cells
def a1R := @List.length_singleton
def a1S := @World.ownsRow.stored
def a1T := @underlying9
def a1U := @Bool.or_eq_true
def a1V := @Nat.zero_lt_succ
def a1W := @func279
def a1X := @ntmps279
def a1Y := @List.drop_drop
def a1Z := @Bool.false_or
def a10 := @List.mem_cons_of_mem
def a11 := @run_callFunc_extern
def a12 := @Nat.pow_succ
def a13 := @List.take_append_drop
def a14 := @Nat.ne_of_gt
def a15 := @Int.tmod_eq_emod_of_nonneg
def a16 := @List.length_set
def a17 := @List.drop_zero
def a18 := @List.all_append
def a19 := @List.mem_of_mem_take
def a2a := @wpList_make_full
def a2b := @List.getElem_of_mem
def a2c := @ints_oneCell
def a2d := @List.append_inj
def a2e := @Option.bind_none
def a2f := @ByteArray.size_extract
def a2g := @underlying33
def a2h := @Nat.mul_le_mul_right
def a2i := @List.cons_append
def a2j := @Bool.eq_iff_iff
def a2k := @Nat.div_le_self
def a2l := @Nat.mul_one
def a2m := @Below.heap_alloc
def a2n := @Array.length_toList
def a2o := @Nat.add_sub_cancel_left
def a2p := @List.drop_of_length_le
def a2q := @List.all_cons
def a2r := @List.all_eq_false
def a2s := @List.flatMap_nil
def a2t := @ByteArray.data_append
def a2u := @List.append_cancel_left
def a2v := @Nat.div_div_eq_div_mul
def a2w := @Nat.mul_add
def a2x := @Nat.mul_assoc
def a2y := @ByteArray.ext
def a2z := @Nat.mul_le_mul
def a2A := @true_and
def a2B := @World.ownsRow.frozenAt
def a2C := @underlying5
def a2E := @Nat.eq_zero_or_pos
def a2F := @results72
def a2G := @Nat.div_eq_of_lt
def a2H := @Nat.add_comm
def a2I := @List.getD_cons_zero
def a2J := @u32_xor_nat
def a2K := @List.take_left'
def a2L := @MapKept.run_getObj_map
def a2M := @Sem.run_bind
def a2N := @underlying3
def a2O := @func191
def a2P := @ntmps191
def a2Q := @List.map_nil
def a2R := @Nat.one_mul
def a2S := @List.mem_map
def a2T := @size_zeroCells
def a2U := @beq_iff_eq
def a2V := @func72
def a2W := @ntmps72
def a2X := @Bool.and_true
def a2Y := @Bool.not_eq_true
def a2Z := @List.getD_cons_succ
def a20 := @decide_eq_true_iff
def a22 := @func94
def a23 := @ntmps94
def a26 := @Int.le_refl
def a27 := @Nat.min_eq_right
def a28 := @Array.size_append
def a29 := @Obj.cells.injEq
def a3a := @List.ext_getElem
def a3b := @List.flatMap_append
def a3c := @List.replicate_succ'
def a3d := @underlying179
def a3e := @List.replicate_zero
def a3f := @Nat.min_le_right
def a3g := @List.take_add
def a3h := @List.take_take
def a3i := @Bool.true_or
def a3j := @List.all_nil
def a3k := @List.count_le_length
def a3l := @func105
def a3m := @ntmps105
def a3p := @List.foldl_append
def a3q := @List.drop_eq_getElem_cons
def a3r := @List.mem_map_of_mem
def a3s := @of_decide_eq_true
def a3t := @func196
def a3u := @ntmps196
def a3v := @func187
def a3w := @ntmps187
def a3x := @func144
def a3y := @ntmps144
def a3z := @func150
def a3A := @ntmps150
def a3B := @decide_false
def a3C := @Int.natCast_nonneg
def a3D := @func231
def a3E := @ntmps231
def a3H := @grownCap_le_maxLen
def a3J := @run_convert_bytes_back
def a3K := @Nat.add_sub_cancel
def a3L := @Nat.sub_zero
def a3M := @UInt8.toNat_ofNat'
def a3N := @wpList_store_mid
def a3O := @World.rangeAt_setCells_same
def a3P := @underlying259
def a3Q := @underlying352
def a3R := @List.drop_take
def a3S := @List.take_succ_cons
def a3T := @List.drop_eq_nil_of_le
def a3U := @Option.map_some
def a3V := @List.any_eq_false
def a3W := @func117
def a3X := @ntmps117
def a3Z := @ntmps71
theorem ag{P : Program}{ops : Array Oper}{Q : Exit -> Act -> World -> Prop}{md : Region.Mode}{S : World -> Prop}(i : Nat)(v : Value){oi : Oper}{fuel : Nat}{listed : Array Bool}{a : Act}{w : World}(g : ops[i]? = some oi)(hb : (Region.noSelect ops && Region.free md ops listed i && (Region.ready md ops listed).contains i) = true)(e : ∀c a w, Q (.panic c) (a.put oi.dst v) w -> Q (.panic c) a w)(b : Region.wanted oi (yielded ops a.tmps) = true)(d : ∀w, S w -> (execOp a.eval oi).run P w = .ok (.value v) w)(f : S w)(h : wpAnyH P md ops Q S fuel (listed.setIfInBounds i true) (a.put oi.dst v) w) : wpAnyH P md ops Q S (fuel + 1) listed a w := by
 simp only[a0n]at hb;exact a0Q g hb.1.1 hb.1.2 hb.2 e (a0I ⟨b, d⟩) f h
theorem ah{P : Program}{ops : Array Oper}{Q : Exit -> Act -> World -> Prop}{md : Region.Mode}{S : World -> Prop}(i : Nat){o : Oper}{fuel : Nat}{listed : Array Bool}{a : Act}{w : World}(c : Region.ready md ops listed = [i])(b : ops[i]? = some o)(h : ∀K' : Act -> World -> Prop, Shut (∀a w, S w -> (S w -> wpAnyH P md ops Q S fuel (listed.setIfInBounds i true) a w) -> K' a w) -> if Region.wanted o (yielded ops a.tmps) = true then Oper.wp P o a w K' Q else K' (a.put o.dst undef) w) : wpAnyH P md ops Q S (fuel + 1) listed a w := a0z c (by simp) (a0C b h a0Y)
def okB(b:UInt8):Bool:=decide (97<=b.toNat)&&decide (b.toNat<=122) || (decide (48<=b.toNat)&&decide (b.toNat<=57) || (b.toNat == 46 || (b.toNat == 45 || b.toNat == 95)))
def eF(p:List UInt8):Bool:=p.all okB&&(decide (1<=p.length)&&(decide (p.length<=10)&&(!(p == [46])&&!(p == [46,46]))))
def cM:List UInt8->List UInt8->List (List UInt8)
 | cur,[]=>[cur]
 | cur,b :: l=>if b=47 then cur :: cM [] l else cM (cur++[b]) l
def lV(l:List UInt8):List (List UInt8):=cM [] l
def fG(l:List UInt8):Bool:=(lV l).all eF&&decide ((lV l).length<=4)
def ahead(cur:List UInt8):List (List UInt8)->List (List UInt8)
 | []=>[cur]
 | h :: t=>(cur++h) :: t
theorem mu:∀(l cur:List UInt8),cM cur l=ahead cur (cM [] l)
 | [],cur=>by simp[cM,ahead]
 | b :: l,cur=>by
  unfold cM;by_cases h:b=47
  . simp[h,ahead]
  .
   rw[a0d h,a0d h,mu l (cur++[b]),mu l ([]++[b])];cases a:cM [] l with
   | nil=>simp[ahead]
   | cons h t=>simp[ahead]
theorem Cv(l a:List UInt8):cM a l≠[]:=by
 induction l generalizing a with
 | nil=>simp[cM]
 | cons b l ih=>unfold cM;split<;>simp[ih]
theorem lw:∀(l cur:List UInt8) (b:UInt8),cM cur (l++[b])=if b=47 then cM cur l++[[]]else(cM cur l).dropLast++[(cM cur l).getLastD []++[b]]
 | [],cur,b=>by
  by_cases h:b=47<;>simp[cM,h]
 | c :: l,cur,b=>by
  rw[a2i];unfold cM;by_cases h:c=47
  .
   rw[a0e h,a0e h,lw l [] b];have a:=Cv l []
   split
   . simp
   .
    cases d:cM [] l with
    | nil=>exact absurd d a
    | cons x t=>simp
  . rw[a0d h,a0d h,lw l (cur++[c]) b]
theorem nz:∀(l cur:List UInt8),(cM cur l).length<=l.length+1
 | [],cur=>by simp[cM]
 | b :: l,cur=>by
  unfold cM
  split
  . have:=nz l [];simp;omega
  . have:=nz l (cur++[b]);simp;omega
theorem index_one(c b:UInt8)(l:List UInt8)(h:¬ b=c):Lib.index (b :: l) [c]=if Lib.index l [c] == -1 then -1 else Lib.index l [c]+1:=by
 rw[Lib.index];have:([c].isPrefixOf (b :: l))=false:=by simp only[List.isPrefixOf,a2X,a03,ne_eq];exact fun e=>h e.symm
 rw[this];simp
theorem rE(c:UInt8)(l:List UInt8):Lib.index (c :: l) [c]=0:=by
 rw[Lib.index];simp[List.isPrefixOf]
theorem pS(c:UInt8):∀(l:List UInt8),Lib.count l [c]≠0->∃k:Nat,Lib.index l [c]=k
 | [],h=>by
  rw[Lib.count_one]at h;simp at h
 | b :: l,h=>by
  by_cases e:b=c
  . subst e;exact⟨0,rE b l⟩
  .
   rw[Lib.count_cons_ne b c l e]at h;obtain⟨k,a⟩:=pS c l h;refine⟨k+1,?_⟩;rw[index_one c b l e,a];have:¬ ((k:Int) == -1)=true:=by simp
   rw[a0d this];omega
theorem zi(c b:UInt8)(l:List UInt8)(h:¬ b=c)(n:Nat)(d:n=Lib.count l [c]):Lib.splitK [c] 0 n (b :: l)=ahead [b] (Lib.splitK [c] 0 n l):=by
 cases n with
 | zero=>simp[Lib.splitK,ahead]
 | succ n=>
  obtain⟨k,a⟩:=pS c l (by omega);have e1:Lib.index (b :: l) [c]=((k+1:Nat):Int):=by
   rw[index_one c b l h,a];have:¬ ((k:Int) == -1)=true:=by simp
   rw[a0d this];omega
  have n1:¬ (Lib.index (b :: l) [c] == -1)=true:=by rw[e1];simp;omega
  have n2:¬ (Lib.index l [c] == -1)=true:=by rw[a];simp
  rw[Lib.splitK,a0d n1,e1,Lib.splitK,a0d n2,a];simp[ahead]
theorem pt:∀(l:List UInt8),Lib.splitK [47] 0 (Lib.count l [47]) l=cM [] l
 | []=>by
  have:Lib.count [] [47]=0:=by rw[Lib.count_one];rfl
  rw[this];simp[Lib.splitK,cM]
 | b :: l=>by
  by_cases h:b=47
  . subst h;rw[Lib.count_cons_eq,a2H,Lib.splitK,rE];simp[cM,pt l]
  . rw[Lib.count_cons_ne b 47 l h,zi 47 b l h _ rfl,pt l,cM,a0d h,mu l ([]++[b])];simp
def yV:List UInt8:=[97,98,99,100,101,102,103,104,105,106,107,108,109,110,111,112,113,114,115,116,117,118,119,120,121,122,48,49,50,51,52,53,54,55,56,57,46,45,95]
theorem Jm:((List.range 256).all fun n=>decide (Lib.indexByte yV n.toUInt8<0) == !okB n.toUInt8)=true:=by decide +kernel
theorem LP(b:UInt8):decide (Lib.indexByte yV b<0)=!okB b:=by
 have:=a06.1 Jm b.toNat (List.mem_range.2 b.toNat_lt);simpa using this
end Go.Proofs.YtkdlcomfpffhhaaGreatDoor
namespace Go.Proofs.YtkdlcomfpffhhaaGreatDoor
open Go.Proofs.Tryz
open Go.RowKit
theorem af{p:Prop}(h:p):Hid p:=h
theorem ae{p:Prop}(h:Hid p):p:=h
theorem aO{k:IntKind}{a b:Int}(h:a=b):Ending.returned (.int k a) = .returned (.int k b):=by rw[h]
theorem aj{a b:Bool}(h:a=b):Ending.returned (.bool a) = .returned (.bool b):=by rw[h]
def inB(n lo hi:Int):Bool:=decide (lo<=n)&&decide (n<=hi)
theorem aG{n lo a:Int} : inB n lo a=true<->lo<=n/\n<=a:=by simp[inB]
theorem dK{n lo a:Int} : inB n lo a=false<->n<lo∨a<n:=by
 rw[←a2Y,aG];omega
theorem aE(n lo a:Int)(w:World) :
  Calls prog 58 #[.int .i64 n,.int .i64 lo,.int .i64 a] w fun e w'=>e = .returned (.bool (inB n lo a))/\w'=w:=by
 by_cases h:lo<=n
 . go_enter func58,ntmps58;go_wp2;go_ret;exact⟨aj (by simp[inB,h]),rfl⟩
 . go_enter func58,ntmps58;go_wp2;go_ret;exact⟨aj (by simp[inB];omega),rfl⟩
def db:List UInt8->Nat
 | []=>0
 | b :: l=>b.toNat+256*db l
theorem iT(a b:List UInt8):db (a++b)=db a+2 ^ (8*a.length)*db b:=by
 induction a with
 | nil=>simp[db]
 | cons x a ih=>
  simp only[a2i,db,ih,a0J];have e:2 ^ (8*(a.length+1))=256*2 ^ (8*a.length):=by rw[a2w,a07,a1E]
  rw[e,a2w,a2x];omega
theorem ot(l:List UInt8):db l<2 ^ (8*l.length):=by
 induction l with
 | nil=>simp[db]
 | cons x l ih=>
  simp only[db,a0J];have e:2 ^ (8*(l.length+1))=256*2 ^ (8*l.length):=by rw[a2w,a07,a1E]
  rw[e];have:=x.toNat_lt;omega
theorem zP(l:List UInt8)(j:Nat):db l/2 ^ (8*j)%256=(l.getD j 0).toNat:=by
 induction l generalizing j with
 | nil=>simp[db]
 | cons x l ih=>
  have a:=x.toNat_lt;cases j with
  | zero=>
   simp only[db,Nat.mul_zero,Nat.pow_zero,Nat.div_one,a2I];omega
  | succ j=>
   simp only[db,a2Z];rw[←ih j,show 8*(j+1)=8+8*j by omega,a07,←a2v]
   congr 2
   show(x.toNat+256*db l)/256=db l;omega
theorem MW(l:List UInt8)(p:Nat):(l.getD (p/8) 0).toNat/2 ^ (p%8)%2=db l/2 ^ p%2:=by
 rw[←zP];have e8:256=2 ^ (p%8)*2 ^ (8-p%8):=by
  rw[←a07,show p%8+(8-p%8)=8 by omega]
 have e2:2∣2 ^ (8-p%8):=by
  rw[show 8-p%8=(7-p%8)+1 by omega,a12];exact Nat.dvd_mul_left _ _
 rw[e8,Nat.mod_mul_right_div_self,Nat.mod_mod_of_dvd _ e2,a2v,←a07,show 8*(p/8)+p%8=p by omega]
theorem GR(l:List UInt8)(p:Nat)(h:8*l.length<=p):db l/2 ^ p%2=0:=by
 rw[a2G (a0i (ot l) (a0W (by omega) h))]
def bS:List Nat:=[16,17,18,0,8,7,9,6,10,5,11,4,12,3,13,2,14,1,15]
theorem uW(n:Int)(w:World) :
  Calls prog 145 #[.int .i64 n] w fun e w'=>e = .returned (.bool (inB n 0 4294967295))/\w'=w:=by
 by_cases h:0<=n
 . go_enter func145,ntmps145;go_wp2;go_ret;exact⟨aj (by simp[inB,h]),rfl⟩
 . go_enter func145,ntmps145;go_wp2;go_ret;exact⟨aj (by simp[inB];omega),rfl⟩
open Corb
theorem Mo(x:Nat)(h:x<4294967296):bits .and .u32 (x:Int) 1=(x:Int)%2:=by
 have:=u32_and_nat x 1 h (by omega);rw[show((1:Nat):Int)=1 from rfl]at this;rw[this,nat_mask1];omega
theorem zM(x:Nat)(h:x<4294967296):bits .xor .u32 ((x:Int)/2) 3988292384=((x/2 ^^^ 3988292384:Nat):Int):=by
 have:=a2J (x/2) 3988292384 (by omega) (by omega);rw[show((x/2:Nat):Int)=(x:Int)/2 by omega]at this;exact this
theorem JG(x:Nat)(h:x%2=1):sh x=x/2 ^^^ 3988292384:=a0e h
theorem Dx(x:Nat)(h:¬ x%2=1):sh x=x/2:=a0d h
theorem vF(r n:Int)(w:World)(d:0<=r)(o:r<4294967296)(b:0<=n)(l:n<=1000000) :
  Calls prog 188 #[.int .u32 r,.int .i64 n] w fun e w'=>e = .returned (.int .u32 (shN n.toNat r.toNat:Nat))/\w'=w:=by
 obtain⟨R,rfl⟩:=a0r d;obtain⟨m,rfl⟩:=a0r b;rw[a0x,a0x];go_enter func188,ntmps188;go_wp2
 go_loop [0,6] (fun x i=>∃k:Nat,k<=m/\i = .int .i64 k/\x = .int .u32 (shN k R:Nat)) (fun _ i=>m-(intOf i).toNat)
 case atStart=>exact⟨0,a0h _,rfl,rfl⟩
 case round=>
  obtain⟨k,q,rfl,rfl⟩:=hrel;have g:=sU k R (by omega);have f:=af (uU k R);by_cases j:k<m
  .
   generalize h:shN k R=x at *
   clear h;have p:=Mo x g;have h2:=zM x g;by_cases a:x%2=1
   .
    have c:(x:Int)%2=1:=by omega
    have H:=af a;clear a;go_wp2
    go_round
    case rel=>exact⟨k+1,by omega,by go_num,by rw[ae f,JG x (ae H)]⟩
    case measure=>simp[intOf];omega
   .
    have c:(x:Int)%2=0:=by omega
    have H:=af a;clear a;go_wp2
    go_round
    case rel=>exact⟨k+1,by omega,by go_num,by rw[ae f,Dx x (ae H)];rfl⟩
    case measure=>simp[intOf];omega
  . go_wp2;go_ret;exact⟨aO (by rw[show k=m by omega]),rfl⟩
theorem oq(x:Nat)(b:Nat)(h:x<4294967296)(hb:b<256):bits .xor .u32 (x:Int) (b:Int)=((x ^^^ b:Nat):Int):=
 a2J x b h (by omega)
theorem Bb(c b:Int)(w:World)(h:0<=c)(s:c<4294967296)(f:0<=b)(r:b<256) :
  Calls prog 193 #[.int .u32 c,.int .u8 b] w fun e w'=>e = .returned (.int .u32 (shN 8 (c.toNat ^^^ b.toNat):Nat))/\w'=w:=by
 obtain⟨R,rfl⟩:=a0r h;obtain⟨B,rfl⟩:=a0r f;rw[a0x,a0x];have j:=oq R B (by omega) (by omega);have a:R ^^^ B<4294967296:=a1O (n:=32) (by omega) (by omega);generalize R ^^^ B=X at *
 go_enter func193,ntmps193;go_wp2
 go_loop [0,5] (fun x i=>∃k:Nat,k<=8/\i = .int .i64 k/\x = .int .u32 (shN k X:Nat)) (fun _ i=>8-(intOf i).toNat)
 case atStart=>exact⟨0,by omega,rfl,rfl⟩
 case round=>
  obtain⟨k,o,rfl,rfl⟩:=hrel;have t:=sU k X a;have p:(k:Int)<=8:=by omega
  clear o;have l:=af (uU k X);clear j a;by_cases q:(k:Int)<8
  .
   generalize m:shN k X=x at *
   clear m;have h2:=zM x t;by_cases d:x%2=1
   .
    have g:(x:Int)%2=1:=by omega
    have H:=af d;clear d;go_wp2
    go_round
    case rel=>exact⟨k+1,by omega,by go_num,by rw[ae l,JG x (ae H)]⟩
    case measure=>simp[intOf];omega
   .
    have g:(x:Int)%2=0:=by omega
    have H:=af d;clear d;go_wp2
    go_round
    case rel=>exact⟨k+1,by omega,by go_num,by rw[ae l,Dx x (ae H)];rfl⟩
    case measure=>simp[intOf];omega
  . go_wp2;go_ret;exact⟨aO (by rw[show k=8 by omega]),rfl⟩
theorem uY(s:ByteArray)(k:Nat)(h:k<s.size):s.data.toList.take (k+1)=s.data.toList.take k++[s[k]]:=by
 rw[a1i (by simpa using h)];rfl
theorem uo(c:Nat)(l:List UInt8)(b:UInt8):fold c (l++[b])=shN 8 (fold c l ^^^ b.toNat):=by
 rw[xC];rfl
theorem Ba(c:Int)(s:ByteArray)(w:World)(m:0<=c)(q:c<4294967296)(p:s.size<=maxLen) :
  Calls prog 152 #[.int .u32 c,.string s] w fun e w'=>e = .returned (.int .u32 (aL c.toNat s.data.toList:Nat))/\w'=w:=by
 obtain⟨C,rfl⟩:=a0r m;rw[a0x];unfold maxLen at p;have g:bits .xor .u32 (C:Int) 4294967295=((C ^^^ full:Nat):Int):=a2J C 4294967295 (by omega) (by omega);have a:C ^^^ full<4294967296:=a1O (n:=32) (by omega) (by decide);have l:Hid (aL C s.data.toList=fold (C ^^^ full) s.data.toList ^^^ full):=rfl;generalize C ^^^ full=X at *
 generalize b:aL C s.data.toList=F at *
 clear b;go_enter func152,ntmps152;go_wp2
 go_loop [5,6] (fun c i=>∃k:Nat,k<=s.size/\i = .int .i64 k/\c = .int .u32 (fold X (s.data.toList.take k):Nat)) (fun _ i=>s.size-(intOf i).toNat)
 case atStart=>exact⟨0,a0h _,rfl,rfl⟩
 case round=>
  obtain⟨k,r,rfl,rfl⟩:=hrel;have o:=vQ X (s.data.toList.take k) a;by_cases d:k<s.size
  .
   have f:Hid (fold X (s.data.toList.take (k+1))=shN 8 (fold X (s.data.toList.take k) ^^^ s[k].toNat)):=by
    rw[uY s k d,uo];exact rfl
   have hb:(s[k].toNat:Int)<256:=by have:=vE s[k];omega
   generalize fold X (s.data.toList.take k)=x at *
   clear g a;go_wp2_with (go_at_call 193;refine(Bb _ _ _ (by omega) (by omega) (by omega) (by omega)).mono ?_;rintro e w' ⟨rfl,rfl⟩)
   go_round
   case rel=>exact⟨k+1,by omega,by go_num,by rw[ae f]⟩
   case measure=>simp[intOf];omega
  .
   have t:bits .xor .u32 ((fold X (s.data.toList.take k):Nat):Int) 4294967295=((fold X (s.data.toList.take k) ^^^ full:Nat):Int):=a2J _ 4294967295 o (by omega);have j:Hid (fold X (s.data.toList.take k) ^^^ full=F):=by
    have h:=ae l;rw[h,a0D (by simp;omega)];exact rfl
   generalize fold X (s.data.toList.take k) ^^^ full=v at *
   generalize fold X (s.data.toList.take k)=x at *
   clear g a;go_wp2;go_ret;exact⟨aO (by rw[ae j]),rfl⟩
theorem qg(s:ByteArray)(w:World)(a:s.size<=maxLen) :
  Calls prog 106 #[.string s] w fun e w'=>e = .returned (.int .i64 (aL 0 s.data.toList:Nat))/\w'=w:=by
 have hb:aL 0 s.data.toList<4294967296:=mt _ _ (by omega);go_enter func106,ntmps106;go_wp2_with (go_at_call 152;refine(Ba _ _ _ (by omega) (by omega) a).mono ?_;rintro e w' ⟨rfl,rfl⟩);go_ret;exact⟨rfl,rfl⟩
def cmI(c:Int)(l:List UInt8):Int:=if inB c 0 4294967295=true then(aL c.toNat l:Nat)else -1
theorem Cs{c:Int}{l:List UInt8}(h:inB c 0 4294967295=true):cmI c l=(aL c.toNat l:Nat):=a0e h
theorem MY{c:Int}{l:List UInt8}(h:inB c 0 4294967295=false):cmI c l = -1:=a0d (by simp[h])
theorem ii{a b:ByteArray}(h:a.data.toList=b.data.toList):a=b:=a2y (Array.toList_inj.1 h)
end Go.Proofs.YtkdlcomfpffhhaaGreatDoor
