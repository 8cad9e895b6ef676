/- Of what the proof is made: 8 texts, one behind the other. -/
import Derived.Lib.Split
import Derived.Lib.SplitLaws
import Derived.Lib.IndexLaws
import Derived.KernelRfl
import Derived.Test.YtkdlcomfpffhhaaGreatDoorRows
import Derived.WalkKit
import Derived.WalkSpells
import Derived.Below
import Derived.Laws.BitsAllLaws
import Derived.Test.YtkdlcomfpffhhaaGreatDoorM2
import Derived.Test.YtkdlcomfpffhhaaGreatDoorM1
namespace Go.Proofs.YtkdlcomfpffhhaaGreatDoor
open Go
def okB (b:UInt8):Bool:=decide (97≤b.toNat)&&decide (b.toNat≤122) || (decide (48≤b.toNat)&&decide (b.toNat≤57) || (b.toNat == 46 || (b.toNat == 45 || b.toNat == 95)))
def partB (p:List UInt8):Bool:=p.all okB&&(decide (1≤p.length)&&(decide (p.length≤10)&&(!(p == [46])&&!(p == [46,46]))))
def cutG:List UInt8→List UInt8→List (List UInt8)
 | cur,[]=>[cur]
 | cur,b :: l=>if b=47 then cur :: cutG [] l else cutG (cur++[b]) l
def cutP (l:List UInt8):List (List UInt8):=cutG [] l
def nameB (l:List UInt8):Bool:=(cutP l).all partB&&decide ((cutP l).length≤4)
def ahead (cur:List UInt8):List (List UInt8)→List (List UInt8)
 | []=>[cur]
 | h :: t=>(cur++h) :: t
theorem cutG_ahead:∀ (l cur:List UInt8),cutG cur l=ahead cur (cutG [] l)
 | [],cur=>by simp [cutG,ahead]
 | b :: l,cur=>by
  unfold cutG
  by_cases h:b=47
  ·
   simp [h,ahead]
  ·
   rw [if_neg h,if_neg h,cutG_ahead l (cur++[b]),cutG_ahead l ([]++[b])]
   cases hc:cutG [] l with
   | nil=>simp [ahead]
   | cons h t=>simp [ahead]
theorem cutG_ne (l cur:List UInt8):cutG cur l≠[]:=by
 induction l generalizing cur with
 | nil=>simp [cutG]
 | cons b l ih=>unfold cutG; split <;> simp [ih]
theorem cutG_snoc:∀ (l cur:List UInt8) (b:UInt8),cutG cur (l++[b])=if b=47 then cutG cur l++[[]] else (cutG cur l).dropLast++[(cutG cur l).getLastD []++[b]]
 | [],cur,b=>by
  by_cases h:b=47 <;> simp [cutG,h]
 | c :: l,cur,b=>by
  rw [List.cons_append]
  unfold cutG
  by_cases h:c=47
  ·
   rw [if_pos h,if_pos h,cutG_snoc l [] b]
   have hne:=cutG_ne l []
   split
   ·
    simp
   ·
    cases hc:cutG [] l with
    | nil=>exact absurd hc hne
    | cons x t=>simp
  ·
   rw [if_neg h,if_neg h,cutG_snoc l (cur++[c]) b]
theorem cutG_len:∀ (l cur:List UInt8),(cutG cur l).length≤l.length+1
 | [],cur=>by simp [cutG]
 | b :: l,cur=>by
  unfold cutG
  split
  ·
   have:=cutG_len l []; simp; omega
  ·
   have:=cutG_len l (cur++[b]); simp; omega
theorem index_one (c b:UInt8) (l:List UInt8) (h:¬ b=c):Lib.index (b :: l) [c]=if Lib.index l [c] == -1 then -1 else Lib.index l [c]+1:=by
 rw [Lib.index]
 have:([c].isPrefixOf (b :: l))=false:=by simp only [List.isPrefixOf,Bool.and_true,beq_eq_false_iff_ne,ne_eq]; exact fun e=>h e.symm
 rw [this]; simp
theorem index_same (c:UInt8) (l:List UInt8):Lib.index (c :: l) [c]=0:=by
 rw [Lib.index]; simp [List.isPrefixOf]
theorem index_there (c:UInt8):∀ (l:List UInt8),Lib.count l [c]≠0→∃ k:Nat,Lib.index l [c]=k
 | [],h=>by
  rw [Lib.count_one] at h
  simp at h
 | b :: l,h=>by
  by_cases e:b=c
  ·
   subst e; exact ⟨0,index_same b l⟩
  ·
   rw [Lib.count_cons_ne b c l e] at h
   obtain ⟨k,hk⟩:=index_there c l h
   refine ⟨k+1,?_⟩
   rw [index_one c b l e,hk]
   have:¬ ((k:Int) == -1)=true:=by simp
   rw [if_neg this]; omega
theorem splitK_cons (c b:UInt8) (l:List UInt8) (h:¬ b=c) (n:Nat) (hn:n=Lib.count l [c]):Lib.splitK [c] 0 n (b :: l)=ahead [b] (Lib.splitK [c] 0 n l):=by
 cases n with
 | zero=>simp [Lib.splitK,ahead]
 | succ n=>
  obtain ⟨k,hk⟩:=index_there c l (by omega)
  have e1:Lib.index (b :: l) [c]=((k+1:Nat):Int):=by
   rw [index_one c b l h,hk]
   have:¬ ((k:Int) == -1)=true:=by simp
   rw [if_neg this]; omega
  have n1:¬ (Lib.index (b :: l) [c] == -1)=true:=by rw [e1]; simp; omega
  have n2:¬ (Lib.index l [c] == -1)=true:=by rw [hk]; simp
  rw [Lib.splitK,if_neg n1,e1,Lib.splitK,if_neg n2,hk]
  simp [ahead]
theorem split_cut:∀ (l:List UInt8),Lib.splitK [47] 0 (Lib.count l [47]) l=cutG [] l
 | []=>by
  have:Lib.count [] [47]=0:=by rw [Lib.count_one]; rfl
  rw [this]; simp [Lib.splitK,cutG]
 | b :: l=>by
  by_cases h:b=47
  ·
   subst h
   rw [Lib.count_cons_eq,Nat.add_comm,Lib.splitK,index_same]
   simp [cutG,split_cut l]
  ·
   rw [Lib.count_cons_ne b 47 l h,splitK_cons 47 b l h _ rfl,split_cut l,cutG,if_neg h,cutG_ahead l ([]++[b])]
   simp
def partL:List UInt8:=[97,98,99,100,101,102,103,104,105,106,107,108,109,110,111,112,113,114,115,116,117,118,119,120,121,122,48,49,50,51,52,53,54,55,56,57,46,45,95]
theorem part_all:((List.range 256).all fun n=>decide (Lib.indexByte partL n.toUInt8<0) == !okB n.toUInt8)=true:=by decide +kernel
theorem part_in (b:UInt8):decide (Lib.indexByte partL b<0)=!okB b:=by
 have:=List.all_eq_true.1 part_all b.toNat (List.mem_range.2 b.toNat_lt)
 simpa using this
end Go.Proofs.YtkdlcomfpffhhaaGreatDoor
namespace Go.Proofs.YtkdlcomfpffhhaaGreatDoor
open Go.RowKit
theorem hide {p:Prop} (h:p):Hid p:=h
theorem unhide {p:Prop} (h:Hid p):p:=h
theorem ret_int {k:IntKind} {a b:Int} (h:a=b):Ending.returned (.int k a) = .returned (.int k b):=by rw [h]
theorem ret_bool {a b:Bool} (h:a=b):Ending.returned (.bool a) = .returned (.bool b):=by rw [h]
def inB (n lo hi:Int):Bool:=decide (lo≤n)&&decide (n≤hi)
theorem inB_true {n lo hi:Int} : inB n lo hi=true↔lo≤n∧n≤hi:=by simp [inB]
theorem inB_false {n lo hi:Int} : inB n lo hi=false↔n<lo∨hi<n:=by
 rw [←Bool.not_eq_true,inB_true]; omega
theorem l1In_any (n lo hi:Int) (w:World) :
  Calls Tryz.prog 58 #[.int .i64 n,.int .i64 lo,.int .i64 hi] w fun e w'=>e = .returned (.bool (inB n lo hi))∧w'=w:=by
 by_cases h:lo≤n
 ·
  go_enter Tryz.func58,Tryz.ntmps58
  go_wp2
  go_ret
  exact ⟨ret_bool (by simp [inB,h]),rfl⟩
 ·
  go_enter Tryz.func58,Tryz.ntmps58
  go_wp2
  go_ret
  exact ⟨ret_bool (by simp [inB]; omega),rfl⟩
end Go.Proofs.YtkdlcomfpffhhaaGreatDoor
namespace Go.Proofs.YtkdlcomfpffhhaaGreatDoor
def valB:List UInt8→Nat
 | []=>0
 | b :: l=>b.toNat+256*valB l
theorem valB_append (a b:List UInt8):valB (a++b)=valB a+2 ^ (8*a.length)*valB b:=by
 induction a with
 | nil=>simp [valB]
 | cons x a ih=>
  simp only [List.cons_append,valB,ih,List.length_cons]
  have e:2 ^ (8*(a.length+1))=256*2 ^ (8*a.length):=by rw [Nat.mul_add,Nat.pow_add,Nat.mul_comm]
  rw [e,Nat.mul_add,Nat.mul_assoc]
  omega
theorem valB_lt (l:List UInt8):valB l<2 ^ (8*l.length):=by
 induction l with
 | nil=>simp [valB]
 | cons x l ih=>
  simp only [valB,List.length_cons]
  have e:2 ^ (8*(l.length+1))=256*2 ^ (8*l.length):=by rw [Nat.mul_add,Nat.pow_add,Nat.mul_comm]
  rw [e]
  have:=x.toNat_lt
  omega
theorem valB_get (l:List UInt8) (j:Nat):valB l/2 ^ (8*j)%256=(l.getD j 0).toNat:=by
 induction l generalizing j with
 | nil=>simp [valB]
 | cons x l ih=>
  have hx:=x.toNat_lt
  cases j with
  | zero=>
   simp only [valB,Nat.mul_zero,Nat.pow_zero,Nat.div_one,List.getD_cons_zero]
   omega
  | succ j=>
   simp only [valB,List.getD_cons_succ]
   rw [←ih j,show 8*(j+1)=8+8*j by omega,Nat.pow_add,←Nat.div_div_eq_div_mul]
   congr 2
   show (x.toNat+256*valB l)/256=valB l
   omega
theorem bit_at (l:List UInt8) (p:Nat):(l.getD (p/8) 0).toNat/2 ^ (p%8)%2=valB l/2 ^ p%2:=by
 rw [←valB_get]
 have e8:256=2 ^ (p%8)*2 ^ (8-p%8):=by
  rw [←Nat.pow_add,show p%8+(8-p%8)=8 by omega]
 have e2:2∣2 ^ (8-p%8):=by
  rw [show 8-p%8=(7-p%8)+1 by omega,Nat.pow_succ]
  exact Nat.dvd_mul_left _ _
 rw [e8,Nat.mod_mul_right_div_self,Nat.mod_mod_of_dvd _ e2,Nat.div_div_eq_div_mul,←Nat.pow_add,show 8*(p/8)+p%8=p by omega]
theorem bit_past (l:List UInt8) (p:Nat) (h:8*l.length≤p):valB l/2 ^ p%2=0:=by
 rw [Nat.div_eq_of_lt (Nat.lt_of_lt_of_le (valB_lt l) (Nat.pow_le_pow_right (by omega) h))]
def ordL:List Nat:=[16,17,18,0,8,7,9,6,10,5,11,4,12,3,13,2,14,1,15]
open Go.RowKit
theorem sumOk_any (n:Int) (w:World) :
  Calls Tryz.prog 145 #[.int .i64 n] w fun e w'=>e = .returned (.bool (inB n 0 4294967295))∧w'=w:=by
 by_cases h:0≤n
 ·
  go_enter Tryz.func145,Tryz.ntmps145
  go_wp2
  go_ret
  exact ⟨ret_bool (by simp [inB,h]),rfl⟩
 ·
  go_enter Tryz.func145,Tryz.ntmps145
  go_wp2
  go_ret
  exact ⟨ret_bool (by simp [inB]; omega),rfl⟩
end Go.Proofs.YtkdlcomfpffhhaaGreatDoor
namespace Go.Proofs.YtkdlcomfpffhhaaGreatDoor
open Go.RowKit Corb
theorem u32_one (x:Nat) (h:x<4294967296):bits .and .u32 (x:Int) 1=(x:Int)%2:=by
 have:=u32_and_nat x 1 h (by omega)
 rw [show ((1:Nat):Int)=1 from rfl] at this
 rw [this,nat_mask1]; omega
theorem u32_poly (x:Nat) (h:x<4294967296):bits .xor .u32 ((x:Int)/2) 3988292384=((x/2 ^^^ 3988292384:Nat):Int):=by
 have:=u32_xor_nat (x/2) 3988292384 (by omega) (by omega)
 rw [show ((x/2:Nat):Int)=(x:Int)/2 by omega] at this
 exact this
theorem sh_odd (x:Nat) (h:x%2=1):sh x=x/2 ^^^ 3988292384:=if_pos h
theorem sh_even (x:Nat) (h:¬ x%2=1):sh x=x/2:=if_neg h
set_option maxHeartbeats 400000 in
theorem crcShift_any (r n:Int) (w:World) (hr0:0≤r) (hr1:r<4294967296) (hn0:0≤n) (hn1:n≤1000000) :
  Calls Tryz.prog 188 #[.int .u32 r,.int .i64 n] w fun e w'=>e = .returned (.int .u32 (shN n.toNat r.toNat:Nat))∧w'=w:=by
 obtain ⟨R,rfl⟩:=Int.eq_ofNat_of_zero_le hr0
 obtain ⟨m,rfl⟩:=Int.eq_ofNat_of_zero_le hn0
 rw [Int.toNat_natCast,Int.toNat_natCast]
 go_enter Tryz.func188,Tryz.ntmps188
 go_wp2
 go_loop [0,6] (fun x i=>∃ k:Nat,k≤m∧i = .int .i64 k∧x = .int .u32 (shN k R:Nat)) (fun _ i=>m-(intOf i).toNat)
 case atStart=>exact ⟨0,Nat.zero_le _,rfl,rfl⟩
 case round=>
  obtain ⟨k,hk,rfl,rfl⟩:=hrel
  have hx:=shN_lt k R (by omega)
  have hs:=hide (shN_succ' k R)
  by_cases hlt:k<m
  ·
   generalize hX:shN k R=x at *
   clear hX
   have h1:=u32_one x hx
   have h2:=u32_poly x hx
   by_cases ho:x%2=1
   ·
    have ho':(x:Int)%2=1:=by omega
    have H:=hide ho
    clear ho
    go_wp2
    go_round
    case rel=>exact ⟨k+1,by omega,by go_num,by rw [unhide hs,sh_odd x (unhide H)]⟩
    case measure=>simp [intOf]; omega
   ·
    have ho':(x:Int)%2=0:=by omega
    have H:=hide ho
    clear ho
    go_wp2
    go_round
    case rel=>exact ⟨k+1,by omega,by go_num,by rw [unhide hs,sh_even x (unhide H)]; rfl⟩
    case measure=>simp [intOf]; omega
  ·
   go_wp2
   go_ret
   exact ⟨ret_int (by rw [show k=m by omega]),rfl⟩
theorem u32_xor_byte (x:Nat) (b:Nat) (h:x<4294967296) (hb:b<256):bits .xor .u32 (x:Int) (b:Int)=((x ^^^ b:Nat):Int):=
 u32_xor_nat x b h (by omega)
set_option maxHeartbeats 400000 in
theorem l2Step_any (c b:Int) (w:World) (hr0:0≤c) (hr1:c<4294967296) (hn0:0≤b) (hn1:b<256) :
  Calls Tryz.prog 193 #[.int .u32 c,.int .u8 b] w fun e w'=>e = .returned (.int .u32 (shN 8 (c.toNat ^^^ b.toNat):Nat))∧w'=w:=by
 obtain ⟨R,rfl⟩:=Int.eq_ofNat_of_zero_le hr0
 obtain ⟨B,rfl⟩:=Int.eq_ofNat_of_zero_le hn0
 rw [Int.toNat_natCast,Int.toNat_natCast]
 have hx0:=u32_xor_byte R B (by omega) (by omega)
 have hlt0:R ^^^ B<4294967296:=Nat.xor_lt_two_pow (n:=32) (by omega) (by omega)
 generalize R ^^^ B=X at *
 go_enter Tryz.func193,Tryz.ntmps193
 go_wp2
 go_loop [0,5] (fun x i=>∃ k:Nat,k≤8∧i = .int .i64 k∧x = .int .u32 (shN k X:Nat)) (fun _ i=>8-(intOf i).toNat)
 case atStart=>exact ⟨0,by omega,rfl,rfl⟩
 case round=>
  obtain ⟨k,hk,rfl,rfl⟩:=hrel
  have hx:=shN_lt k X hlt0
  have hk':(k:Int)≤8:=by omega
  clear hk
  have hs:=hide (shN_succ' k X)
  clear hx0 hlt0
  by_cases hlt:(k:Int)<8
  ·
   generalize hX:shN k X=x at *
   clear hX
   have h2:=u32_poly x hx
   by_cases ho:x%2=1
   ·
    have ho':(x:Int)%2=1:=by omega
    have H:=hide ho
    clear ho
    go_wp2
    go_round
    case rel=>exact ⟨k+1,by omega,by go_num,by rw [unhide hs,sh_odd x (unhide H)]⟩
    case measure=>simp [intOf]; omega
   ·
    have ho':(x:Int)%2=0:=by omega
    have H:=hide ho
    clear ho
    go_wp2
    go_round
    case rel=>exact ⟨k+1,by omega,by go_num,by rw [unhide hs,sh_even x (unhide H)]; rfl⟩
    case measure=>simp [intOf]; omega
  ·
   go_wp2
   go_ret
   exact ⟨ret_int (by rw [show k=8 by omega]),rfl⟩
theorem take_snoc (s:ByteArray) (k:Nat) (h:k<s.size):s.data.toList.take (k+1)=s.data.toList.take k++[s[k]]:=by
 rw [List.take_succ_eq_append_getElem (by simpa using h)]; rfl
theorem fold_snoc (c:Nat) (l:List UInt8) (b:UInt8):fold c (l++[b])=shN 8 (fold c l ^^^ b.toNat):=by
 rw [fold_append]; rfl
set_option maxHeartbeats 400000 in
theorem l2More_any (c:Int) (s:ByteArray) (w:World) (h0:0≤c) (h1:c<4294967296) (hs:s.size≤maxLen) :
  Calls Tryz.prog 152 #[.int .u32 c,.string s] w fun e w'=>e = .returned (.int .u32 (crcMore c.toNat s.data.toList:Nat))∧w'=w:=by
 obtain ⟨C,rfl⟩:=Int.eq_ofNat_of_zero_le h0
 rw [Int.toNat_natCast]
 unfold maxLen at hs
 have hx:bits .xor .u32 (C:Int) 4294967295=((C ^^^ full:Nat):Int):=u32_xor_nat C 4294967295 (by omega) (by omega)
 have hxl:C ^^^ full<4294967296:=Nat.xor_lt_two_pow (n:=32) (by omega) (by decide)
 have HF:Hid (crcMore C s.data.toList=fold (C ^^^ full) s.data.toList ^^^ full):=rfl
 generalize C ^^^ full=X at *
 generalize hfin:crcMore C s.data.toList=F at *
 clear hfin
 go_enter Tryz.func152,Tryz.ntmps152
 go_wp2
 go_loop [5,6] (fun c i=>∃ k:Nat,k≤s.size∧i = .int .i64 k∧c = .int .u32 (fold X (s.data.toList.take k):Nat)) (fun _ i=>s.size-(intOf i).toNat)
 case atStart=>exact ⟨0,Nat.zero_le _,rfl,rfl⟩
 case round=>
  obtain ⟨k,hk,rfl,rfl⟩:=hrel
  have hl:=fold_lt X (s.data.toList.take k) hxl
  by_cases hlt:k<s.size
  ·
   have hsn:Hid (fold X (s.data.toList.take (k+1))=shN 8 (fold X (s.data.toList.take k) ^^^ s[k].toNat)):=by
    rw [take_snoc s k hlt,fold_snoc]; exact rfl
   have hb:(s[k].toNat:Int)<256:=by have:=byte_lt s[k]; omega
   generalize fold X (s.data.toList.take k)=x at *
   clear hx hxl
   go_wp2_with (go_at_call 193; refine (l2Step_any _ _ _ (by omega) (by omega) (by omega) (by omega)).mono ?_; rintro e w' ⟨rfl,rfl⟩)
   go_round
   case rel=>exact ⟨k+1,by omega,by go_num,by rw [unhide hsn]⟩
   case measure=>simp [intOf]; omega
  ·
   have hu:bits .xor .u32 ((fold X (s.data.toList.take k):Nat):Int) 4294967295=((fold X (s.data.toList.take k) ^^^ full:Nat):Int):=u32_xor_nat _ 4294967295 hl (by omega)
   have HE:Hid (fold X (s.data.toList.take k) ^^^ full=F):=by
    have h:=unhide HF
    rw [h,List.take_of_length_le (by simp; omega)]; exact rfl
   generalize fold X (s.data.toList.take k) ^^^ full=v at *
   generalize fold X (s.data.toList.take k)=x at *
   clear hx hxl
   go_wp2
   go_ret
   exact ⟨ret_int (by rw [unhide HE]),rfl⟩
theorem specCrc_any (s:ByteArray) (w:World) (hs:s.size≤maxLen) :
  Calls Tryz.prog 106 #[.string s] w fun e w'=>e = .returned (.int .i64 (crcMore 0 s.data.toList:Nat))∧w'=w:=by
 have hb:crcMore 0 s.data.toList<4294967296:=crcMore_lt _ _ (by omega)
 go_enter Tryz.func106,Tryz.ntmps106
 go_wp2_with (go_at_call 152; refine (l2More_any _ _ _ (by omega) (by omega) hs).mono ?_; rintro e w' ⟨rfl,rfl⟩)
 go_ret
 exact ⟨rfl,rfl⟩
def cmI (c:Int) (l:List UInt8):Int:=if inB c 0 4294967295=true then (crcMore c.toNat l:Nat) else -1
theorem cmI_yes {c:Int} {l:List UInt8} (h:inB c 0 4294967295=true):cmI c l=(crcMore c.toNat l:Nat):=if_pos h
theorem cmI_no {c:Int} {l:List UInt8} (h:inB c 0 4294967295=false):cmI c l = -1:=if_neg (by simp [h])
end Go.Proofs.YtkdlcomfpffhhaaGreatDoor
namespace Go.Proofs.YtkdlcomfpffhhaaGreatDoor
theorem ba_of_list {a b:ByteArray} (h:a.data.toList=b.data.toList):a=b:=ByteArray.ext (Array.toList_inj.1 h)
end Go.Proofs.YtkdlcomfpffhhaaGreatDoor
